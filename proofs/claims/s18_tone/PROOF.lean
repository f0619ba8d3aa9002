import PyProof.Rows.All
import Wide.All
import OpenK.AllK
import Wide.FinOn
import PyProof.EqAt
import PyProof.EqKinds
import PyProof.TupleCall
import KE.BitLaws
import Open.SpecLaws
import KE.OsHead
import KE.OsGo
import KE.KSortTupG
import PySem.Challenge.RW_platehalldesk_s18_tone
set_option Elab.async false
set_option linter.all false
set_option maxRecDepth 100000
namespace L2
open PySem PySem.Spec PyProof.Rows

/-- a key: an int or a str -/
abbrev Key := Sum Int Str
def keyIs : Key → Value → Bool
  | .inl k, v => Value.isInt k v
  | .inr x, v => Value.isStrOf x v
def keyH (w : World) : Key → Int
  | .inl k => hashInt k
  | .inr x => hashStr w x
theorem keyIs_shape : ∀ {k : Key} {v : Value}, keyIs k v = true → (∃ i t, k = Sum.inl i ∧ v = Value.int i t) ∨ (∃ x t, k = Sum.inr x ∧ v = Value.str x t)
  | .inl i, v, h => by
    obtain ⟨t, e⟩ := Value.isInt_shape (k := i) (v := v) h
    exact .inl ⟨i, t, rfl, e⟩
  | .inr x, v, h => by
    obtain ⟨t, e⟩ := Value.isStrOf_shape (x := x) (v := v) h
    exact .inr ⟨x, t, rfl, e⟩
theorem key_ll (a b : Int) : decide ((Sum.inl a : Key) = Sum.inl b) = (a == b) := by
  by_cases e : a = b
  · subst e; simp
  · have h : ¬ (Sum.inl a : Key) = Sum.inl b := fun q => e (Sum.inl.inj q)
    rw [decide_eq_false h]
    exact (beq_eq_false_iff_ne.mpr e).symm
theorem key_rr (a b : Str) : decide ((Sum.inr a : Key) = Sum.inr b) = decide (a = b) := by
  by_cases e : a = b
  · subst e; simp
  · have h : ¬ (Sum.inr a : Key) = Sum.inr b := fun q => e (Sum.inr.inj q)
    rw [decide_eq_false h, decide_eq_false e]
theorem key_lr (a : Int) (b : Str) : decide ((Sum.inl a : Key) = Sum.inr b) = false := decide_eq_false (fun q => nomatch q)
theorem key_rl (a : Str) (b : Int) : decide ((Sum.inr a : Key) = Sum.inl b) = false := decide_eq_false (fun q => nomatch q)

def mixKind (prog : Program) (w : World) : PySem.KeyKind prog w Key where
  is := keyIs
  hash := keyH w
  inj := fun v a b ha hb => by
    rcases keyIs_shape ha with ⟨i, t, rfl, rfl⟩ | ⟨x, t, rfl, rfl⟩
    · rcases keyIs_shape hb with ⟨j, u, rfl, e⟩ | ⟨y, u, rfl, e⟩
      · injection e with e1 _; rw [e1]
      · exact nomatch e
    · rcases keyIs_shape hb with ⟨j, u, rfl, e⟩ | ⟨y, u, rfl, e⟩
      · exact nomatch e
      · injection e with e1 _; rw [e1]
  byValue := fun k v h => by
    rcases keyIs_shape h with ⟨i, t, rfl, rfl⟩ | ⟨x, t, rfl, rfl⟩ <;> rfl
  pyHash := fun hv h => by
    rcases keyIs_shape hv with ⟨i, t, rfl, rfl⟩ | ⟨x, t, rfl, rfl⟩
    · exact wpAny_pyHash_int h
    · exact wpAny_pyHash_str h
  eqBool := fun hu hv h => by
    rcases keyIs_shape hu with ⟨i, t, rfl, rfl⟩ | ⟨x, t, rfl, rfl⟩
    · rcases keyIs_shape hv with ⟨j, u, rfl, rfl⟩ | ⟨y, u, rfl, rfl⟩
      · rw [key_ll] at h; exact wpAny_eqBool_int h
      · rw [key_lr] at h; exact SeqAt.EqAt.int_str i t y u _ _ _ _ h
    · rcases keyIs_shape hv with ⟨j, u, rfl, rfl⟩ | ⟨y, u, rfl, rfl⟩
      · rw [key_rl] at h; exact SeqAt.EqAt.str_int x t j u _ _ _ _ h
      · rw [key_rr] at h; exact wpAny_eqBool_str h
  «strs» := fun k x t v h => by
    rcases keyIs_shape h with ⟨i, u, rfl, e⟩ | ⟨y, u, rfl, e⟩
    · exact nomatch e
    · injection e with e1 _
      subst e1
      cases v <;> rfl

end L2

namespace L2
open PySem PySem.Spec PyProof.Rows

/-- a value, without the heap -/
inductive V where
  | non | bl (b : Bool) | int (i : Int) | str (x : Str) | byt (b : Array UInt8) | flt (b : UInt64) | ref (a : Addr) | ty (n : String)
  deriving DecidableEq

def RelV : V → Value → Prop
  | .non, u => u = Value.none
  | .bl b, u => u = Value.bool b
  | .int i, u => ∃ t, u = Value.int i t
  | .str x, u => ∃ t, u = Value.str x t
  | .byt b, u => ∃ t, u = Value.bytes b t
  | .flt b, u => ∃ t, u = Value.float b t
  | .ref a, u => u = Value.ref a
  | .ty n, u => u = Value.type n

abbrev Vals : List V → List Value → Prop := Paired RelV
theorem Vals.length {xs : List V} {us : List Value} (r : Vals xs us) : xs.length = us.length := Paired.length r
theorem Vals.get : ∀ {xs : List V} {us : List Value} {i : Nat} {x : V}, Vals xs us → xs[i]? = some x → ∃ u, us[i]? = some u ∧ RelV x u
  | _, _, _, _, .nil, e => by simp at e
  | _, _, 0, _, .cons r _, e => by simp at e; subst e; exact ⟨_, rfl, r⟩
  | _, _, i + 1, x, .cons _ t, e => by
    obtain ⟨u, h1, h2⟩ := Vals.get (i := i) (x := x) t (by simpa using e)
    exact ⟨u, by simpa using h1, h2⟩
theorem Vals.set {x : V} {u : Value} (r : RelV x u) : ∀ {xs : List V} {us : List Value} (i : Nat), Vals xs us → Vals (xs.set i x) (us.set i u)
  | _, _, _, .nil => .nil
  | _, _, 0, .cons _ t => .cons r t
  | _, _, i + 1, .cons q t => .cons q (Vals.set r i t)
theorem Vals.append : ∀ {xs ys : List V} {us ws : List Value}, Vals xs us → Vals ys ws → Vals (xs ++ ys) (us ++ ws)
  | _, _, _, _, .nil, s => s
  | _, _, _, _, .cons r t, s => .cons r (Vals.append t s)
theorem Vals.take : ∀ {xs : List V} {us : List Value} (n : Nat), Vals xs us → Vals (xs.take n) (us.take n)
  | _, _, 0, _ => .nil
  | _, _, _ + 1, .nil => .nil
  | _, _, n + 1, .cons r t => .cons r (Vals.take n t)
theorem Vals.drop : ∀ {xs : List V} {us : List Value} (n : Nat), Vals xs us → Vals (xs.drop n) (us.drop n)
  | _, _, 0, r => r
  | _, _, _ + 1, .nil => .nil
  | _, _, n + 1, .cons _ t => Vals.drop n t
def RelO : Option V → Option Value → Prop
  | some v, some u => RelV v u
  | none, none => True
  | _, _ => False
def KV {κ : Type} : List (κ × V) → List (κ × Value) → Prop := Paired fun (p : κ × V) (q : κ × Value) => p.1 = q.1 ∧ RelV p.2 q.2

/-- a key of a dict (00_mix): an int or a text -/
def kV : Key → V
  | .inl i => .int i
  | .inr x => .str x

/-- what stands at a tracked address -/
inductive HO where
  /-- a list -/
  | lst (xs : List V)
  /-- a tuple (never changes) -/
  | tup (xs : List V)
  /-- a dict whose keys are ints and texts; one whose keys are tuples of ints and texts (the empty one is both) -/
  | dK (kvs : List (Key × V)) | dT (kvs : List (List Key × V))
  /-- a set of ints: its members, its size -/
  | set (S : Int → Bool) (n : Nat)
  /-- an instance of the class at C, its dict at dx, its attributes -/
  | ins (C dx : Addr) (fs : List (Str × V))
  /-- the dict of the instance at x -/
  | own (x : Addr)
  /-- the dict of an exception -/
  | xd (fs : List (Str × V))
  /-- a bound method, f of x -/
  | met (f x : Addr)
  /-- a range object lo, lo + 1, .. below hi -/
  | rng (lo hi : Int)
  /-- a thing that is known to the object (the script; a dict while a loop walks it): read, never written while it is so -/
  | frz (o : Obj) (u : HO)
  /-- a code object's table -/
  | tbl (ps : Array Value)
  /-- any other thing, by what is true of its one object (a def of one's own: SetO a S n := HO.ext fun h => ..) -/
  | ext (φ : Heap → Prop)

abbrev Hp := Addr → Option HO
def upd (H : Hp) (a : Addr) (o : HO) : Hp := fun b => if b = a then some o else H b
theorem upd_same {H : Hp} {a : Addr} {o : HO} : upd H a o a = some o := by unfold upd; rw [if_pos rfl]
theorem upd_ne {H : Hp} {a b : Addr} {o : HO} (h : b ≠ a) : upd H a o b = H b := by unfold upd; rw [if_neg h]
/-- two objects of different content stand apart -/
theorem ne_of {H : Hp} {a b : Addr} {o u : HO} (h : H a = some o) (h' : H b = some u) (d : o ≠ u) : a ≠ b := by
  intro e; subst e; rw [h] at h'; exact d (Option.some.inj h')
theorem ne_of_none {H : Hp} {a b : Addr} {o : HO} (h : H a = some o) (h' : H b = none) : a ≠ b := by
  intro e; subst e; rw [h] at h'; cases h'

section
variable (P : Program) (w : World)
def ObjOk (H : Hp) (h : Heap) (a : Addr) : HO → Prop
  | .lst xs => xs.length ≤ sizeLine ∧ ∃ (its : List Value) (n : Nat), Vals xs its ∧ h.get? a = some { cls := .type "list", data := .seq its.toArray n }
  | .tup xs => xs.length ≤ sizeLine ∧ ∃ its : List Value, Vals xs its ∧ IsTup h a its.toArray
  | .dK kvs => kvs.length ≤ sizeLine ∧ (a == sysModules) = false ∧ ∃ vs, KV kvs vs ∧ h.DictOf (mixKind P w) a vs
  | .dT kvs => kvs.length ≤ sizeLine ∧ (a == sysModules) = false ∧ ∃ xs : List (List Key × Addr × Value),
      Paired (fun (p : List Key × V) (q : List Key × Addr × Value) => p.1 = q.1 ∧ H q.2.1 = some (.tup (p.1.map kV)) ∧ RelV p.2 q.2.2) kvs xs ∧
      ∃ o es ep, h.get? a = some o ∧ o.ExactDict ∧ o.data = .dict es ep ∧ es.toList = xs.map (entryOfKey (tupleKind (mixKind P w))) ∧ (xs.map (·.1)).Nodup
  | .set S n => h.SetOf (intKind P w) a S n
  | .ins C dx fs => H dx = some (.own a) ∧ fs.length ≤ 1000 ∧ dx ≠ a ∧ h.get? a = some (PySem.W.instObj C dx) ∧
      ∃ mA, h.Ns1 dx mA ∧ (∀ f, RelO (fs.lookup f) (mA f)) ∧ PySem.Within mA (fs.map (·.1))
  | .own _ => ∃ o, h.get? a = some o
  | .xd fs => ∃ mA, h.Ns1 a mA ∧ ∀ f, RelO (fs.lookup f) (mA f)
  | .rng lo hi => ∃ t u v, h.get? a = some { cls := .type "range", data := .fields #[.int lo t, .int hi u, .int 1 v] }
  | .frz o u => h.get? a = some o ∧ ObjOk H h a u
  | .tbl ps => h.get? a = some { cls := .none, data := .fields ps }
  | .met f x => h.get? a = some (PySem.W.methodObj (.ref f) (.ref x))
  | .ext φ => φ h ∧ (∃ o, h.get? a = some o) ∧ ∀ h1 h2 : Heap, φ h1 → (∀ o, h1.get? a = some o → h2.get? a = some o) → φ h2
/-- the abstract heap is held -/
def HOk (H : Hp) (h : Heap) : Prop := ∀ a o, H a = some o → ObjOk P w H h a o
end

section
variable {P : Program} {w : World} {H H' : Hp} {h h' : Heap} {a : Addr} {o : HO}
theorem ObjOk.lt (x : ObjOk P w H h a o) : a < h.objs.size := by
  cases o with
  | lst xs => obtain ⟨_, _, _, _, e⟩ := x; exact Heap.lt_size e
  | tup xs => obtain ⟨_, _, _, p⟩ := x; exact p.lt
  | dK kvs => obtain ⟨_, _, _, _, o, _, _, e, _⟩ := x; exact Heap.lt_size e
  | dT kvs => obtain ⟨_, _, _, _, o, _, _, e, _⟩ := x; exact Heap.lt_size e
  | set S n => obtain ⟨o, _, _, _, e, _⟩ := x; exact Heap.lt_size e
  | ins C dx fs => obtain ⟨_, _, _, e, _⟩ := x; exact Heap.lt_size e
  | own y => obtain ⟨_, e⟩ := x; exact Heap.lt_size e
  | xd fs => obtain ⟨_, ⟨_, _, _, e, _⟩, _⟩ := x; exact Heap.lt_size e
  | rng lo hi => obtain ⟨_, _, _, e⟩ := x; exact Heap.lt_size e
  | frz ob u => obtain ⟨e, _⟩ := x; exact Heap.lt_size e
  | tbl ps => exact Heap.lt_size (show h.get? a = some _ from x)
  | met f y => exact Heap.lt_size (show h.get? a = some _ from x)
  | ext φ => obtain ⟨_, ⟨_, e⟩, _⟩ := x; exact Heap.lt_size e
theorem Paired.mapP {α β : Type} {F G : α → β → Prop} : ∀ {l₁ : List α} {l₂ : List β}, Paired F l₁ l₂ → (∀ a b, F a b → G a b) → Paired G l₁ l₂
  | _, _, .nil, _ => .nil
  | _, _, .cons r t, f => .cons (f _ _ r) (Paired.mapP t f)
/-- what an object's description leans on: its own object, its own dict, the tuples -/
theorem ObjOk.stay (x : ObjOk P w H h a o) (k : ∀ b u, (b = a ∨ H b = some (.own a)) → h.get? b = some u → h'.get? b = some u)
    (ho : ∀ b, H b = some (.own a) → H' b = some (.own a)) (ht : ∀ b xs, H b = some (.tup xs) → H' b = some (.tup xs)) : ObjOk P w H' h' a o := by
  induction o with
  | lst xs => obtain ⟨z, its, n, r, e⟩ := x; exact ⟨z, its, n, r, k _ _ (.inl rfl) e⟩
  | tup xs => obtain ⟨z, its, r, ob, e, c⟩ := x; exact ⟨z, its, r, ob, k _ _ (.inl rfl) e, c⟩
  | dK kvs => obtain ⟨z, y, vs, r, ob, es, ep, e, c⟩ := x; exact ⟨z, y, vs, r, ob, es, ep, k _ _ (.inl rfl) e, c⟩
  | dT kvs =>
    obtain ⟨z, y, xs, r, ob, es, ep, e, c⟩ := x
    exact ⟨z, y, xs, Paired.mapP r fun p q z => ⟨z.1, ht _ _ z.2.1, z.2.2⟩, ob, es, ep, k _ _ (.inl rfl) e, c⟩
  | set S n => obtain ⟨ob, es, ep, t, e, c⟩ := x; exact ⟨ob, es, ep, t, k _ _ (.inl rfl) e, c⟩
  | ins C dx fs =>
    obtain ⟨d, z, ne, e, mA, ⟨od, es, ep, e2, c⟩, r⟩ := x
    exact ⟨ho _ d, z, ne, k _ _ (.inl rfl) e, mA, ⟨od, es, ep, k _ _ (.inr d) e2, c⟩, r⟩
  | own y => obtain ⟨ob, e⟩ := x; exact ⟨ob, k _ _ (.inl rfl) e⟩
  | xd fs => obtain ⟨mA, ⟨od, es, ep, e, c⟩, r⟩ := x; exact ⟨mA, ⟨od, es, ep, k _ _ (.inl rfl) e, c⟩, r⟩
  | rng lo hi => obtain ⟨t, u, v, e⟩ := x; exact ⟨t, u, v, k _ _ (.inl rfl) e⟩
  | frz ob u ih => obtain ⟨e, q⟩ := x; exact ⟨k _ _ (.inl rfl) e, ih q⟩
  | tbl ps =>
    have e : h.get? a = some { cls := .none, data := .fields ps } := x
    show h'.get? a = some { cls := .none, data := .fields ps }
    exact k a _ (.inl rfl) e
  | met f y =>
    have e : h.get? a = some (PySem.W.methodObj (.ref f) (.ref y)) := x
    show h'.get? a = some (PySem.W.methodObj (.ref f) (.ref y))
    exact k a _ (.inl rfl) e
  | ext φ => obtain ⟨p, ⟨o, e⟩, st⟩ := x; exact ⟨st _ _ p fun o q => k _ _ (.inl rfl) q, ⟨o, k _ _ (.inl rfl) e⟩, st⟩
theorem HOk.lt (x : HOk P w H h) (e : H a = some o) : a < h.objs.size := (x a o e).lt
theorem HOk.fresh (x : HOk P w H h) (e : h.objs.size ≤ a) : H a = none := by
  cases q : H a with
  | none => rfl
  | some u => exact absurd (Nat.lt_of_lt_of_le (x.lt q) e) (Nat.lt_irrefl _)
/-- every object of the heap is kept -/
theorem HOk.kept (x : HOk P w H h) (k : ∀ b u, h.get? b = some u → h'.get? b = some u) : HOk P w H h' := fun a o e =>
  (x a o e).stay (fun b u _ q => k b u q) (fun _ q => q) fun _ _ q => q
/-- a new object is laid and tracked -/
theorem HOk.laid (x : HOk P w H h) (k : ∀ b u, h.get? b = some u → h'.get? b = some u) (hp : h.objs.size ≤ a) (new : ObjOk P w (upd H a o) h' a o) : HOk P w (upd H a o) h' := fun b u e => by
  have hn := x.fresh hp
  by_cases hb : b = a
  · subst hb; rw [upd_same] at e; cases e; exact new
  · rw [upd_ne hb] at e
    exact (x b u e).stay (fun c v _ q => k c v q) (fun c q => by rw [upd_ne (ne_of_none q hn)]; exact q) fun c xs q => by rw [upd_ne (ne_of_none q hn)]; exact q
end

/-- what may be read as u: it is u, or a known u -/
def Rd (H : Hp) (a : Addr) (u : HO) : Prop := H a = some u ∨ ∃ o, H a = some (.frz o u)
theorem Rd.ok {P : Program} {w : World} {H : Hp} {h : Heap} {a : Addr} {u : HO} (r : Rd H a u) (x : HOk P w H h) : ObjOk P w H h a u := by
  rcases r with r | ⟨o, r⟩
  · exact x a u r
  · obtain ⟨_, q⟩ := x a _ r
    exact q
/-- what may be written -/
def Mut : Option HO → Prop
  | some (.lst _) => True
  | some (.dK _) => True
  | some (.dT _) => True
  | some (.set _ _) => True
  | some (.ins _ _ _) => True
  | some (.ext _) => True
  | _ => False
section
variable {P : Program} {w : World} {H : Hp} {h h' : Heap} {x e : Addr} {o' : HO}
/-- the object at e is changed: x itself, or the dict of the instance x -/
theorem HOk.write (ok : HOk P w H h) (mu : Mut (H x)) (he : e = x ∨ H e = some (.own x)) (k : ∀ b u, b ≠ e → h.get? b = some u → h'.get? b = some u) (heo : ∃ u, h'.get? e = some u)
    (new : ObjOk P w (upd H x o') h' x o') : HOk P w (upd H x o') h' := fun b u q => by
  have nown : ∀ c y, H c = some (.own y) → c ≠ x := fun c y r z => by subst z; rw [r] at mu; exact mu
  have ntup : ∀ c xs, H c = some (.tup xs) → c ≠ x := fun c xs r z => by subst z; rw [r] at mu; exact mu
  by_cases hb : b = x
  · subst hb; rw [upd_same] at q; cases q; exact new
  · rw [upd_ne hb] at q
    by_cases hbe : b = e
    · have q' : H b = some (.own x) := by
        rcases he with z | z
        · exact absurd (hbe.trans z) hb
        · rw [hbe]; exact z
      rw [q] at q'; cases q'
      obtain ⟨v, hv⟩ := heo
      exact ⟨v, by rw [hbe]; exact hv⟩
    · refine (ok b u q).stay (fun c v hc r => k c v ?_ r) (fun c r => by rw [upd_ne (nown c b r)]; exact r) fun c xs r => by rw [upd_ne (ntup c xs r)]; exact r
      rcases hc with rfl | hc
      · exact hbe
      · rintro rfl
        rcases he with z | z
        · exact nown c b hc z
        · rw [hc] at z; cases z; exact hb rfl
end

structure Un (fs ex : List Addr) (H H' : Hp) (h h' : Heap) : Prop where
  keep : ∀ b o, h.get? b = some o → H b = none → b ∉ fs → b ∉ ex → h'.get? b = some o
  slot : ∀ b o, h.get? b = some o → H b = none → b ∈ fs → b ∉ ex → ∃ sl, h'.get? b = some { o with slots := sl }
  free : ∀ b o, h.get? b = some o → H b = none → b ∉ ex → H' b = none
  there : ∀ b o, h.get? b = some o → b ∉ ex → ∃ o', h'.get? b = some o'
  tups : ∀ b xs, H b = some (.tup xs) → H' b = some (.tup xs)
  frzs : ∀ b o u, H b = some (.frz o u) → H' b = some (.frz o u)
  tbls : ∀ b ps, H b = some (.tbl ps) → ∃ more, H' b = some (.tbl (ps ++ more))
section
variable {fs fs' ex ex' : List Addr} {H H1 H2 : Hp} {h h1 h2 h' : Heap} {a x e : Addr} {o : HO}
theorem Un.any (u : Un fs ex H H1 h h1) {b : Addr} {ob : Obj} (q : h.get? b = some ob) (n : H b = none) (hx : b ∉ ex) : ∃ sl, h1.get? b = some { ob with slots := sl } := by
  by_cases hb : b ∈ fs
  · exact u.slot b ob q n hb hx
  · exact ⟨ob.slots, u.keep b ob q n hb hx⟩
theorem Un.kept (k : ∀ b u, h.get? b = some u → h'.get? b = some u) : Un fs ex H H h h' :=
  ⟨fun b ob q _ _ _ => k b ob q, fun b ob q _ _ _ => ⟨ob.slots, k b ob q⟩, fun _ _ _ n _ => n, fun b ob q _ => ⟨ob, k b ob q⟩, fun _ _ q => q, fun _ _ _ q => q, fun _ ps q => ⟨#[], by rw [q]; simp⟩⟩
theorem Un.refl : Un fs ex H H h h := Un.kept fun _ _ q => q
theorem Un.laid (k : ∀ b u, h.get? b = some u → h'.get? b = some u) (hp : h.objs.size ≤ a) (hn : H a = none) : Un fs ex H (upd H a o) h h' where
  keep := fun b u q _ _ _ => k b u q
  slot := fun b u q _ _ _ => ⟨u.slots, k b u q⟩
  free := fun b u q n _ => by rw [upd_ne (Nat.ne_of_lt (Nat.lt_of_lt_of_le (Heap.lt_size q) hp))]; exact n
  there := fun b u q _ => ⟨u, k b u q⟩
  tups := fun b xs q => by rw [upd_ne (ne_of_none q hn)]; exact q
  frzs := fun b u xs q => by rw [upd_ne (ne_of_none q hn)]; exact q
  tbls := fun b ps q => ⟨#[], by rw [upd_ne (ne_of_none q hn), q]; simp⟩
theorem Un.write (mu : Mut (H x)) (he : e = x ∨ H e = some (.own x)) (k : ∀ b u, b ≠ e → h.get? b = some u → h'.get? b = some u) (heo : ∃ u, h'.get? e = some u) : Un fs ex H (upd H x o) h h' := by
  have hx : ∀ b, H b = none → b ≠ x := fun b n z => by subst z; rw [n] at mu; exact mu
  have hb : ∀ b, H b = none → b ≠ e := fun b n z => by
    subst z
    rcases he with r | r
    · exact hx b n r
    · rw [n] at r; cases r
  have hm : ∀ b u, H b = some u → ¬ Mut (some u) → b ≠ x := fun b u q nm z => by subst z; rw [q] at mu; exact nm mu
  refine ⟨fun b u q n _ _ => k b u (hb b n) q, fun b u q n _ _ => ⟨u.slots, k b u (hb b n) q⟩, fun b u q n _ => by rw [upd_ne (hx b n)]; exact n, fun b u q _ => ?_,
    fun b xs q => by rw [upd_ne (hm b _ q fun z => z)]; exact q, fun b u xs q => by rw [upd_ne (hm b _ q fun z => z)]; exact q, fun b ps q => ⟨#[], by rw [upd_ne (hm b _ q fun z => z), q]; simp⟩⟩
  by_cases hbe : b = e
  · subst hbe; exact heo
  · exact ⟨u, k b u hbe q⟩
end

def trk (h : Heap) (H : Hp) : List Addr := (List.range h.objs.size).filter fun a => (H a).isSome
def hidT (h : Heap) (H : Hp) : Heap := PySem.W.hideAll h (trk h H)
theorem hidT_size (h : Heap) (H : Hp) : (hidT h H).objs.size = h.objs.size := PySem.W.hideAll_size _ _
theorem hidT_get {h : Heap} {H : Hp} {b : Addr} {o : Obj} (e : h.get? b = some o) (n : H b = none) : (hidT h H).get? b = some o :=
  PySem.W.hideAll_get _ e fun hm => by
    have q : (H b).isSome = true := (List.mem_filter.mp hm).2
    rw [n] at q; simp at q
theorem of_hidT {h : Heap} {H : Hp} {b : Addr} {o : Obj} (e : (hidT h H).get? b = some o) : h.get? b = some o ∧ H b = none := by
  have e' : h.get? b = some o := PySem.W.of_hideAll (trk h H) e
  refine ⟨e', ?_⟩
  cases q : H b with
  | none => rfl
  | some x =>
    have hm : b ∈ trk h H := List.mem_filter.mpr ⟨List.mem_range.mpr (Heap.lt_size e'), by simp [q]⟩
    have z : (hidT h H).get? b = none := PySem.W.hideAll_none (trk h H) hm
    rw [z] at e; cases e

end L2

namespace L2
open PySem PySem.Spec PyProof.Rows

/-- the module's facts, over the base: the heap at the law's entry without what is tracked there -/
structure Mod (K : PySem.W.Frag) (mg : Str → Option Value) (base : Heap) : Prop where
  kin : K.In base
  glob : base.Ns mainGlobals mg
  blt : ∃ mb, base.Ns builtinsNs mb ∧ ∀ x : Str, x ≠ "__name__" → mb x = bootBuiltins x
  nolimit : base.NoLimit

/-- the context: a def's body (or a comprehension's block) running. base: fixed through the whole law; s₀, H₀: the entry; outer: the frames whose slots others may change (a def's callers); stack: all frames that run;
   ex: iterators that were made ahead of the entry and are walked here (a comprehension's); fn: the names whose cells were made at the entry (a def: all; a comprehension's block: its own); calm: not within an except suite; pn: pins that every state bears; xe: what is wanted of an exception that leaves the code -/
structure Cx where
  prog : Program
  w : World
  K : PySem.W.Frag
  mg : Str → Option Value
  base : Heap
  A : Around
  N : List Str
  s_0 : Shared
  H_0 : Hp
  env : Env
  outer : List Env
  stack : List Env
  ex : List Addr
  fn : Str → Bool
  calm : Bool
  pn : List (Addr × Obj)
  xe : Value → Shared → Prop
/-- the callers' frames -/
def frs (l : List Env) : List Addr := l.filterMap (·.frame)
abbrev Cx.fs (X : Cx) : List Addr := frs X.outer

def Vis (sc : Scope) (x : Str) : Prop := sc.names.lookup x = some .local ∨ sc.names.lookup x = some .cell ∨ sc.names.lookup x = some .free
def Loc (sc : Scope) (x : Str) : Prop := sc.names.lookup x = some .local ∨ sc.names.lookup x = some .cell
def Look (env : Env) (h : Heap) (m : Str → Option Value) (x : Str) (u : Value) : Prop :=
  (env.kindOf x = some .local ∧ m x = some u) ∨ ((env.kindOf x = some .cell ∨ env.kindOf x = some .free) ∧ ∃ c, env.cells.lookup x = some c ∧ h.IsCell c (some u))

structure Cx.Ok (X : Cx) : Prop where
  mod : Mod X.K X.mg X.base
  kind : X.env.scope.kind = .function
  glob : X.env.globals = mainGlobals
  blt : X.env.builtins = builtinsNs
  above : X.s_0.heap.objs.size ≤ X.env.locals
  inj : ∀ x y c, X.env.cells.lookup x = some c → X.env.cells.lookup y = some c → x = y
  has : ∀ x, (X.env.kindOf x = some .cell ∨ X.env.kindOf x = some .free) → ∃ c, X.env.cells.lookup x = some c
  cab : ∀ x c, X.fn x = true → X.env.cells.lookup x = some c → X.s_0.heap.objs.size ≤ c
  hd : X.calm = true → X.A.handled = none
  frames : X.A.frames = some X.stack
  stk : X.stack = X.outer ∨ (X.stack = X.env :: X.outer ∧ X.env.frame = some X.env.locals)
  exf : ∀ b ∈ X.ex, b ≠ X.env.locals ∧ ∀ x c, X.env.cells.lookup x = some c → c ≠ b
  bs : ∀ b o, X.base.get? b = some o → X.s_0.heap.get? b = some o ∧ X.H_0 b = none
  bsz : X.base.objs.size ≤ X.s_0.heap.objs.size
  noex : ∀ b o, X.base.get? b = some o → b ∉ X.ex
  exfs : ∀ b ∈ X.ex, b ∉ X.fs
  funs : X.s_0.heap.FunFrames X.base X.outer
  frf : ∀ b ∈ X.fs, X.H_0 b = none

structure Inv (X : Cx) (pins : List (Addr × Obj)) (σ : List (Option V)) (H : Hp) (s : Shared) : Prop where
  ok : X.Ok
  os : s.os = X.s_0.os
  bare : AllBare s.gens
  base : Un X.fs X.ex X.H_0 H X.s_0.heap s.heap
  loc : ∃ m, s.heap.Ns X.env.locals m ∧ ∀ (i : Nat) (x : Str) (v : V), X.N[i]? = some x → σ[i]? = some (some v) → Vis X.env.scope x → ∃ u, RelV v u ∧ Look X.env s.heap m x u
  cell : ∀ x c, X.env.cells.lookup x = some c → ∃ v, s.heap.IsCell c v
  free : H X.env.locals = none
  freeC : ∀ x c, X.env.cells.lookup x = some c → H c = none
  pin : ∀ p ∈ X.pn ++ pins, s.heap.get? p.1 = some p.2 ∧ H p.1 = none ∧ p.1 ≠ X.env.locals ∧ p.1 ∉ X.fs ∧ ∀ v, p.2.data ≠ .cell v
  hok : HOk X.prog X.w H s.heap
  len : σ.length = X.N.length

section
variable {X : Cx} {pins : List (Addr × Obj)} {σ : List (Option V)} {H H' : Hp} {s : Shared} {h' : Heap}

theorem Cx.Ok.nofr (ok : X.Ok) {b : Addr} {o : Obj} (e : X.base.get? b = some o) : b ∉ X.fs := fun hb => by
  have := (ok.funs.mem hb).1
  rw [e] at this; cases this
theorem Inv.bs (I : Inv X pins σ H s) : ∀ b o, X.base.get? b = some o → s.heap.get? b = some o ∧ H b = none := fun b o e =>
  ⟨I.base.keep b o (I.ok.bs b o e).1 (I.ok.bs b o e).2 (I.ok.nofr e) (I.ok.noex b o e), I.base.free b o (I.ok.bs b o e).1 (I.ok.bs b o e).2 (I.ok.noex b o e)⟩
theorem Inv.bk (I : Inv X pins σ H s) : ∀ b o, X.base.get? b = some o → s.heap.get? b = some o := fun b o e => (I.bs b o e).1
theorem Inv.mod (I : Inv X pins σ H s) : Mod X.K X.mg X.base := I.ok.mod
theorem Inv.kIn (I : Inv X pins σ H s) : X.K.In s.heap := I.ok.mod.kin.keeps I.bk
theorem Inv.lt (I : Inv X pins σ H s) : X.env.locals < s.heap.objs.size := let ⟨_, hn, _⟩ := I.loc; hn.lt
theorem Inv.sz (I : Inv X pins σ H s) : X.s_0.heap.objs.size ≤ s.heap.objs.size := Nat.le_trans I.ok.above (Nat.le_of_lt I.lt)
theorem Inv.nofs (I : Inv X pins σ H s) {a : Addr} (h : s.heap.objs.size ≤ a) : a ∉ X.fs := fun hb => by
  obtain ⟨_, o, ho, _⟩ := I.ok.funs.mem hb
  exact absurd (Nat.lt_of_lt_of_le (Heap.lt_size ho) (Nat.le_trans I.sz h)) (Nat.lt_irrefl _)
theorem Inv.cne (I : Inv X pins σ H s) : ∀ x c, X.env.cells.lookup x = some c → c ≠ X.env.locals := fun x c e z => by
  obtain ⟨v, o, ho, hd⟩ := I.cell x c e
  obtain ⟨m, ⟨o', es, ep, ho', hd', _⟩, _⟩ := I.loc
  rw [z, ho'] at ho; cases ho; rw [hd'] at hd; cases hd
theorem Inv.funs (I : Inv X pins σ H s) : s.heap.FunFrames X.base X.outer := by
  have all : ∀ (l : List Env), (∀ b ∈ frs l, b ∈ X.fs) → X.s_0.heap.FunFrames X.base l → s.heap.FunFrames X.base l := by
    intro l
    induction l with
    | nil => intro _ _; trivial
    | cons env r ih =>
      intro hs hl
      obtain ⟨hk, ⟨L, o, hf, hn, ho, hd⟩, hr⟩ := hl
      have hL : L ∈ X.fs := hs L (by unfold frs; rw [List.filterMap_cons, hf]; exact List.mem_cons_self)
      obtain ⟨sl, e⟩ := I.base.slot L o ho (I.ok.frf L hL) hL fun z => I.ok.exfs L z hL
      exact ⟨hk, ⟨L, _, hf, hn, e, hd⟩, ih (fun b hb => hs b (by unfold frs; rw [List.filterMap_cons, hf]; exact List.mem_cons_of_mem _ hb)) hr⟩
  exact all X.outer (fun _ hb => hb) I.ok.funs

/-- the frames that run, for a call -/
theorem Inv.stack (I : Inv X pins σ H s) : s.heap.FunFrames X.base X.stack := by
  rcases I.ok.stk with e | ⟨e, hf⟩
  · rw [e]; exact I.funs
  · rw [e]
    obtain ⟨m, hn, _⟩ := I.loc
    refine .cons (by rw [I.ok.kind]; decide) hf hn ?_ I.funs
    exact Heap.get?_none_of_le (Nat.le_trans I.ok.bsz I.ok.above)
theorem Inv.stkSub (I : Inv X pins σ H s) : ∀ b ∈ frs X.stack, b ∈ X.env.locals :: X.fs := fun b hb => by
  rcases I.ok.stk with e | ⟨e, hf⟩
  · rw [e] at hb; exact List.mem_cons_of_mem _ hb
  · rw [e] at hb
    unfold frs at hb
    rw [List.filterMap_cons, hf] at hb
    exact hb
theorem Inv.stkFree (I : Inv X pins σ H s) : ∀ b ∈ frs X.stack, H b = none := fun b hb => by
  rcases List.mem_cons.mp (I.stkSub b hb) with e | hb
  · rw [e]; exact I.free
  · obtain ⟨_, o, ho, _⟩ := I.ok.funs.mem hb
    exact I.base.free b o ho (I.ok.frf b hb) fun z => I.ok.exfs b z hb

/-- THE STEP: the untracked objects but the frame and the records at ch are kept (the callers' frames up to slots), the frame's map is kept, the new abstract heap is held -/
theorem Inv.step {g' : Array GenState} {t' : Nat} {d' : Drawn} {ch : List Addr} (I : Inv X pins σ H s)
    (hch : ∀ b ∈ ch, (b ∈ X.ex ∨ X.s_0.heap.objs.size ≤ b) ∧ b ≠ X.env.locals ∧ (∀ x c, X.env.cells.lookup x = some c → c ≠ b) ∧ ∀ p ∈ X.pn ++ pins, p.1 ≠ b)
    (keep : ∀ b o, b ≠ X.env.locals → b ∉ X.fs → b ∉ ch → s.heap.get? b = some o → H b = none → h'.get? b = some o)
    (slot : ∀ b o, b ≠ X.env.locals → b ∈ X.fs → b ∉ ch → s.heap.get? b = some o → H b = none → ∃ sl, h'.get? b = some { o with slots := sl }) (free : ∀ b o, b ∉ ch → s.heap.get? b = some o → H b = none → H' b = none)
    (there : ∀ b o, b ∉ ch → s.heap.get? b = some o → ∃ o', h'.get? b = some o')
    (tups : ∀ b xs, H b = some (.tup xs) → H' b = some (.tup xs)) (frzs : ∀ b o u, H b = some (.frz o u) → H' b = some (.frz o u)) (tbls : ∀ b ps, H b = some (.tbl ps) → ∃ more, H' b = some (.tbl (ps ++ more)))
    (ns : ∀ m, s.heap.Ns X.env.locals m → h'.Ns X.env.locals m) (hok : HOk X.prog X.w H' h') (hg : AllBare g') :
    Inv X pins σ H' { s with heap := h', gens := g', drawn := d', toks := t' } := by
  have neL : ∀ b o, X.s_0.heap.get? b = some o → b ≠ X.env.locals := fun b o e => Nat.ne_of_lt (Nat.lt_of_lt_of_le (Heap.lt_size e) I.ok.above)
  have neC : ∀ b o, X.s_0.heap.get? b = some o → b ∉ X.ex → b ∉ ch := fun b o e hx hb => by
    rcases (hch b hb).1 with z | z
    · exact hx z
    · exact absurd (Nat.lt_of_lt_of_le (Heap.lt_size e) z) (Nat.lt_irrefl _)
  have cellK : ∀ x c, X.env.cells.lookup x = some c → ∀ v, s.heap.IsCell c v → h'.IsCell c v := fun x c e v ⟨o, ho, hd⟩ => by
    have nch : c ∉ ch := fun z => (hch c z).2.2.1 x c e rfl
    by_cases hc : c ∈ X.fs
    · obtain ⟨sl, q⟩ := slot c o (I.cne x c e) hc nch ho (I.freeC x c e)
      exact ⟨_, q, hd⟩
    · exact ⟨o, keep c o (I.cne x c e) hc nch ho (I.freeC x c e), hd⟩
  refine ⟨I.ok, I.os, hg, ⟨fun b o e n hb hx => ?_, fun b o e n hb hx => ?_, fun b o e n hx => ?_, fun b o e hx => ?_, fun b xs e => tups b xs (I.base.tups b xs e), fun b o xs e => frzs b o xs (I.base.frzs b o xs e), fun b ps e => ?_⟩, ?_, fun x c e => ?_, ?_, fun x c e => ?_, fun p hp => ?_, hok, I.len⟩
  · exact keep b o (neL b o e) hb (neC b o e hx) (I.base.keep b o e n hb hx) (I.base.free b o e n hx)
  · obtain ⟨sl, e1⟩ := I.base.slot b o e n hb hx
    obtain ⟨sl', e2⟩ := slot b _ (neL b o e) hb (neC b o e hx) e1 (I.base.free b o e n hx)
    exact ⟨sl', e2⟩
  · obtain ⟨o', e1⟩ := I.base.there b o e hx
    exact free b o' (neC b o e hx) e1 (I.base.free b o e n hx)
  · obtain ⟨o', e1⟩ := I.base.there b o e hx
    exact there b o' (neC b o e hx) e1
  · obtain ⟨m1, e1⟩ := I.base.tbls b ps e
    obtain ⟨m2, e2⟩ := tbls b _ e1
    exact ⟨m1 ++ m2, by rw [e2, Array.append_assoc]⟩
  · obtain ⟨m, hn, hl⟩ := I.loc
    refine ⟨m, ns m hn, fun i x v e1 e2 e3 => ?_⟩
    obtain ⟨u, r, l⟩ := hl i x v e1 e2 e3
    refine ⟨u, r, ?_⟩
    rcases l with l | ⟨k, c, e, z⟩
    · exact .inl l
    · exact .inr ⟨k, c, e, cellK x c e _ z⟩
  · obtain ⟨v, z⟩ := I.cell x c e
    exact ⟨v, cellK x c e v z⟩
  · obtain ⟨m, ⟨o, _, _, ho, _⟩, _⟩ := I.loc
    exact free _ o (fun z => (hch _ z).2.1 rfl) ho I.free
  · obtain ⟨v, o, ho, hd⟩ := I.cell x c e
    exact free c o (fun z => (hch c z).2.2.1 x c e rfl) ho (I.freeC x c e)
  · obtain ⟨e, n, ne, nf, d⟩ := I.pin p hp
    have nch : p.1 ∉ ch := fun z => (hch p.1 z).2.2.2 p hp rfl
    exact ⟨keep p.1 p.2 ne nf nch e n, free p.1 p.2 nch e n, ne, nf, d⟩
/-- .. where the frame's own object is kept too -/
theorem Inv.un {t' : Nat} (I : Inv X pins σ H s) (u : Un X.fs [] H H' s.heap h') (hok : HOk X.prog X.w H' h') : Inv X pins σ H' { s with heap := h', toks := t' } := by
  obtain ⟨m, ⟨o, es, ep, ho, r⟩, _⟩ := id I.loc
  obtain ⟨sl, hL⟩ := u.any ho I.free (by simp)
  exact I.step (g' := s.gens) (d' := s.drawn) (ch := []) (fun _ z => nomatch z) (fun b o _ hb _ e n => u.keep b o e n hb (by simp)) (fun b o _ hb _ e n => u.slot b o e n hb (by simp)) (fun b o _ e n => u.free b o e n (by simp)) (fun b o _ e => u.there b o e (by simp)) u.tups u.frzs u.tbls (fun m' hm => by
    obtain ⟨o', es', ep', ho', r'⟩ := hm
    rw [ho] at ho'; cases ho'
    exact ⟨_, es', ep', hL, r'⟩) hok I.bare
/-- behind a call (or a comprehension's block): the slots of this frame may have changed too, the records at ch may have turned -/
theorem Inv.call {g' : Array GenState} {t' : Nat} {d' : Drawn} {ch : List Addr} (I : Inv X pins σ H s) (u : Un (frs X.stack) ch H H' s.heap h') (hok : HOk X.prog X.w H' h') (hg : AllBare g')
    (hch : ∀ b ∈ ch, (b ∈ X.ex ∨ X.s_0.heap.objs.size ≤ b) ∧ b ≠ X.env.locals ∧ (∀ x c, X.env.cells.lookup x = some c → c ≠ b) ∧ ∀ p ∈ X.pn ++ pins, p.1 ≠ b) :
    Inv X pins σ H' { s with heap := h', gens := g', drawn := d', toks := t' } := by
  obtain ⟨m, ⟨o, es, ep, ho, r⟩, _⟩ := id I.loc
  obtain ⟨sl, hL⟩ := u.any ho I.free fun z => (hch _ z).2.1 rfl
  exact I.step (ch := ch) hch (fun b o hL hb hc e n => u.keep b o e n (fun z => (List.mem_cons.mp (I.stkSub b z)).elim hL hb) hc) (fun b o _ _ hc e n => u.any e n hc) (fun b o hc e n => u.free b o e n hc) (fun b o hc e => u.there b o e hc) u.tups u.frzs u.tbls (fun m' hm => by
    obtain ⟨o', es', ep', ho', r'⟩ := hm
    rw [ho] at ho'; cases ho'
    exact ⟨_, es', ep', hL, r'⟩) hok hg
/-- an untracked record of ours (an iterator) has turned -/
theorem Inv.turned {t' : Nat} {it : Addr} (I : Inv X pins σ H s) (k : ∀ b o, b ≠ it → s.heap.get? b = some o → h'.get? b = some o) (hn : H it = none) (hL : it ≠ X.env.locals)
    (h1 : it ∈ X.ex ∨ X.s_0.heap.objs.size ≤ it) (h2 : ∀ x c, X.env.cells.lookup x = some c → c ≠ it) (h3 : ∀ p ∈ X.pn ++ pins, p.1 ≠ it) : Inv X pins σ H { s with heap := h', toks := t' } := by
  have nit : ∀ b u, H b = some u → b ≠ it := fun b u e z => by rw [z, hn] at e; cases e
  refine I.step (g' := s.gens) (d' := s.drawn) (ch := [it]) (fun b hb => ?_) (fun b o _ _ hc e _ => k b o (fun z => hc (by simp [z])) e) (fun b o _ _ hc e _ => ⟨o.slots, k b o (fun z => hc (by simp [z])) e⟩) (fun _ _ _ _ n => n)
    (fun b o hc e => ⟨o, k b o (fun z => hc (by simp [z])) e⟩) (fun _ _ e => e) (fun _ _ _ e => e) (fun b ps e => ⟨#[], by rw [e]; simp⟩) (fun m hm => ?_) (fun b u e => ?_) I.bare
  · have e : b = it := by simpa using hb
    subst e
    exact ⟨h1, hL, h2, h3⟩
  · obtain ⟨o, es, ep, ho, r⟩ := hm
    exact ⟨o, es, ep, k _ o (Ne.symm hL) ho, r⟩
  · refine (I.hok b u e).stay (fun c v hc q => k c v ?_ q) (fun _ q => q) fun _ _ q => q
    rcases hc with z | z
    · rw [z]; exact nit b u e
    · exact nit c _ z
theorem Inv.tok (I : Inv X pins σ H s) (t : Nat) : Inv X pins σ H { s with toks := t } := I.un (h' := s.heap) (t' := t) Un.refl I.hok
/-- all objects kept -/
theorem Inv.kept {t' : Nat} (I : Inv X pins σ H s) (k : ∀ b u, s.heap.get? b = some u → h'.get? b = some u) : Inv X pins σ H { s with heap := h', toks := t' } := I.un (Un.kept k) (I.hok.kept k)
/-- a new object laid and tracked -/
theorem Inv.laid {a : Addr} {o : HO} {t' : Nat} (I : Inv X pins σ H s) (k : ∀ b u, s.heap.get? b = some u → h'.get? b = some u) (hp : s.heap.objs.size ≤ a) (new : ObjOk X.prog X.w (upd H a o) h' a o) :
    Inv X pins σ (upd H a o) { s with heap := h', toks := t' } := I.un (Un.laid k hp (I.hok.fresh hp)) (I.hok.laid k hp new)
/-- an object written -/
theorem Inv.write {x e : Addr} {o : HO} {t' : Nat} (I : Inv X pins σ H s) (mu : Mut (H x)) (he : e = x ∨ H e = some (.own x)) (k : ∀ b u, b ≠ e → s.heap.get? b = some u → h'.get? b = some u) (heo : ∃ u, h'.get? e = some u)
    (new : ObjOk X.prog X.w (upd H x o) h' x o) : Inv X pins σ (upd H x o) { s with heap := h', toks := t' } := I.un (Un.write mu he k heo) (I.hok.write mu he k heo new)
/-- forgetting slots, pins -/
theorem Inv.weak {σ' : List (Option V)} (I : Inv X pins σ H s) (hl : σ'.length = σ.length) (w : ∀ (i : Nat) v, σ'[i]? = some (some v) → σ[i]? = some (some v)) : Inv X pins σ' H s :=
  ⟨I.ok, I.os, I.bare, I.base, let ⟨m, hn, hl'⟩ := I.loc; ⟨m, hn, fun i x v e1 e2 e3 => hl' i x v e1 (w i v e2) e3⟩, I.cell, I.free, I.freeC, I.pin, I.hok, hl.trans I.len⟩
theorem Inv.pins_of {pins' : List (Addr × Obj)} (I : Inv X pins σ H s) (h : ∀ p ∈ pins', s.heap.get? p.1 = some p.2 ∧ H p.1 = none ∧ p.1 ≠ X.env.locals ∧ p.1 ∉ X.fs ∧ ∀ v, p.2.data ≠ .cell v) : Inv X pins' σ H s :=
  ⟨I.ok, I.os, I.bare, I.base, I.loc, I.cell, I.free, I.freeC, fun p hp => (List.mem_append.mp hp).elim (fun z => I.pin p (List.mem_append_left _ z)) (h p), I.hok, I.len⟩

theorem nodup_ix {N : List Str} (hN : N.Nodup) {i j : Nat} {x : Str} (a : N[i]? = some x) (b : N[j]? = some x) : i = j := by
  obtain ⟨h1, e1⟩ := List.getElem?_eq_some_iff.mp a
  obtain ⟨h2, e2⟩ := List.getElem?_eq_some_iff.mp b
  exact (List.getElem_inj hN).mp (e1.trans e2.symm)

/-- a name is stored; what changed -/
theorem store_ok2 {M : Model} {A : Around} {E : Value → Shared → Prop} {i : Nat} {x : Str} {v : V} {u : Value} {Q : Unit → Shared → Prop} (I : Inv X pins σ H s) (hN : X.N.Nodup) (hi : X.N[i]? = some x) (hx : Loc X.env.scope x) (r : RelV v u)
    (h : ∀ s', Inv X pins (σ.set i (some v)) H s' → (∃ a, Heap.SameBut a s.heap s'.heap ∧ (a = X.env.locals ∨ X.env.cells.lookup x = some a)) → Q () s') (hf : X.fn x = true ∨ X.env.scope.names.lookup x = some .local := by first | exact .inl rfl | exact .inr rfl | assumption) : wpAny M A (storeName X.env x u) Q E s := by
  obtain ⟨m, hn, hl⟩ := id I.loc
  have hcls : (X.env.scope.kind == .class || (X.env.scope.kind == .module && X.env.locals != X.env.globals)) = false := by rw [I.ok.kind]; rfl
  have hiσ : i < σ.length := by rw [I.len]; exact (List.getElem?_eq_some_iff.mp hi).1
  have cne := I.cne
  have tracked : ∀ {a : Addr} {h' : Heap}, (∃ o, s.heap.get? a = some o ∧ H a = none) → Heap.SameBut a s.heap h' → HOk X.prog X.w H h' := fun {a h'} ha hs b ob e => by
    obtain ⟨_, _, hfree⟩ := ha
    refine (I.hok b ob e).stay (fun c w' hc q => (hs.2 c ?_).trans q) (fun _ q => q) fun _ _ q => q
    rintro rfl
    rcases hc with rfl | hc
    · rw [hfree] at e; cases e
    · rw [hfree] at hc; cases hc
  rcases hx with hk | hk
  · refine wpAny_storeName_local hk hn (fun h' hn' hs => ?_) hcls
    obtain ⟨oL, _, _, hoL, _⟩ := id hn
    refine h _ ⟨I.ok, I.os, I.bare, ⟨fun b o e n hb hx => ?_, fun b o e n hb hx => ?_, I.base.free, fun b o e hx => ?_, I.base.tups, I.base.frzs, I.base.tbls⟩, ⟨_, hn', fun j y v' e1 e2 e3 => ?_⟩, fun y c e => ?_, I.free, I.freeC, fun p hp => ?_, tracked ⟨oL, hoL, I.free⟩ hs, by simpa using I.len⟩ ⟨_, hs, .inl rfl⟩
    · exact (hs.2 b (Nat.ne_of_lt (Nat.lt_of_lt_of_le (Heap.lt_size e) I.ok.above))).trans (I.base.keep b o e n hb hx)
    · obtain ⟨sl, e1⟩ := I.base.slot b o e n hb hx
      exact ⟨sl, (hs.2 b (Nat.ne_of_lt (Nat.lt_of_lt_of_le (Heap.lt_size e) I.ok.above))).trans e1⟩
    · obtain ⟨o', e1⟩ := I.base.there b o e hx
      exact ⟨o', (hs.2 b (Nat.ne_of_lt (Nat.lt_of_lt_of_le (Heap.lt_size e) I.ok.above))).trans e1⟩
    · by_cases hj : j = i
      · subst hj
        rw [hi] at e1; cases e1
        rw [List.getElem?_set_self hiσ] at e2
        cases e2
        exact ⟨u, r, .inl ⟨hk, by simp⟩⟩
      · rw [List.getElem?_set_ne (Ne.symm hj)] at e2
        obtain ⟨u', r', q⟩ := hl j y v' e1 e2 e3
        refine ⟨u', r', ?_⟩
        rcases q with ⟨k, e⟩ | ⟨k, c, e, z⟩
        · refine .inl ⟨k, ?_⟩
          have : y ≠ x := fun e => hj (nodup_ix hN e1 (e ▸ hi))
          simp [this, e]
        · exact .inr ⟨k, c, e, z.sameBut hs (cne y c e)⟩
    · obtain ⟨w', z⟩ := I.cell y c e
      exact ⟨w', z.sameBut hs (cne y c e)⟩
    · obtain ⟨e, n, ne, nf, d⟩ := I.pin p hp
      exact ⟨(hs.2 p.1 ne).trans e, n, ne, nf, d⟩
  · have hfn : X.fn x = true := by
      rcases hf with z | z
      · exact z
      · rw [z] at hk; cases hk
    obtain ⟨c, hc⟩ := I.ok.has x (.inl hk)
    obtain ⟨w', z⟩ := I.cell x c hc
    refine wpAny_storeName_cell I.ok.kind hk hc z (fun h' hc' hs => ?_)
    obtain ⟨oc, hoc, hocd⟩ := id z
    refine h { s with heap := h' } ⟨I.ok, I.os, I.bare, ⟨fun b o e n hb hx => ?_, fun b o e n hb hx => ?_, I.base.free, fun b o e hx => ?_, I.base.tups, I.base.frzs, I.base.tbls⟩, ⟨m, hn.sameBut hs (Ne.symm (cne x c hc)), fun j y v' e1 e2 e3 => ?_⟩, fun y c' e => ?_, I.free, I.freeC, fun p hp => ?_, tracked ⟨oc, hoc, I.freeC x c hc⟩ hs, by simpa using I.len⟩ ⟨c, hs, .inr hc⟩
    · exact (hs.2 b (Nat.ne_of_lt (Nat.lt_of_lt_of_le (Heap.lt_size e) (I.ok.cab x c hfn hc)))).trans (I.base.keep b o e n hb hx)
    · obtain ⟨sl, e1⟩ := I.base.slot b o e n hb hx
      exact ⟨sl, (hs.2 b (Nat.ne_of_lt (Nat.lt_of_lt_of_le (Heap.lt_size e) (I.ok.cab x c hfn hc)))).trans e1⟩
    · obtain ⟨o', e1⟩ := I.base.there b o e hx
      exact ⟨o', (hs.2 b (Nat.ne_of_lt (Nat.lt_of_lt_of_le (Heap.lt_size e) (I.ok.cab x c hfn hc)))).trans e1⟩
    · by_cases hj : j = i
      · subst hj
        rw [hi] at e1; cases e1
        rw [List.getElem?_set_self hiσ] at e2
        cases e2
        exact ⟨u, r, .inr ⟨.inl hk, c, hc, hc'⟩⟩
      · rw [List.getElem?_set_ne (Ne.symm hj)] at e2
        obtain ⟨u', r', q⟩ := hl j y v' e1 e2 e3
        refine ⟨u', r', ?_⟩
        rcases q with q | ⟨k, c', e, z'⟩
        · exact .inl q
        · refine .inr ⟨k, c', e, z'.sameBut hs ?_⟩
          rintro rfl
          exact hj (nodup_ix hN e1 (I.ok.inj _ _ _ e hc ▸ hi))
    · by_cases hcc : c' = c
      · subst hcc; exact ⟨_, hc'⟩
      · obtain ⟨w2, z2⟩ := I.cell y c' e
        exact ⟨w2, z2.sameBut hs hcc⟩
    · obtain ⟨e, n, ne, nf, d⟩ := I.pin p hp
      refine ⟨(hs.2 p.1 ?_).trans e, n, ne, nf, d⟩
      intro q
      rw [q, hoc] at e
      have q' : oc = p.2 := Option.some.inj e
      exact d w' (by rw [← q']; exact hocd)
theorem store_ok {M : Model} {A : Around} {E : Value → Shared → Prop} {i : Nat} {x : Str} {v : V} {u : Value} {Q : Unit → Shared → Prop} (I : Inv X pins σ H s) (hN : X.N.Nodup) (hi : X.N[i]? = some x) (hx : Loc X.env.scope x) (r : RelV v u)
    (h : ∀ s', Inv X pins (σ.set i (some v)) H s' → Q () s') (hf : X.fn x = true ∨ X.env.scope.names.lookup x = some .local := by first | exact .inl rfl | exact .inr rfl | assumption) : wpAny M A (storeName X.env x u) Q E s :=
  store_ok2 I hN hi hx r (fun s' I' _ => h s' I') hf
/-- behind a call or a block, the state as it is -/
theorem Inv.call' {s' : Shared} {ch : List Addr} (I : Inv X pins σ H s) (ho : s'.os = s.os) (u : Un (frs X.stack) ch H H' s.heap s'.heap) (hok : HOk X.prog X.w H' s'.heap) (hg : AllBare s'.gens)
    (hch : ∀ b ∈ ch, (b ∈ X.ex ∨ X.s_0.heap.objs.size ≤ b) ∧ b ≠ X.env.locals ∧ (∀ x c, X.env.cells.lookup x = some c → c ≠ b) ∧ ∀ p ∈ X.pn ++ pins, p.1 ≠ b) : Inv X pins σ H' s' := by
  obtain ⟨h', g', d', t', o'⟩ := s'
  have e : o' = s.os := ho
  subst e
  exact I.call (g' := g') (t' := t') (d' := d') u hok hg hch
end

/-- an exception: its class, its own dict's address (where it has one), the abstract heap behind it -/
abbrev XK := Value → Option Addr → Hp → Prop
abbrev St := List (Option V)
abbrev VK := V → Hp → Prop
/-- an expression's reading; a test's; an argument list's -/
abbrev TE := St → Hp → VK → Prop
abbrev TT := St → Hp → (Bool → Hp → Prop) → Prop
abbrev TA := St → Hp → (List V → Hp → Prop) → Prop
/-- what is wanted behind a statement -/
structure Ends where
  nx : St → Hp → Prop
  rt : VK
  bk : St → Hp → Prop := fun _ _ => False
  ct : St → Hp → Prop := fun _ _ => False
abbrev TS := Ends → St → Hp → Prop

def EP (X : Cx) (pins : List (Addr × Obj)) (σ : St) (Q : VK) (u : Value) (s' : Shared) : Prop := ∃ v H', Inv X pins σ H' s' ∧ RelV v u ∧ Q v H'
def TP (X : Cx) (pins : List (Addr × Obj)) (σ : St) (Q : Bool → Hp → Prop) (b : Bool) (s' : Shared) : Prop := ∃ H', Inv X pins σ H' s' ∧ Q b H'
def AP (X : Cx) (pins : List (Addr × Obj)) (σ : St) (Q : List V → Hp → Prop) (us : List Value) (s' : Shared) : Prop := ∃ vs H', Inv X pins σ H' s' ∧ Vals vs us ∧ Q vs H'
def SP (X : Cx) (pins : List (Addr × Obj)) (D : Ends) (f : Flow) (s' : Shared) : Prop :=
  match f with
  | .next => ∃ σ' H', Inv X pins σ' H' s' ∧ D.nx σ' H'
  | .brk => ∃ σ' H', Inv X pins σ' H' s' ∧ D.bk σ' H'
  | .cont => ∃ σ' H', Inv X pins σ' H' s' ∧ D.ct σ' H'
  | .ret u => ∃ v σ' H', Inv X pins σ' H' s' ∧ RelV v u ∧ D.rt v H'

def PE (X : Cx) (e : Expr) (t : TE) : Prop :=
  ∀ (pins : List (Addr × Obj)) (s : Shared) (σ : St) (H : Hp) (Q : VK), Inv X pins σ H s → t σ H Q → wpAny (model X.prog X.w) X.A (eval e X.env) (EP X pins σ Q) X.xe s
def PT (X : Cx) (e : Expr) (t : TT) : Prop :=
  ∀ (pins : List (Addr × Obj)) (s : Shared) (σ : St) (H : Hp) (Q : Bool → Hp → Prop), Inv X pins σ H s → t σ H Q → wpAny (model X.prog X.w) X.A (isTrue e X.env (eval e X.env)) (TP X pins σ Q) X.xe s
/-- a test whatever its 'whole' is (and, or) -/
def PW (X : Cx) (e : Expr) (t : TT) : Prop :=
  ∀ (whole : Sem Value) (pins : List (Addr × Obj)) (s : Shared) (σ : St) (H : Hp) (Q : Bool → Hp → Prop), Inv X pins σ H s → t σ H Q → wpAny (model X.prog X.w) X.A (isTrue e X.env whole) (TP X pins σ Q) X.xe s
theorem PW.pt {X : Cx} {e : Expr} {t : TT} (h : PW X e t) : PT X e t := h _
/-- an argument list (no star), from the left -/
def PA (X : Cx) (es : List Expr) (t : TA) : Prop :=
  ∀ (pos : Pos) (pins : List (Addr × Obj)) (s : Shared) (σ : St) (H : Hp) (Q : List V → Hp → Prop), Inv X pins σ H s → t σ H Q → wpAny (model X.prog X.w) X.A (spliced (backTo pos (starEach es X.env))) (AP X pins σ Q) X.xe s
def PS (X : Cx) (st : Stmt) (t : TS) : Prop :=
  ∀ (pins : List (Addr × Obj)) (s : Shared) (σ : St) (H : Hp) (D : Ends), Inv X pins σ H s → t D σ H → wpAny (model X.prog X.w) X.A (exec st X.env) (SP X pins D) X.xe s
def PSs (X : Cx) (st : List Stmt) (t : TS) : Prop :=
  ∀ (pins : List (Addr × Obj)) (s : Shared) (σ : St) (H : Hp) (D : Ends), Inv X pins σ H s → t D σ H → wpAny (model X.prog X.w) X.A (execs st X.env) (SP X pins D) X.xe s
/-- weaken the end -/
theorem thn {α : Type} {t : Sem α} {Q Q' : α → Shared → Prop} {M : Model} {A : Around} {E : Value → Shared → Prop} {s : Shared} (h : wpAny M A t Q E s) (hQ : ∀ a s, Q a s → Q' a s) : wpAny M A t Q' E s := wpAny_mono h hQ fun _ _ x => x
end L2

namespace L2
open PySem PySem.Spec PyProof.Rows
section
variable {X : Cx}

def tVar (i : Nat) : TE := fun σ H Q => ∃ v, σ[i]? = some (some v) ∧ Q v H
def tC (v : V) : TE := fun _ H Q => Q v H
theorem pe_var {i : Nat} {x : Str} {pos : Pos} (hN : X.N[i]? = some x) (hv : Vis X.env.scope x) (hd : (x == ("__debug__" : Str)) = false := by decide) (hcd : (x == ("__classdict__" : Str)) = false := by decide) : PE X (.Name x pos) (tVar i) := by
  intro pins s σ H Q I h
  obtain ⟨v, e, h⟩ := h
  obtain ⟨m, hn, hl⟩ := I.loc
  obtain ⟨u, r, l⟩ := hl i x v hN e hv
  have fin : EP X pins σ Q u s := ⟨v, H, I, r, h⟩
  rcases l with ⟨hk, hm⟩ | ⟨hk, c, hc, hcell⟩
  · exact wpAny_Name (wpAny_loadName_local I.ok.kind hk hn hm fin) hd
  · rcases hk with hk | hk
    · exact wpAny_Name (wpAny_loadName_cell I.ok.kind hk hc hcell fin) hd
    · exact wpAny_Name (wpAny_loadName_free I.ok.kind hk hc hcell fin hcd) hd
theorem pe_int {i j pos} : PE X (.Constant (.int i) j pos) (tC (.int i)) := fun _ _ _ H _ I h => wpAny_Constant_int ⟨.int i, H, I.tok _, ⟨_, rfl⟩, h⟩
/-- a global name of the def -/
def Gl (X : Cx) (x : Str) : Prop := X.env.kindOf x = some .globalImplicit
theorem ld_glob {E : Value → Shared → Prop} {pins : List (Addr × Obj)} {s : Shared} {σ : St} {H : Hp} {x : Str} {u : Value} {pos : Pos} {Q : Value → Shared → Prop} (I : Inv X pins σ H s) (hg : Gl X x) (hm : X.mg x = some u) (h : Q u s)
    (hd : (x == ("__debug__" : Str)) = false := by decide) : wpAny (model X.prog X.w) X.A (eval (.Name x pos) X.env) Q E s :=
  Calls.Name_function_global I.ok.kind hg (Calls.loadGlobal_global (by rw [I.ok.glob]; exact I.mod.glob.keeps I.bk) hm h) hd
theorem ld_blt {E : Value → Shared → Prop} {pins : List (Addr × Obj)} {s : Shared} {σ : St} {H : Hp} {x : Str} {u : Value} {pos : Pos} {Q : Value → Shared → Prop} (I : Inv X pins σ H s) (hg : Gl X x) (hm : X.mg x = none) (hv : bootBuiltins x = some u) (h : Q u s)
    (hn : x ≠ "__name__" := by decide) (hd : (x == ("__debug__" : Str)) = false := by decide) : wpAny (model X.prog X.w) X.A (eval (.Name x pos) X.env) Q E s := by
  obtain ⟨mb, h1, h2⟩ := I.mod.blt
  exact Calls.Name_function_global I.ok.kind hg (Calls.loadGlobal_builtin (by rw [I.ok.glob]; exact I.mod.glob.keeps I.bk) hm (by rw [I.ok.blt]; exact h1.keeps I.bk) ((h2 x hn).trans hv) h) hd
/-- a module's constant, a class, a function, as a value -/
theorem pe_glob {x : Str} {v : V} {u : Value} {pos : Pos} (hg : Gl X x) (hm : X.mg x = some u) (r : RelV v u) (hd : (x == ("__debug__" : Str)) = false := by decide) : PE X (.Name x pos) (tC v) :=
  fun _ _ _ H _ I h => ld_glob I hg hm ⟨v, H, I, r, h⟩ hd
variable {a b : Expr} {ta tb : TE} {pos : Pos}
variable {tA tB' : TT} {rest : List Expr}
def tAnd (t u : TT) : TT := fun σ H Q => t σ H fun c H1 => if c = true then u σ H1 Q else Q false H1
def tOr (t u : TT) : TT := fun σ H Q => t σ H fun c H1 => if c = true then Q true H1 else u σ H1 Q
def tNot (t : TT) : TT := fun σ H Q => t σ H fun c H1 => Q (!c) H1
theorem pw_and1 (ha : PT X a tA) : PW X (.BoolOp .And [a] pos) tA := by
  intro wh pins s σ H Q I h
  refine isTrue_and (thn (ha pins s σ H Q I h) fun c s1 e => ?_)
  cases c with
  | true => exact isTrue_and_nil e
  | false => exact e
theorem pw_or1 (ha : PT X a tA) : PW X (.BoolOp .Or [a] pos) tA := by
  intro wh pins s σ H Q I h
  refine isTrue_or (thn (ha pins s σ H Q I h) fun c s1 e => ?_)
  cases c with
  | false => exact isTrue_or_nil e
  | true => exact e
theorem pw_and (ha : PT X a tA) (hb : PW X (.BoolOp .And (b :: rest) pos) tB') : PW X (.BoolOp .And (a :: b :: rest) pos) (tAnd tA tB') := by
  intro wh pins s σ H Q I h
  refine isTrue_and (thn (ha pins s σ H _ I h) fun c s1 ⟨H1, I1, q1⟩ => ?_)
  cases c with
  | true => exact hb wh pins s1 σ H1 Q I1 q1
  | false => exact ⟨H1, I1, q1⟩
theorem pw_or (ha : PT X a tA) (hb : PW X (.BoolOp .Or (b :: rest) pos) tB') : PW X (.BoolOp .Or (a :: b :: rest) pos) (tOr tA tB') := by
  intro wh pins s σ H Q I h
  refine isTrue_or (thn (ha pins s σ H _ I h) fun c s1 ⟨H1, I1, q1⟩ => ?_)
  cases c with
  | true => exact ⟨H1, I1, q1⟩
  | false => exact hb wh pins s1 σ H1 Q I1 q1
theorem pt_not (ha : PT X a tA) : PT X (.UnaryOp .Not a pos) (tNot tA) := by
  intro pins s σ H Q I h
  exact isTrue_not (ha pins s σ H (fun c H1 => Q (!c) H1) I h)
/-- .. as values (bools) -/
def tAndV (ta tb : TE) : TE := fun σ H Q => ta σ H fun x H1 => ∃ c, x = .bl c ∧ if c = true then tb σ H1 Q else Q (.bl false) H1
theorem pe_one {op} {t : TE} (h : PE X a t) : PE X (.BoolOp op [a] pos) t := fun pins s σ H Q I hw => BoolOp_one (h pins s σ H Q I hw)
theorem pe_and (ha : PE X a ta) (hb : PE X (.BoolOp .And (b :: rest) pos) tb) : PE X (.BoolOp .And (a :: b :: rest) pos) (tAndV ta tb) := by
  intro pins s σ H Q I h
  refine BoolOp_and (thn (ha pins s σ H _ I h) fun v s1 ⟨x, H1, I1, r1, q1⟩ => ?_)
  obtain ⟨c, rfl, q1⟩ := q1
  cases r1
  refine wpAny_truthy_bool ?_
  cases c with
  | true => exact hb pins s1 σ H1 Q I1 q1
  | false => exact ⟨.bl false, H1, I1, rfl, q1⟩
/-- a if t else b -/
def tIf (t : TT) (ta tb : TE) : TE := fun σ H Q => t σ H fun c H1 => if c = true then ta σ H1 Q else tb σ H1 Q
theorem pe_ifExp {c : Expr} (hc : PT X c tA) (ha : PE X a ta) (hb : PE X b tb) : PE X (.IfExp c a b pos) (tIf tA ta tb) := by
  intro pins s σ H Q I h
  refine wpAny_IfExp (thn (hc pins s σ H _ I h) fun d s1 ⟨H1, I1, q1⟩ => ?_)
  cases d with
  | true => exact ha pins s1 σ H1 Q I1 q1
  | false => exact hb pins s1 σ H1 Q I1 q1
end
end L2

namespace L2
open PySem PySem.Spec PyProof.Rows

def SqL (K : PySem.W.Frag) (H : Hp) (a : Addr) (xs : List V) : Prop :=
  Rd H a (.lst xs) ∨
    ∃ (o : Obj) (its : Array Value) (n : Nat), K.lookup a = some o ∧ o.cls = .type "list" ∧ o.dict = none ∧ o.data = .seq its n ∧ its.size ≤ sizeLine ∧ Vals xs its.toList
def SqT (K : PySem.W.Frag) (H : Hp) (a : Addr) (xs : List V) : Prop :=
  Rd H a (.tup xs) ∨
    ∃ (o : Obj) (its : Array Value) (n : Nat), K.lookup a = some o ∧ o.cls = .type "tuple" ∧ o.data = .seq its n ∧ its.size ≤ sizeLine ∧ Vals xs its.toList
def absV : Value → Option V
  | .none => some .non
  | .bool b => some (.bl b)
  | .int i _ => some (.int i)
  | .str x _ => some (.str x)
  | .bytes b _ => some (.byt b)
  | .float b _ => some (.flt b)
  | .ref a => some (.ref a)
  | .type n => some (.ty n)
  | _ => none
theorem RelV.abs {x : V} {u : Value} (r : RelV x u) : absV u = some x := by
  cases x with
  | non => cases r; rfl
  | bl _ => cases r; rfl
  | int _ => obtain ⟨t, rfl⟩ := r; rfl
  | str _ => obtain ⟨t, rfl⟩ := r; rfl
  | byt _ => obtain ⟨t, rfl⟩ := r; rfl
  | flt _ => obtain ⟨t, rfl⟩ := r; rfl
  | ref _ => cases r; rfl
  | ty _ => cases r; rfl
theorem RelV.inj {x y : V} {u : Value} (r : RelV x u) (q : RelV y u) : x = y := Option.some.inj (r.abs.symm.trans q.abs)
theorem Vals.inj : ∀ {xs ys : List V} {us : List Value}, Vals xs us → Vals ys us → xs = ys
  | _, _, _, .nil, .nil => rfl
  | _, _, _, .cons r t, .cons r' t' => by rw [r.inj r', Vals.inj t t']
section
variable {X : Cx} {pins : List (Addr × Obj)} {σ : St} {H : Hp} {s : Shared} {a : Addr} {xs ys : List V}
theorem SqL.of {K : PySem.W.Frag} (h : H a = some (.lst xs)) : SqL K H a xs := .inl (.inl h)
theorem SqT.of {K : PySem.W.Frag} (h : H a = some (.tup xs)) : SqT K H a xs := .inl (.inl h)
theorem Inv.list (I : Inv X pins σ H s) (h : SqL X.K H a xs) : ∃ its : List Value, Vals xs its ∧ PlainL s.heap a its.toArray ∧ xs.length ≤ sizeLine := by
  rcases h with h | ⟨o, its, n, hk, hc, hd, hs, hz, r⟩
  · obtain ⟨z, its, n, r, e⟩ := h.ok I.hok
    exact ⟨its, r, ⟨_, n, e, rfl, rfl, rfl⟩, z⟩
  · refine ⟨its.toList, r, ⟨o, n, I.kIn a o hk, hc, hd, by simpa using hs⟩, ?_⟩
    have e := r.length
    simp only [Array.length_toList] at e
    omega
theorem Inv.tuple (I : Inv X pins σ H s) (h : SqT X.K H a xs) : ∃ its : List Value, Vals xs its ∧ IsTup s.heap a its.toArray ∧ xs.length ≤ sizeLine := by
  rcases h with h | ⟨o, its, n, hk, hc, hs, hz, r⟩
  · obtain ⟨z, its, r, p⟩ := h.ok I.hok
    exact ⟨its, r, p, z⟩
  · refine ⟨its.toList, r, ⟨o, I.kIn a o hk, hc, n, by simpa using hs⟩, ?_⟩
    have e := r.length
    simp only [Array.length_toList] at e
    omega
theorem Inv.list_inj (I : Inv X pins σ H s) (h : SqL X.K H a xs) (h' : SqL X.K H a ys) : xs = ys := by
  obtain ⟨its, r, ⟨o, n, e, _, _, d⟩, _⟩ := I.list h
  obtain ⟨its', r', ⟨o', n', e', _, _, d'⟩, _⟩ := I.list h'
  rw [e] at e'; cases e'
  rw [d] at d'
  injection d' with d1 _
  have : its = its' := by simpa using congrArg Array.toList d1
  subst this
  exact r.inj r'
theorem Inv.tuple_inj (I : Inv X pins σ H s) (h : SqT X.K H a xs) (h' : SqT X.K H a ys) : xs = ys := by
  obtain ⟨its, r, ⟨o, e, _, n, d⟩, _⟩ := I.tuple h
  obtain ⟨its', r', ⟨o', e', _, n', d'⟩, _⟩ := I.tuple h'
  rw [e] at e'; cases e'
  rw [d] at d'
  injection d' with d1 _
  have : its = its' := by simpa using congrArg Array.toList d1
  subst this
  exact r.inj r'
end

abbrev Cx.wish (X : Cx) (E : Value → Shared → Prop) : Cx := { X with xe := E }
/-- no exception leaves -/
abbrev Cx.nox (X : Cx) : Cx := X.wish fun _ _ => False
theorem Cx.Ok.wish {X : Cx} (ok : X.Ok) (E : Value → Shared → Prop) : (X.wish E).Ok :=
  ⟨ok.mod, ok.kind, ok.glob, ok.blt, ok.above, ok.inj, ok.has, ok.cab, ok.hd, ok.frames, ok.stk, ok.exf, ok.bs, ok.bsz, ok.noex, ok.exfs, ok.funs, ok.frf⟩
theorem Cx.Ok.unwish {X : Cx} {E : Value → Shared → Prop} (ok : (X.wish E).Ok) : X.Ok :=
  ⟨ok.mod, ok.kind, ok.glob, ok.blt, ok.above, ok.inj, ok.has, ok.cab, ok.hd, ok.frames, ok.stk, ok.exf, ok.bs, ok.bsz, ok.noex, ok.exfs, ok.funs, ok.frf⟩
section
variable {X : Cx} {pins : List (Addr × Obj)} {σ : St} {H : Hp} {s : Shared} {E : Value → Shared → Prop}
theorem Inv.wish (I : Inv X pins σ H s) (E : Value → Shared → Prop) : Inv (X.wish E) pins σ H s := ⟨I.ok.wish E, I.os, I.bare, I.base, I.loc, I.cell, I.free, I.freeC, I.pin, I.hok, I.len⟩
theorem Inv.unwish (I : Inv (X.wish E) pins σ H s) : Inv X pins σ H s := ⟨I.ok.unwish, I.os, I.bare, I.base, I.loc, I.cell, I.free, I.freeC, I.pin, I.hok, I.len⟩
theorem SP.unwish {D : Ends} {f : Flow} {s' : Shared} (h : SP (X.wish E) pins D f s') : SP X pins D f s' := by
  cases f with
  | next => obtain ⟨σ', H', I, q⟩ := h; exact ⟨σ', H', I.unwish, q⟩
  | brk => obtain ⟨σ', H', I, q⟩ := h; exact ⟨σ', H', I.unwish, q⟩
  | cont => obtain ⟨σ', H', I, q⟩ := h; exact ⟨σ', H', I.unwish, q⟩
  | ret u => obtain ⟨v, σ', H', I, r, q⟩ := h; exact ⟨v, σ', H', I.unwish, r, q⟩
theorem PSs.nox {st : List Stmt} {t : TS} (h : PSs X.nox st t) : PSs X st t := fun pins s σ H D I hw =>
  wpAny_mono (h pins s σ H D (I.wish _) hw) (fun _ _ q => q.unwish) fun _ _ z => False.elim z
end

section
variable {X : Cx} {st : Stmt} {rest : List Stmt} {t u : TS} {e : Expr} {te : TE} {pos : Pos}
def tNext : TS := fun D σ H => D.nx σ H
def tSeq (t u : TS) : TS := fun D σ H => t { D with nx := u D } σ H
theorem pss_nil : PSs X [] tNext := fun _ _ σ H _ I h => wpAny_execs_nil ⟨σ, H, I, h⟩
theorem pss_cons (h1 : PS X st t) (h2 : PSs X rest u) : PSs X (st :: rest) (tSeq t u) := by
  intro pins s σ H D I h
  refine wpAny_execs_cons (thn (h1 pins s σ H { D with nx := u D } I h) fun f s1 q => ?_)
  cases f with
  | next =>
    obtain ⟨σ', H', I', q⟩ := q
    exact h2 pins s1 σ' H' D I' q
  | ret v => exact q
  | brk => exact q
  | cont => exact q
theorem pss_one (h1 : PS X st t) : PSs X [st] t := by
  intro pins s σ H D I h
  refine wpAny_execs_cons (thn (h1 pins s σ H D I h) fun f s1 q => ?_)
  cases f with
  | next => exact wpAny_execs_nil q
  | ret v => exact q
  | brk => exact q
  | cont => exact q
/-- in a def's body nothing is shown -/
theorem Inv.quiet {pins : List (Addr × Obj)} {σ : St} {H : Hp} {s : Shared} (I : Inv X pins σ H s) : interactive X.env = false := by simp [interactive, I.ok.kind]
/-- an expression whose value is dropped -/
def tDrop (te : TE) : TS := fun D σ H => te σ H fun _ H1 => D.nx σ H1
theorem ps_expr (he : PE X e te) (hs : swapsWith e none pos.line X.env = pure false := by rfl) : PS X (.Expr e pos) (tDrop te) := by
  intro pins s σ H D I h
  exact wpAny_Expr_any (thn (he pins s σ H _ I h) fun v s1 ⟨x, H1, I1, r1, q1⟩ => ⟨σ, H1, I1, q1⟩) I.quiet hs
def tRet (te : TE) : TS := fun D σ H => te σ H D.rt
theorem ps_ret (he : PE X e te) : PS X (.Return (some e) pos) (tRet te) := by
  intro pins s σ H D I h
  exact wpAny_Return_some (thn (he pins s σ H _ I h) fun v s1 ⟨x, H1, I1, r1, q1⟩ => ⟨x, σ, H1, I1, r1, q1⟩)
def tIfS (c : TT) (t u : TS) : TS := fun D σ H => c σ H fun b H1 => if b = true then t D σ H1 else u D σ H1
theorem ps_if {c : Expr} {a b : List Stmt} {tc : TT} (hc : PT X c tc) (ha : PSs X a t) (hb : PSs X b u) : PS X (.If c a b pos) (tIfS tc t u) := by
  intro pins s σ H D I h
  refine wpAny_If (thn (hc pins s σ H _ I h) fun d s1 ⟨H1, I1, q1⟩ => ?_)
  cases d with
  | true => exact ha pins s1 σ H1 D I1 q1
  | false => exact hb pins s1 σ H1 D I1 q1
end

abbrev TG := V → St → Hp → (St → Hp → Prop) → Prop
abbrev TGs := List V → St → Hp → (St → Hp → Prop) → Prop
def PG (X : Cx) (target : Expr) (t : TG) : Prop :=
  ∀ (pins : List (Addr × Obj)) (s : Shared) (σ : St) (H : Hp) (v : V) (u : Value) (Q : St → Hp → Prop), Inv X pins σ H s → RelV v u → t v σ H Q →
    wpAny (model X.prog X.w) X.A (assign target X.env u) (fun _ s' => ∃ σ' H', Inv X pins σ' H' s' ∧ Q σ' H') X.xe s
/-- several targets, one after another -/
def PGs (X : Cx) (ts : List Expr) (t : TGs) : Prop :=
  ∀ (pins : List (Addr × Obj)) (s : Shared) (σ : St) (H : Hp) (vs : List V) (us : List Value) (Q : St → Hp → Prop), Inv X pins σ H s → Vals vs us → t vs σ H Q →
    wpAny (model X.prog X.w) X.A (assignInOrder ((assignEach ts X.env).map (·.2)) us) (fun _ s' => ∃ σ' H', Inv X pins σ' H' s' ∧ Q σ' H') X.xe s
/-- o[i] = v, by values -/
abbrev TSet := V → V → V → Hp → (Hp → Prop) → Prop
def PSet (X : Cx) (t : TSet) : Prop :=
  ∀ (pins : List (Addr × Obj)) (s : Shared) (σ : St) (H : Hp) (o i v : V) (ov iv u : Value) (Q : Hp → Prop), Inv X pins σ H s → RelV o ov → RelV i iv → RelV v u → t o i v H Q →
    wpAny (model X.prog X.w) X.A (setItem ov iv u) (fun _ s' => ∃ H', Inv X pins σ H' s' ∧ Q H') X.xe s
section
variable {X : Cx} {pos : Pos}
def gName (i : Nat) : TG := fun v σ H Q => Q (σ.set i (some v)) H
theorem pg_name {i : Nat} {x : Str} (hN : X.N.Nodup) (hi : X.N[i]? = some x) (hx : Loc X.env.scope x) (hf : X.fn x = true ∨ X.env.scope.names.lookup x = some .local := by first | exact .inl rfl | exact .inr rfl | assumption) : PG X (.Name x pos) (gName i) := by
  intro pins s σ H v u Q I r h
  exact wpAny_assign_Name (store_ok I hN hi hx r (fun s' I' => ⟨_, H, I', h⟩) hf)
def gNil : TGs := fun vs σ H Q => vs = [] ∧ Q σ H
def gCons (t : TG) (u : TGs) : TGs := fun vs σ H Q => ∃ v r, vs = v :: r ∧ t v σ H fun σ' H' => u r σ' H' Q
theorem pgs_nil : PGs X [] gNil := by
  intro pins s σ H vs us Q I r h
  obtain ⟨e, h⟩ := h
  subst e
  cases r
  exact assignInOrder_nil ⟨σ, H, I, h⟩
theorem pgs_cons {e : Expr} {es : List Expr} {t : TG} {u : TGs} (h1 : PG X e t) (h2 : PGs X es u)
    (hs : (assignEach (e :: es) X.env).map (·.2) = assign e X.env :: (assignEach es X.env).map (·.2) := by rfl) : PGs X (e :: es) (gCons t u) := by
  intro pins s σ H vs us Q I r h
  obtain ⟨v, vr, e1, h⟩ := h
  subst e1
  cases r with
  | cons r rr =>
    rw [hs]
    refine assignInOrder_cons (thn (h1 pins s σ H _ _ _ I r h) fun _ s1 ⟨σ1, H1, I1, q1⟩ => ?_)
    exact h2 pins s1 σ1 H1 _ _ Q I1 rr q1
/-- (a, b, ..) = a tuple of that length -/
def gTup (K : PySem.W.Frag) (n : Nat) (t : TGs) : TG := fun v σ H Q => ∃ a xs, v = .ref a ∧ SqT K H a xs ∧ xs.length = n ∧ t xs σ H Q
theorem pg_tup {es : List Expr} {k : Nat} {t : TGs} {n : Nat} (hc : X.calm = true) (h : PGs X es t)
    (hn : (assignEach es X.env).length = n := by rfl) (hst : (assignEach es X.env).findIdx? (·.1) = none := by rfl) : PG X (.Tuple es k pos) (gTup X.K n t) := by
  intro pins s σ H v u Q I r hw
  obtain ⟨a, xs, e1, hq, hl, hw⟩ := hw
  subst e1
  cases r
  obtain ⟨its, rv, ht, hz⟩ := I.tuple hq
  refine assign_Tuple_tuple (I.ok.hd hc) ht (by simp [hn, ← hl, rv.length]) hst fun h' hx => ?_
  have I1 : Inv X pins σ H { s with heap := h' } := I.kept (t' := s.toks) fun b o e => hx b o (Nat.ne_of_lt (Heap.lt_size e)) e
  exact h pins _ σ H xs _ Q I1 (by simpa using rv) hw
/-- o[i] = .. -/
def gSub (to ti : TE) (t : TSet) : TG := fun v σ H Q => to σ H fun o H1 => ti σ H1 fun i H2 => t o i v H2 fun H3 => Q σ H3
theorem pg_sub {o i : Expr} {to ti : TE} {t : TSet} (ho : PE X o to) (hi : PE X i ti) (hs : PSet X t)
    (ha : ∀ v, assign (.Subscript o i pos) X.env v = (do
      let ov ← holding [v] (eval o X.env)
      let iv ← holding [v, ov] (eval i X.env)
      standAt pos
      holding [v, ov, iv] (setItem ov iv v)
      release [v, ov, iv] []) := by intro _; rfl) : PG X (.Subscript o i pos) (gSub to ti t) := by
  intro pins s σ H v u Q I r h
  rw [ha]
  refine wpAny_bind (wpAny_holding (thn (ho pins s σ H _ I h) fun ov s1 ⟨x, H1, I1, r1, q1⟩ => ?_))
  refine wpAny_bind (wpAny_holding (thn (hi pins s1 σ H1 _ I1 q1) fun iv s2 ⟨y, H2, I2, r2, q2⟩ => ?_))
  refine wpAny_bind (wpAny_standAt (wpAny_bind (wpAny_holding (thn (hs pins s2 σ H2 x y v ov iv u _ I2 r1 r2 r q2) fun _ s3 ⟨H3, I3, q3⟩ => ?_))))
  exact wpAny_release ⟨σ, H3, I3, q3⟩
/-- target = value -/
def tAsg (te : TE) (g : TG) : TS := fun D σ H => te σ H fun x H1 => g x σ H1 D.nx
theorem ps_asg {tg e : Expr} {te : TE} {g : TG} (he : PE X e te) (hg : PG X tg g) (hs : swapsWithSole [tg] e pos.line X.env = pure false := by rfl) (hw : swappedStores [tg] e X.env = pure none := by rfl)
    (h1 : (assignEach [tg] X.env).map (·.2) = [assign tg X.env] := by rfl) : PS X (.Assign [tg] e pos) (tAsg te g) := by
  intro pins s σ H D I h
  refine wpAny_Assign_stores (thn (he pins s σ H _ I h) fun v s1 ⟨x, H1, I1, r1, q1⟩ => ?_) hs hw
  rw [h1]
  exact thn (hg pins s1 σ H1 x v _ I1 r1 q1) fun _ s2 q => q
/-- name = value -/
theorem ps_set {i : Nat} {x : Str} {e : Expr} {te : TE} {pos' : Pos} (hN : X.N.Nodup) (hi : X.N[i]? = some x) (hx : Loc X.env.scope x) (he : PE X e te) (hs : swapsWith e (some (.Name x pos')) pos.line X.env = pure false := by rfl) (hf : X.fn x = true ∨ X.env.scope.names.lookup x = some .local := by first | exact .inl rfl | exact .inr rfl | assumption) :
    PS X (.Assign [.Name x pos'] e pos) (tAsg te (gName i)) := by
  intro pins s σ H D I h
  refine wpAny_Assign_Name (thn (he pins s σ H _ I h) fun v s1 ⟨y, H1, I1, r1, q1⟩ => ?_) hs
  exact store_ok I1 hN hi hx r1 (fun s2 I2 => ⟨_, H1, I2, q1⟩) hf
end

section
variable {X : Cx} {pos : Pos}
/-- the invariant W with its measure -/
def tWhile (c : TT) (tb : TS) : TS := fun D σ H => ∃ W : Nat → St → Hp → Prop, (∃ m, W m σ H) ∧ ∀ m σ H, W m σ H →
  c σ H fun b H1 => if b = true then ∃ N : St → Hp → Prop, (∀ σ' H', N σ' H' → ∃ m', m' < m ∧ W m' σ' H') ∧ tb { D with nx := N, ct := N, bk := D.nx } σ H1 else D.nx σ H1
theorem ps_while {c : Expr} {body : List Stmt} {tc : TT} {tb : TS} (hp : PassesOwn (model X.prog X.w) X.A X.env X.xe) (hc : PT X c tc) (hb : PSs X body tb) : PS X (.While c body [] pos) (tWhile tc tb) := by
  intro pins s σ H D I h
  obtain ⟨W, ⟨m0, w0⟩, turn⟩ := h
  refine wpAny_While (codeAny_whileLoop (fun n s' => ∃ σ' H', Inv X pins σ' H' s' ∧ W n σ' H') ?_ m0 ⟨σ, H, I, w0⟩)
  rintro n s1 ⟨σ1, H1, I1, w1⟩
  refine wpAny_passesOwn hp (thn (hc pins s1 σ1 H1 _ I1 (turn n σ1 H1 w1)) fun b s2 ⟨H2, I2, q2⟩ => ?_)
  cases b with
  | true =>
    obtain ⟨N, hN, q2⟩ := q2
    rw [if_pos rfl]
    refine wpAny_passesOwn hp (thn (hb pins s2 σ1 H2 _ I2 q2) fun f s3 q3 => ?_)
    cases f with
    | next =>
      obtain ⟨σ3, H3, I3, n3⟩ := q3
      obtain ⟨m', hm, w3⟩ := hN σ3 H3 n3
      exact ⟨m', hm, σ3, H3, I3, w3⟩
    | cont =>
      obtain ⟨σ3, H3, I3, n3⟩ := q3
      obtain ⟨m', hm, w3⟩ := hN σ3 H3 n3
      exact ⟨m', hm, σ3, H3, I3, w3⟩
    | brk => exact q3
    | ret v => exact q3
  | false =>
    rw [if_neg Bool.false_ne_true]
    exact wpAny_execs_nil ⟨σ1, H2, I2, q2⟩
end

/-- at turn i: it yields x (the heap may grow), or it stops -/
structure It where
  go : Nat → Hp → Prop
  yld : Nat → Hp → V → Hp → Prop
  stop : Nat → Hp → Prop
/-- the iterator's own objects may turn: they are not the frame's, not pinned, younger than the entry (or a comprehension's own) -/
def FpOk (X : Cx) (pins : List (Addr × Obj)) (H : Hp) (b : Addr) : Prop :=
  H b = none ∧ b ≠ X.env.locals ∧ b ∉ X.fs ∧ (b ∈ X.ex ∨ X.s_0.heap.objs.size ≤ b) ∧ (∀ x c, X.env.cells.lookup x = some c → c ≠ b) ∧ ∀ p ∈ X.pn ++ pins, p.1 ≠ b
theorem Inv.fpOk {X : Cx} {pins : List (Addr × Obj)} {σ : St} {H H' : Hp} {s : Shared} {b : Addr} (I : Inv X pins σ H s) (hb : s.heap.objs.size ≤ b) (hn : H' b = none) : FpOk X pins H' b := by
  refine ⟨hn, Nat.ne_of_gt (Nat.lt_of_lt_of_le I.lt hb), I.nofs hb, .inr (Nat.le_trans I.sz hb), fun x c e z => ?_, fun p hp z => ?_⟩
  · obtain ⟨v, q⟩ := I.cell x c e
    exact absurd (Nat.lt_of_lt_of_le q.lt (by rw [z]; exact hb)) (Nat.lt_irrefl _)
  · exact absurd (Nat.lt_of_lt_of_le (Heap.lt_size (I.pin p hp).1) (by rw [z]; exact hb)) (Nat.lt_irrefl _)
structure Turn (P : Program) (w : World) (K : PySem.W.Frag) (tg : Expr) (J : It) (fp : List Addr) (it : Addr) (tn : Nat → Heap → Prop) : Prop where
  mem : it ∈ fp
  obj : ∀ i h, tn i h → ∀ b ∈ fp, ∃ o, h.get? b = some o ∧ ∀ v, o.data ≠ .cell v
  keep : ∀ i h h', tn i h → (∀ b ∈ fp, ∀ o, h.get? b = some o → h'.get? b = some o) → tn i h'
  item : ∀ (X : Cx), X.prog = P → X.w = w → X.K = K → X.calm = true → ∀ (i : Nat) (pins : List (Addr × Obj)) (s : Shared) (σ : St) (H : Hp) (E : Value → Shared → Prop), Inv X pins σ H s → (∀ b ∈ fp, FpOk X pins H b) → tn i s.heap → J.go i H →
    wpAny (model P w) X.A (pyNext (.ref it)) (fun r s1 => ∃ u, r = some u ∧
      wpAny (model P w) X.A (letOwnedTupleGo tg (.ref it) u) (fun _ s2 => ∃ x H', Inv X pins σ H' s2 ∧ RelV x u ∧ J.yld i H x H' ∧ tn (i + 1) s2.heap ∧ ∀ b ∈ fp, H' b = none) E s1) E s
  done : ∀ (X : Cx), X.prog = P → X.w = w → X.K = K → X.calm = true → ∀ (i : Nat) (pins : List (Addr × Obj)) (s : Shared) (σ : St) (H : Hp) (E : Value → Shared → Prop), Inv X pins σ H s → (∀ b ∈ fp, FpOk X pins H b) → tn i s.heap → J.stop i H →
    wpAny (model P w) X.A (pyNext (.ref it)) (fun r s1 => r = none ∧ Inv X pins σ H s1) E s
  self : ∀ (A : Around) (i : Nat) (s : Shared) (Q : Value → Shared → Prop) (E : Value → Shared → Prop), tn i s.heap → Q (.ref it) s → wpAny (model P w) A (pyIter (.ref it)) Q E s
abbrev TI := St → Hp → (It → Hp → Prop) → Prop
/-- an iterator has come -/
def PIE (X : Cx) (pins : List (Addr × Obj)) (σ : St) (tg : Expr) (R : It → Hp → Prop) (itv : Value) (s2 : Shared) : Prop :=
  ∃ (it : Addr) (fp : List Addr) (tn : Nat → Heap → Prop) (J : It) (H' : Hp), itv = .ref it ∧ Inv X pins σ H' s2 ∧ Turn X.prog X.w X.K tg J fp it tn ∧ tn 0 s2.heap ∧ (∀ b ∈ fp, FpOk X pins H' b) ∧ R J H'
def PI (X : Cx) (tg iter : Expr) (wi : TI) : Prop :=
  ∀ (pins : List (Addr × Obj)) (s : Shared) (σ : St) (H : Hp) (R : It → Hp → Prop), Inv X pins σ H s → wi σ H R →
    wpAny (model X.prog X.w) X.A (eval iter X.env) (fun v s1 => wpAny (model X.prog X.w) X.A (pyIter v) (PIE X pins σ tg R) X.xe s1) X.xe s

/-- the step ahead of the store is nothing for an iterator that keeps no tuple -/
theorem go_of {M : Model} {A : Around} {E : Value → Shared → Prop} {s : Shared} {tg : Expr} {it : Addr} {u : Value} {o : Obj} {n : String} {vs : Array Value} {Q : Unit → Shared → Prop} (ho : s.heap.get? it = some o) (hc : o.cls = .type n) (hd : o.data = .fields vs)
    (hn : ["enumerate", "zip", "dict_itemiterator", "dict_reverseitemiterator", "odict_iterator", "itertools.zip_longest", "itertools.pairwise"].contains n = false) (hQ : Q () s) : wpAny M A (letOwnedTupleGo tg (.ref it) u) Q E s := by
  unfold letOwnedTupleGo
  cases tg <;> first
    | exact wpAny_pure hQ
    | (cases u <;> first
        | exact wpAny_pure hQ
        | (refine wpAny_bind (wpAny_load ho ?_)
           rw [hc, hd]
           show wpAny M A (if (["enumerate", "zip", "dict_itemiterator", "dict_reverseitemiterator", "odict_iterator", "itertools.zip_longest", "itertools.pairwise"].contains n && vs[0]? == some (rawInt _)) = true then _ else _) Q E s
           rw [if_neg (by intro h; rw [hn, Bool.false_and] at h; cases h)]
           exact wpAny_pure hQ))

/-- the list at a, as it stands at each turn (a loop may append to it) -/
def Itl (K : PySem.W.Frag) (a : Addr) : It :=
  ⟨fun i H => ∃ xs x, SqL K H a xs ∧ xs[i]? = some x, fun i H x H' => H' = H ∧ ∀ xs, SqL K H a xs → xs[i]? = some x, fun i H => ∃ xs, SqL K H a xs ∧ xs.length ≤ i⟩
def Itt (K : PySem.W.Frag) (a : Addr) : It :=
  ⟨fun i H => ∃ xs x, SqT K H a xs ∧ xs[i]? = some x, fun i H x H' => H' = H ∧ ∀ xs, SqT K H a xs → xs[i]? = some x, fun i H => ∃ xs, SqT K H a xs ∧ xs.length ≤ i⟩
/-- lo, lo + 1, .. (n of them) -/
def Itr (lo : Int) (n : Nat) : It := ⟨fun i _ => i < n, fun i H x H' => H' = H ∧ x = .int (lo + i), fun i _ => n ≤ i⟩
theorem turn_list {P : Program} {w : World} {K : PySem.W.Frag} {tg : Expr} (a it : Addr) : Turn P w K tg (Itl K a) [it] it (fun i h => h.IsListIter it a i) where
  mem := by simp
  obj := fun i h st b hb => by
    have e : b = it := by simpa using hb
    subst e
    obtain ⟨o, e, c, d⟩ := st
    exact ⟨o, e, fun v z => by rw [d] at z; cases z⟩
  keep := fun i h h' st k => st.at fun o e => k it (by simp) o e
  item := by
    intro X hP hw hK hc i pins s σ H E I hf st hg
    subst hP hw hK
    obtain ⟨xs, x, hq, hx⟩ := hg
    obtain ⟨its, rv, p, hz⟩ := I.list hq
    obtain ⟨u, hu, ru⟩ := rv.get hx
    obtain ⟨f0, f1, f2, f3, f4, f5⟩ := hf it (by simp)
    refine wpAny_pyNext_list_item st p.isList (x := u) (by simpa using hu) fun h' st' sb => ?_
    have I1 : Inv X pins σ H { s with heap := h' } := I.turned (t' := s.toks) (fun b o hb e => (sb.2 b hb).trans e) f0 f1 f3 f4 f5
    obtain ⟨o, e, c, d⟩ := id st'
    exact ⟨u, rfl, go_of (s := { s with heap := h' }) e c d (by decide) ⟨x, H, I1, ru, ⟨rfl, fun ys hy => by rw [I.list_inj hy hq]; exact hx⟩, st', fun b hb => (hf b hb).1⟩⟩
  done := by
    intro X hP hw hK hc i pins s σ H E I hf st hg
    subst hP hw hK
    obtain ⟨xs, hq, hx⟩ := hg
    obtain ⟨its, rv, p, hz⟩ := I.list hq
    obtain ⟨f0, f1, f2, f3, f4, f5⟩ := hf it (by simp)
    have hl := rv.length
    exact wpAny_pyNext_list_end (I.ok.hd hc) st p.isList (by simp; omega) fun h' eb => ⟨rfl, I.turned (t' := s.toks) (fun b o hb e => eb b o hb e) f0 f1 f3 f4 f5⟩
  self := fun _ _ _ _ _ st h => wpAny_pyIter_listiter st h
theorem turn_tuple {P : Program} {w : World} {K : PySem.W.Frag} {tg : Expr} (a it : Addr) : Turn P w K tg (Itt K a) [it] it (fun i h => h.IsTupleIter it a i) where
  mem := by simp
  obj := fun i h st b hb => by
    have e : b = it := by simpa using hb
    subst e
    obtain ⟨o, e, c, d⟩ := st
    exact ⟨o, e, fun v z => by rw [d] at z; cases z⟩
  keep := fun i h h' st k => st.at fun o e => k it (by simp) o e
  item := by
    intro X hP hw hK hc i pins s σ H E I hf st hg
    subst hP hw hK
    obtain ⟨xs, x, hq, hx⟩ := hg
    obtain ⟨its, rv, p, hz⟩ := I.tuple hq
    obtain ⟨u, hu, ru⟩ := rv.get hx
    obtain ⟨f0, f1, f2, f3, f4, f5⟩ := hf it (by simp)
    refine wpAny_pyNext_tuple_item st (show s.heap.IsTuple a its.toArray from p) (x := u) (by simpa using hu) fun h' st' sb => ?_
    have I1 : Inv X pins σ H { s with heap := h' } := I.turned (t' := s.toks) (fun b o hb e => (sb.2 b hb).trans e) f0 f1 f3 f4 f5
    obtain ⟨o, e, c, d⟩ := id st'
    exact ⟨u, rfl, go_of (s := { s with heap := h' }) e c d (by decide) ⟨x, H, I1, ru, ⟨rfl, fun ys hy => by rw [I.tuple_inj hy hq]; exact hx⟩, st', fun b hb => (hf b hb).1⟩⟩
  done := by
    intro X hP hw hK hc i pins s σ H E I hf st hg
    subst hP hw hK
    obtain ⟨xs, hq, hx⟩ := hg
    obtain ⟨its, rv, p, hz⟩ := I.tuple hq
    obtain ⟨f0, f1, f2, f3, f4, f5⟩ := hf it (by simp)
    have hl := rv.length
    exact wpAny_pyNext_tuple_end (I.ok.hd hc) st (show s.heap.IsTuple a its.toArray from p) (by simp; omega) fun h' eb => ⟨rfl, I.turned (t' := s.toks) (fun b o hb e => eb b o hb e) f0 f1 f3 f4 f5⟩
  self := fun _ _ _ _ _ st h => wpAny_pyIter_tupleiter st h
theorem turn_range {P : Program} {w : World} {K : PySem.W.Frag} {tg : Expr} (it : Addr) (lo : Int) (n : Nat) : Turn P w K tg (Itr lo n) [it] it (fun i h => IsRangeIter h it (lo + (i : Nat) * 1) ((n : Int) - (i : Nat)) 1) where
  mem := by simp
  obj := fun i h st b hb => by
    have e : b = it := by simpa using hb
    subst e
    exact ⟨_, st, fun v z => by
      have z' : Data.fields _ = Data.cell v := z
      cases z'⟩
  keep := fun i h h' st k => k it (by simp) _ st
  item := by
    intro X hP hw hK hc i pins s σ H E I hf st hg
    subst hP hw hK
    obtain ⟨f0, f1, f2, f3, f4, f5⟩ := hf it (by simp)
    have W := Walks.range (prog := X.prog) (w := X.w) (I.ok.hd hc) it lo 1 n
    refine W.item i s _ _ hg st fun v h' tk hv st' kk => ?_
    obtain ⟨t, rfl⟩ := hv
    have I1 : Inv X pins σ H { s with heap := h', toks := tk } := I.turned (fun b o hb e => kk b o (by simpa using hb) e) f0 f1 f3 f4 f5
    refine ⟨_, rfl, go_of (s := { s with heap := h', toks := tk }) (n := "range_iterator") st' rfl rfl (by decide) ⟨.int (lo + i), H, I1, ⟨t, ?_⟩, ⟨rfl, rfl⟩, st', fun b hb => (hf b hb).1⟩⟩
    rw [Int.mul_one]
  done := by
    intro X hP hw hK hc i pins s σ H E I hf st hg
    subst hP hw hK
    obtain ⟨f0, f1, f2, f3, f4, f5⟩ := hf it (by simp)
    exact wpAny_pyNext_range_end (I.ok.hd hc) st (by have : n ≤ i := hg; omega) fun h' eb => ⟨rfl, I.turned (t' := s.toks) (fun b o hb e => eb b o hb e) f0 f1 f3 f4 f5⟩
  self := fun _ _ _ _ _ st h => wpAny_pyIter_rangeiter st h
end L2

namespace L2
open PySem PySem.Spec PyProof.Rows
section
variable {X : Cx} {tg : Expr}
def iList (K : PySem.W.Frag) (tl : TE) : TI := fun σ H R => tl σ H fun x H1 => ∃ a, x = .ref a ∧ (∃ xs, SqL K H1 a xs) ∧ R (Itl K a) H1
def iTup (K : PySem.W.Frag) (tl : TE) : TI := fun σ H R => tl σ H fun x H1 => ∃ a, x = .ref a ∧ (∃ xs, SqT K H1 a xs) ∧ R (Itt K a) H1
theorem pi_list {l : Expr} {tl : TE} (hl : PE X l tl) : PI X tg l (iList X.K tl) := by
  intro pins s σ H R I h
  refine thn (hl pins s σ H _ I h) fun v s1 ⟨x, H1, I1, r1, q1⟩ => ?_
  obtain ⟨a, e, ⟨xs, hq⟩, q⟩ := q1
  subst e
  cases r1
  obtain ⟨its, rv, p, hz⟩ := I1.list hq
  refine wpAny_pyIter_list p.isList ?_
  refine ⟨s1.heap.objs.size, [s1.heap.objs.size], _, _, H1, rfl, I1.kept (t' := s1.toks) fun b o e => Heap.get?_push_of_some _ e, turn_list a _, ⟨_, Heap.get?_push_size _ rfl, rfl, rfl⟩, fun b hb => ?_, q⟩
  have e : b = s1.heap.objs.size := by simpa using hb
  subst e
  exact I1.fpOk (Nat.le_refl _) (I1.hok.fresh (Nat.le_refl _))
theorem pi_tup {l : Expr} {tl : TE} (hl : PE X l tl) : PI X tg l (iTup X.K tl) := by
  intro pins s σ H R I h
  refine thn (hl pins s σ H _ I h) fun v s1 ⟨x, H1, I1, r1, q1⟩ => ?_
  obtain ⟨a, e, ⟨xs, hq⟩, q⟩ := q1
  subst e
  cases r1
  obtain ⟨its, rv, p, hz⟩ := I1.tuple hq
  refine wpAny_pyIter_tuple (show s1.heap.IsTuple a its.toArray from p) ?_
  refine ⟨s1.heap.objs.size, [s1.heap.objs.size], _, _, H1, rfl, I1.kept (t' := s1.toks) fun b o e => Heap.get?_push_of_some _ e, turn_tuple a _, ⟨_, Heap.get?_push_size _ rfl, rfl, rfl⟩, fun b hb => ?_, q⟩
  have e : b = s1.heap.objs.size := by simpa using hb
  subst e
  exact I1.fpOk (Nat.le_refl _) (I1.hok.fresh (Nat.le_refl _))
/-- a range object just made, walked -/
theorem range_it {pins : List (Addr × Obj)} {σ : St} {H : Hp} {s : Shared} {R : It → Hp → Prop} {E : Value → Shared → Prop} {lo hi : Int} {t u v : Tok} {tk : Nat} (I : Inv X pins σ H s) (h1 : -(2 ^ 62) ≤ lo) (h2 : lo < 2 ^ 62) (h3 : -(2 ^ 62) ≤ hi) (h4 : hi < 2 ^ 62)
    (q : R (Itr lo (hi - lo).toNat) H) : wpAny (model X.prog X.w) X.A (pyIter (.ref s.heap.objs.size)) (PIE X pins σ tg R) E { s with heap := s.heap.push { cls := .type "range", data := .fields #[.int lo t, .int hi u, .int 1 v] }, toks := tk } := by
  refine wpAny_pyIter_range (IsRange.new ..) (small_one h1 h2 h3 h4) ?_
  have I1 : Inv X pins σ H { s with heap := s.heap.push { cls := .type "range", data := .fields #[.int lo t, .int hi u, .int 1 v] }, toks := tk } := I.kept fun b o e => Heap.get?_push_of_some _ e
  refine ⟨(s.heap.push { cls := .type "range", data := .fields #[.int lo t, .int hi u, .int 1 v] }).objs.size, [(s.heap.push { cls := .type "range", data := .fields #[.int lo t, .int hi u, .int 1 v] }).objs.size], _, _, H, rfl,
    I1.kept (t' := tk) fun b o e => Heap.get?_push_of_some _ e, turn_range _ lo (hi - lo).toNat, ?_, fun b hb => ?_, q⟩
  · have e1 : lo + ((0 : Nat) : Int) * 1 = lo := by simp
    have e2 : (((hi - lo).toNat : Nat) : Int) - ((0 : Nat) : Int) = Builtin.Range.rangeSize lo hi 1 := by rw [rangeSize_one]; split <;> omega
    show IsRangeIter _ _ (lo + ((0 : Nat) : Int) * 1) ((((hi - lo).toNat : Nat) : Int) - ((0 : Nat) : Int)) 1
    rw [e1, e2]
    exact Heap.get?_push_size _ rfl
  · have e : b = (s.heap.push { cls := .type "range", data := .fields #[.int lo t, .int hi u, .int 1 v] }).objs.size := by simpa using hb
    subst e
    exact I1.fpOk (Nat.le_refl _) (I1.hok.fresh (Nat.le_refl _))
def iRng1 (ta : TA) : TI := fun σ H R => ta σ H fun vs H1 => ∃ j : Int, vs = [.int j] ∧ -(2 ^ 62) ≤ j ∧ j < 2 ^ 62 ∧ R (Itr 0 j.toNat) H1
theorem pi_range1 {a : Expr} {ta : TA} {p pos : Pos} (hg : Gl X "range") (hm : X.mg "range" = none) (ha : PA X [a] ta) (hs : starEach [a] X.env = [(false, eval a X.env)] := by rfl) : PI X tg (.Call (.Name "range" p) [a] [] pos) (iRng1 ta) := by
  intro pins s σ H R I h
  refine Call_ (ld_blt I hg hm boot_range (PyProof.Rows.callWith_type1 (thn (ha pos pins s σ H _ I h) fun us s1 ⟨vs, H1, I1, r1, q1⟩ => ?_) hs rfl))
  obtain ⟨j, e, q1, q2, q⟩ := q1
  subst e
  cases r1 with
  | cons r rr =>
    cases rr
    obtain ⟨t, rfl⟩ := r
    exact call_range_1 (range_it I1 (by omega) (by omega) q1 q2 (by simpa using q))
/-- W: the invariant by the turn and a measure; N: what the body is to reach -/
def tFor (wi : TI) (g : TG) (tb : TS) : TS := fun D σ H => wi σ H fun J H1 => ∃ W : Nat → Nat → St → Hp → Prop, (∃ m, W 0 m σ H1) ∧ ∀ i m σ H, W i m σ H →
  (J.stop i H ∧ D.nx σ H) ∨ (J.go i H ∧ ∃ N : St → Hp → Prop, (∀ σ' H', N σ' H' → ∃ m', m' < m ∧ W (i + 1) m' σ' H') ∧ ∀ x H', J.yld i H x H' → g x σ H' fun σ2 H2 => tb { D with nx := N, ct := N, bk := D.nx } σ2 H2)
/-- the records at fp as they stand -/
def pinsAt (fp : List Addr) (h : Heap) : List (Addr × Obj) := fp.filterMap fun b => (h.get? b).map fun o => (b, o)
theorem mem_pinsAt {fp : List Addr} {h : Heap} {b : Addr} {o : Obj} (hb : b ∈ fp) (e : h.get? b = some o) : (b, o) ∈ pinsAt fp h := List.mem_filterMap.mpr ⟨b, hb, by rw [e]; rfl⟩
theorem of_pinsAt {fp : List Addr} {h : Heap} {p : Addr × Obj} (hp : p ∈ pinsAt fp h) : p.1 ∈ fp ∧ h.get? p.1 = some p.2 := by
  obtain ⟨b, hb, e⟩ := List.mem_filterMap.mp hp
  cases q : h.get? b with
  | none => rw [q] at e; cases e
  | some o =>
    rw [q] at e
    have e' : (b, o) = p := Option.some.inj e
    subst e'
    exact ⟨hb, q⟩
theorem Inv.pinned {pins : List (Addr × Obj)} {σ : St} {H : Hp} {s : Shared} {fp : List Addr} (I : Inv X pins σ H s) (hf : ∀ b ∈ fp, FpOk X pins H b) (ho : ∀ b ∈ fp, ∃ o, s.heap.get? b = some o ∧ ∀ v, o.data ≠ .cell v) : Inv X (pins ++ pinsAt fp s.heap) σ H s :=
  I.pins_of fun p hp => (List.mem_append.mp hp).elim (fun z => I.pin p (List.mem_append_right _ z)) fun z => by
    obtain ⟨hb, e⟩ := of_pinsAt z
    obtain ⟨f0, f1, f2, _⟩ := hf p.1 hb
    obtain ⟨o, e', d⟩ := ho p.1 hb
    rw [e] at e'; cases e'
    exact ⟨e, f0, f1, f2, d⟩
theorem Inv.unpinned {pins pl : List (Addr × Obj)} {σ : St} {H : Hp} {s : Shared} (I : Inv X (pins ++ pl) σ H s) : Inv X pins σ H s := I.pins_of fun p hp => I.pin p (List.mem_append_right _ (List.mem_append_left _ hp))
theorem ps_for {iter : Expr} {body : List Stmt} {wi : TI} {g : TG} {tb : TS} {pos : Pos} (hp : PassesOwn (model X.prog X.w) X.A X.env X.xe) (hc : X.calm = true) (hi : PI X tg iter wi) (hg : PG X tg g) (hb : PSs X body tb)
    (hs : ∀ x, foldedSetIterable iter X.env x = pure x := by intro _; rfl) : PS X (.For tg iter body [] pos) (tFor wi g tb) := by
  intro pins s σ H D I h
  refine wpAny_For (thn (hi pins s σ H _ I h) fun v s1 h1 => thn h1 fun itv s2 h2 => ?_) hs
  obtain ⟨it, fp, tn, J, H2, e, I2, T, st2, f2, W, ⟨m0, w0⟩, turn⟩ := h2
  subst e
  -- what stays true of the iterator's objects through the loop
  have stat : ∀ {H' : Hp}, (∀ b ∈ fp, H' b = none) → ∀ b ∈ fp, FpOk X pins H' b := fun hn b hb => ⟨hn b hb, (f2 b hb).2⟩
  refine codeAny_forLoop_any (fun n s' => ∃ i σ' H', Inv X pins σ' H' s' ∧ tn i s'.heap ∧ (∀ b ∈ fp, H' b = none) ∧ W i n σ' H') ?_ m0 ⟨0, σ, H2, I2, st2, fun b hb => (f2 b hb).1, w0⟩
  rintro n s3 ⟨i, σ3, H3, I3, st3, fr3, w3⟩
  rcases turn i n σ3 H3 w3 with ⟨stop, qn⟩ | ⟨go, N, hN, step⟩
  · refine wpAny_passesOwn hp (thn (T.done X rfl rfl rfl hc i pins s3 σ3 H3 X.xe I3 (stat fr3) st3 stop) fun r s4 ⟨hr, I4⟩ => ?_)
    subst hr
    exact wpAny_execs_nil ⟨σ3, H3, I4, qn⟩
  · refine wpAny_passesOwn hp (thn (T.item X rfl rfl rfl hc i pins s3 σ3 H3 X.xe I3 (stat fr3) st3 go) fun r s4 ⟨u, hr, h4⟩ => ?_)
    subst hr
    refine wpAny_passesOwn hp (thn h4 fun _ s5 ⟨x, H5, I5, r5, y5, st5, fr5⟩ => ?_)
    have I5' := I5.pinned (stat fr5) (T.obj _ _ st5)
    refine wpAny_passesOwn hp (thn (hg _ s5 σ3 H5 x u _ I5' r5 (step x H5 y5)) fun _ s6 ⟨σ6, H6, I6, q6⟩ => ?_)
    refine wpAny_passesOwn hp (thn (hb _ s6 σ6 H6 _ I6 q6) fun f s7 q7 => ?_)
    have again : ∀ {σ7 : St} {H7 : Hp}, Inv X (pins ++ pinsAt fp s5.heap) σ7 H7 s7 → N σ7 H7 → ∃ m, m < n ∧ ∃ i σ' H', Inv X pins σ' H' s7 ∧ tn i s7.heap ∧ (∀ b ∈ fp, H' b = none) ∧ W i m σ' H' := fun {σ7 H7} I7 n7 => by
      obtain ⟨m', hm, w7⟩ := hN σ7 H7 n7
      refine ⟨m', hm, i + 1, σ7, H7, I7.unpinned, T.keep _ _ _ st5 fun b hb o e => (I7.pin (b, o) (List.mem_append_right _ (List.mem_append_right _ (mem_pinsAt hb e)))).1, fun b hb => ?_, w7⟩
      obtain ⟨o, e, d⟩ := T.obj _ _ st5 b hb
      exact (I7.pin (b, o) (List.mem_append_right _ (List.mem_append_right _ (mem_pinsAt hb e)))).2.1
    cases f with
    | next => obtain ⟨σ7, H7, I7, n7⟩ := q7; exact again I7 n7
    | cont => obtain ⟨σ7, H7, I7, n7⟩ := q7; exact again I7 n7
    | brk => obtain ⟨σ7, H7, I7, q7⟩ := q7; exact ⟨σ7, H7, I7.unpinned, q7⟩
    | ret v => obtain ⟨x7, σ7, H7, I7, r7, q7⟩ := q7; exact ⟨x7, σ7, H7, I7.unpinned, r7, q7⟩
end

/-- over a list that the body leaves as it is -/
theorem for_list {K : PySem.W.Frag} {a : Addr} {xs : List V} {g : TG} {tb : TS} {D : Ends} {σ : St} {H : Hp} (Pv : Nat → St → Hp → Prop) (h0 : Pv 0 σ H) (hl : ∀ i σ H, i ≤ xs.length → Pv i σ H → SqL K H a xs)
    (hs : ∀ i x σ H, xs[i]? = some x → Pv i σ H → g x σ H fun σ2 H2 => tb { D with nx := Pv (i + 1), ct := Pv (i + 1), bk := D.nx } σ2 H2) (hd : ∀ σ H, Pv xs.length σ H → D.nx σ H) :
    ∃ W : Nat → Nat → St → Hp → Prop, (∃ m, W 0 m σ H) ∧ ∀ i m σ H, W i m σ H →
      ((Itl K a).stop i H ∧ D.nx σ H) ∨ ((Itl K a).go i H ∧ ∃ N : St → Hp → Prop, (∀ σ' H', N σ' H' → ∃ m', m' < m ∧ W (i + 1) m' σ' H') ∧ ∀ x H', (Itl K a).yld i H x H' → g x σ H' fun σ2 H2 => tb { D with nx := N, ct := N, bk := D.nx } σ2 H2) := by
  refine ⟨fun i m σ H => m = xs.length - i ∧ i ≤ xs.length ∧ Pv i σ H, ⟨xs.length, by simp, Nat.zero_le _, h0⟩, ?_⟩
  rintro i m σ H ⟨rfl, hi, p⟩
  have q := hl i σ H hi p
  by_cases hlt : i < xs.length
  · refine .inr ⟨⟨xs, xs[i], q, by simp [hlt]⟩, Pv (i + 1), fun σ' H' p' => ⟨xs.length - (i + 1), by omega, rfl, hlt, p'⟩, fun x H' y => ?_⟩
    obtain ⟨e, y⟩ := y
    subst e
    exact hs i x σ _ (y xs q) p
  · have e : i = xs.length := by omega
    subst e
    exact .inl ⟨⟨xs, q, Nat.le_refl _⟩, hd σ H p⟩
theorem for_tup {K : PySem.W.Frag} {a : Addr} {xs : List V} {g : TG} {tb : TS} {D : Ends} {σ : St} {H : Hp} (Pv : Nat → St → Hp → Prop) (h0 : Pv 0 σ H) (hl : ∀ i σ H, i ≤ xs.length → Pv i σ H → SqT K H a xs)
    (hs : ∀ i x σ H, xs[i]? = some x → Pv i σ H → g x σ H fun σ2 H2 => tb { D with nx := Pv (i + 1), ct := Pv (i + 1), bk := D.nx } σ2 H2) (hd : ∀ σ H, Pv xs.length σ H → D.nx σ H) :
    ∃ W : Nat → Nat → St → Hp → Prop, (∃ m, W 0 m σ H) ∧ ∀ i m σ H, W i m σ H →
      ((Itt K a).stop i H ∧ D.nx σ H) ∨ ((Itt K a).go i H ∧ ∃ N : St → Hp → Prop, (∀ σ' H', N σ' H' → ∃ m', m' < m ∧ W (i + 1) m' σ' H') ∧ ∀ x H', (Itt K a).yld i H x H' → g x σ H' fun σ2 H2 => tb { D with nx := N, ct := N, bk := D.nx } σ2 H2) := by
  refine ⟨fun i m σ H => m = xs.length - i ∧ i ≤ xs.length ∧ Pv i σ H, ⟨xs.length, by simp, Nat.zero_le _, h0⟩, ?_⟩
  rintro i m σ H ⟨rfl, hi, p⟩
  have q := hl i σ H hi p
  by_cases hlt : i < xs.length
  · refine .inr ⟨⟨xs, xs[i], q, by simp [hlt]⟩, Pv (i + 1), fun σ' H' p' => ⟨xs.length - (i + 1), by omega, rfl, hlt, p'⟩, fun x H' y => ?_⟩
    obtain ⟨e, y⟩ := y
    subst e
    exact hs i x σ _ (y xs q) p
  · have e : i = xs.length := by omega
    subst e
    exact .inl ⟨⟨xs, q, Nat.le_refl _⟩, hd σ H p⟩
theorem for_range {lo : Int} {n : Nat} {g : TG} {tb : TS} {D : Ends} {σ : St} {H : Hp} (Pv : Nat → St → Hp → Prop) (h0 : Pv 0 σ H)
    (hs : ∀ i σ H, i < n → Pv i σ H → g (.int (lo + i)) σ H fun σ2 H2 => tb { D with nx := Pv (i + 1), ct := Pv (i + 1), bk := D.nx } σ2 H2) (hd : ∀ σ H, Pv n σ H → D.nx σ H) :
    ∃ W : Nat → Nat → St → Hp → Prop, (∃ m, W 0 m σ H) ∧ ∀ i m σ H, W i m σ H →
      ((Itr lo n).stop i H ∧ D.nx σ H) ∨ ((Itr lo n).go i H ∧ ∃ N : St → Hp → Prop, (∀ σ' H', N σ' H' → ∃ m', m' < m ∧ W (i + 1) m' σ' H') ∧ ∀ x H', (Itr lo n).yld i H x H' → g x σ H' fun σ2 H2 => tb { D with nx := N, ct := N, bk := D.nx } σ2 H2) := by
  refine ⟨fun i m σ H => m = n - i ∧ i ≤ n ∧ Pv i σ H, ⟨n, by simp, Nat.zero_le _, h0⟩, ?_⟩
  rintro i m σ H ⟨rfl, hi, p⟩
  by_cases hlt : i < n
  · refine .inr ⟨hlt, Pv (i + 1), fun σ' H' p' => ⟨n - (i + 1), by omega, rfl, hlt, p'⟩, fun x H' y => ?_⟩
    obtain ⟨e, y⟩ := y
    subst e y
    exact hs i σ _ hlt p
  · have e : i = n := by omega
    subst e
    exact .inl ⟨Nat.le_refl _, hd σ H p⟩
/-- while, by a word and a measure of the state -/
theorem while_by {c : TT} {tb : TS} {D : Ends} {σ : St} {H : Hp} (Pv : St → Hp → Prop) (μ : St → Hp → Nat) (h0 : Pv σ H)
    (hs : ∀ σ H, Pv σ H → c σ H fun b H1 => if b = true then tb { D with nx := fun σ' H' => Pv σ' H' ∧ μ σ' H' < μ σ H, ct := fun σ' H' => Pv σ' H' ∧ μ σ' H' < μ σ H, bk := D.nx } σ H1 else D.nx σ H1)
    (mono : ∀ σ H Q Q', (∀ b H1, Q b H1 → Q' b H1) → c σ H Q → c σ H Q') : tWhile c tb D σ H := by
  refine ⟨fun m σ H => m = μ σ H ∧ Pv σ H, ⟨_, rfl, h0⟩, ?_⟩
  rintro m σ H ⟨rfl, p⟩
  refine mono σ H _ _ (fun b H1 q => ?_) (hs σ H p)
  cases b with
  | true => exact ⟨_, fun σ' H' ⟨p', l⟩ => ⟨_, l, rfl, p'⟩, q⟩
  | false => exact q
end L2

namespace L2
open PySem PySem.Spec PyProof.Rows

abbrev R2 := V → V → Hp → VK → Prop
/-- a two-place operation on values: f is binaryOp op, inplaceOp op or compareOp op -/
def OpR (X : Cx) (f : Value → Value → Sem Value) (r : R2) : Prop :=
  ∀ (pins : List (Addr × Obj)) (s : Shared) (σ : St) (H : Hp) (x y : V) (v u : Value) (Q : VK), Inv X pins σ H s → RelV x v → RelV y u → r x y H Q →
    wpAny (model X.prog X.w) X.A (f v u) (EP X pins σ Q) X.xe s
/-- a one-place operation -/
def UnR (X : Cx) (f : Value → Sem Value) (r : V → Hp → VK → Prop) : Prop :=
  ∀ (pins : List (Addr × Obj)) (s : Shared) (σ : St) (H : Hp) (x : V) (v : Value) (Q : VK), Inv X pins σ H s → RelV x v → r x H Q →
    wpAny (model X.prog X.w) X.A (f v) (EP X pins σ Q) X.xe s
/-- a call of a value that is known (a builtin, a type) with values -/
def CallR (X : Cx) (f : Value) (r : List V → Hp → VK → Prop) : Prop :=
  ∀ (pins : List (Addr × Obj)) (s : Shared) (σ : St) (H : Hp) (xs : List V) (us : List Value) (Q : VK), Inv X pins σ H s → Vals xs us → r xs H Q →
    wpAny (model X.prog X.w) X.A (call f us) (EP X pins σ Q) X.xe s
/-- a value's truth -/
def TruR (X : Cx) (r : V → Hp → (Bool → Hp → Prop) → Prop) : Prop :=
  ∀ (pins : List (Addr × Obj)) (s : Shared) (σ : St) (H : Hp) (x : V) (v : Value) (Q : Bool → Hp → Prop), Inv X pins σ H s → RelV x v → r x H Q →
    wpAny (model X.prog X.w) X.A (truthy v) (TP X pins σ Q) X.xe s

def tOp (r : R2) (ta tb : TE) : TE := fun σ H Q => ta σ H fun x H1 => tb σ H1 fun y H2 => r x y H2 Q
def tUn (r : V → Hp → VK → Prop) (ta : TE) : TE := fun σ H Q => ta σ H fun x H1 => r x H1 Q
/-- ints in, under C, and a value out -/
def rI (C : Int → Int → Prop) (g : Int → Int → V) : R2 := fun x y H Q => ∃ i j, x = .int i ∧ y = .int j ∧ C i j ∧ Q (g i j) H
def rI0 (g : Int → Int → V) : R2 := fun x y H Q => ∃ i j, x = .int i ∧ y = .int j ∧ Q (g i j) H
def rU (g : Int → V) : V → Hp → VK → Prop := fun x H Q => ∃ i, x = .int i ∧ Q (g i) H

section
variable {X : Cx} {a b c : Expr} {ta tb tc : TE} {pos : Pos}

theorem binT (ha : PE X a ta) (hb : PE X b tb) {pins : List (Addr × Obj)} {s : Shared} {σ : St} {H : Hp} {R : V → V → Hp → Prop} (I : Inv X pins σ H s)
    (h : ta σ H fun x H1 => tb σ H1 fun y H2 => R x y H2) {Q : Value → Shared → Prop} {f : Value → Value → Sem Value}
    (hf : ∀ v u s2 x y H2, Inv X pins σ H2 s2 → RelV x v → RelV y u → R x y H2 → wpAny (model X.prog X.w) X.A (f v u) Q X.xe s2) :
    wpAny (model X.prog X.w) X.A (eval a X.env) (fun v s₁ => wpAny (model X.prog X.w) X.A (eval b X.env) (fun u s₂ => wpAny (model X.prog X.w) X.A (f v u) Q X.xe s₂) X.xe s₁) X.xe s := by
  refine thn (ha pins s σ H _ I h) fun v s1 ⟨x, H1, I1, r1, q1⟩ => ?_
  refine thn (hb pins s1 σ H1 _ I1 q1) fun u s2 ⟨y, H2, I2, r2, q2⟩ => ?_
  exact hf v u s2 x y H2 I2 r1 r2 q2

theorem pe_op {op : Operator} {r : R2} (ho : OpR X (binaryOp op) r) (ha : PE X a ta) (hb : PE X b tb) : PE X (.BinOp a op b pos) (tOp r ta tb) := by
  intro pins s σ H Q I h
  exact wpAny_BinOp (binT ha hb I h fun v u s2 x y H2 I2 rx ry q => ho pins s2 σ H2 x y v u Q I2 rx ry q)
theorem pe_un {op : UnaryOp} {r : V → Hp → VK → Prop} (ho : UnR X (unaryOp op) r) (ha : PE X a ta) : PE X (.UnaryOp op a pos) (tUn r ta) := by
  intro pins s σ H Q I h
  exact UnaryOp_ (thn (ha pins s σ H _ I h) fun v s1 ⟨x, H1, I1, r1, q1⟩ => ho pins s1 σ H1 x v Q I1 r1 q1)
theorem opI {f : Value → Value → Sem Value} {C : Int → Int → Prop} {g : Int → Int → Int}
    (rule : ∀ (i j : Int) (t u : Tok) (s : Shared) (Q : Value → Shared → Prop) (E : Value → Shared → Prop), C i j → Q (.int (g i j) s.toks) { s with toks := s.toks + 1 } → wpAny (model X.prog X.w) X.A (f (.int i t) (.int j u)) Q E s) :
    OpR X f (rI C fun i j => .int (g i j)) := by
  intro pins s σ H x y v u Q I rx ry h
  obtain ⟨i, j, rfl, rfl, hc, q⟩ := h
  obtain ⟨t, rfl⟩ := rx
  obtain ⟨t', rfl⟩ := ry
  exact rule i j t t' s _ _ hc ⟨.int (g i j), H, I.tok _, ⟨_, rfl⟩, q⟩
theorem opI0 {f : Value → Value → Sem Value} {g : Int → Int → Int}
    (rule : ∀ (i j : Int) (t u : Tok) (s : Shared) (Q : Value → Shared → Prop) (E : Value → Shared → Prop), Q (.int (g i j) s.toks) { s with toks := s.toks + 1 } → wpAny (model X.prog X.w) X.A (f (.int i t) (.int j u)) Q E s) :
    OpR X f (rI0 fun i j => .int (g i j)) := by
  intro pins s σ H x y v u Q I rx ry h
  obtain ⟨i, j, rfl, rfl, q⟩ := h
  obtain ⟨t, rfl⟩ := rx
  obtain ⟨t', rfl⟩ := ry
  exact rule i j t t' s _ _ ⟨.int (g i j), H, I.tok _, ⟨_, rfl⟩, q⟩
theorem opB0 {f : Value → Value → Sem Value} {g : Int → Int → Bool}
    (rule : ∀ (i j : Int) (t u : Tok) (s : Shared) (Q : Value → Shared → Prop) (E : Value → Shared → Prop), Q (.bool (g i j)) s → wpAny (model X.prog X.w) X.A (f (.int i t) (.int j u)) Q E s) :
    OpR X f (rI0 fun i j => .bl (g i j)) := by
  intro pins s σ H x y v u Q I rx ry h
  obtain ⟨i, j, rfl, rfl, q⟩ := h
  obtain ⟨t, rfl⟩ := rx
  obtain ⟨t', rfl⟩ := ry
  exact rule i j t t' s _ _ ⟨.bl (g i j), H, I, rfl, q⟩

def CDiv (i j : Int) : Prop := 0 < j ∧ j < 1073741824
def CPow (i j : Int) : Prop := 0 ≤ j ∧ j ≤ 1000000 ∧ i.natAbs < 2 ^ 64
def CMul (i j : Int) : Prop := (-(2 ^ 64) < i ∧ i < 2 ^ 64) ∨ (-(2 ^ 64) < j ∧ j < 2 ^ 64)
theorem CMul.ok {i j : Int} (h : CMul i j) : IntMulOk i j := by
  rcases h with ⟨h1, h2⟩ | ⟨h1, h2⟩
  · exact .of_left (intBits_le_64 h1 h2)
  · exact .of_right (intBits_le_64 h1 h2)
theorem two_pow_nn (k : Nat) : (0 : Int) ≤ 2 ^ k := by
  rw [two_pow_cast]
  exact Int.natCast_nonneg _

theorem op_add : OpR X (binaryOp .Add) (rI0 fun i j => .int (i + j)) := opI0 fun _ _ _ _ _ _ _ q => add_int q
theorem op_sub : OpR X (binaryOp .Sub) (rI0 fun i j => .int (i - j)) := opI0 fun _ _ _ _ _ _ _ q => sub_int q
theorem op_mul : OpR X (binaryOp .Mult) (rI CMul fun i j => .int (i * j)) := opI fun _ _ _ _ _ _ _ hc q => mul_int q hc.ok
/-- // by a positive divisor -/
theorem op_fdiv : OpR X (binaryOp .FloorDiv) (rI CDiv fun i j => .int (i / j)) := opI fun i j _ _ _ _ _ hc q => by
  have h1 : (0 : Int) < j := hc.1
  have h2 : j < 1073741824 := hc.2
  exact floordiv_int (by omega) (by rw [Int.fdiv_eq_ediv_of_nonneg i (by omega)]; exact q) (.inl (PyProof.noPylong_small (by omega)))
/-- % by a positive divisor of any size -/
theorem op_mod : OpR X (binaryOp .Mod) (rI (fun _ j => 0 < j) fun i j => .int (i % j)) := opI fun i j _ _ _ _ _ hc q => by
  have h1 : (0 : Int) < j := hc
  exact mod_int' (by omega) (by rw [Int.fmod_eq_emod_of_nonneg i (by omega)]; exact q)
theorem op_shl : OpR X (binaryOp .LShift) (rI CPow fun i j => .int (i * 2 ^ j.toNat)) := opI fun _ _ _ _ _ _ _ hc q => lshift_int_small hc.1 hc.2.1 hc.2.2 q
theorem op_shr : OpR X (binaryOp .RShift) (rI (fun _ j => 0 ≤ j) fun i j => .int (i / 2 ^ j.toNat)) := opI fun i j _ _ _ _ _ hc q =>
  rshift_int hc (by rw [Int.fdiv_eq_ediv_of_nonneg i (two_pow_nn _)]; exact q)
theorem op_and : OpR X (binaryOp .BitAnd) (rI0 fun i j => .int (Builtin.bitAnd i j)) := opI0 fun _ _ _ _ _ _ _ q => and_int q
theorem op_or : OpR X (binaryOp .BitOr) (rI0 fun i j => .int (Builtin.bitOr i j)) := opI0 fun _ _ _ _ _ _ _ q => or_int q
theorem unI {f : Value → Sem Value} {g : Int → Int}
    (rule : ∀ (i : Int) (t : Tok) (s : Shared) (Q : Value → Shared → Prop) (E : Value → Shared → Prop), Q (.int (g i) s.toks) { s with toks := s.toks + 1 } → wpAny (model X.prog X.w) X.A (f (.int i t)) Q E s) :
    UnR X f (rU fun i => .int (g i)) := by
  intro pins s σ H x v Q I rx h
  obtain ⟨i, rfl, q⟩ := h
  obtain ⟨t, rfl⟩ := rx
  exact rule i t s _ _ ⟨.int (g i), H, I.tok _, ⟨_, rfl⟩, q⟩
theorem un_neg : UnR X (unaryOp .USub) (rU fun i => .int (-i)) := unI fun _ _ _ _ _ q => neg_int q
end

/-- the scalars that == tells apart as data does -/
def scal : V → V → Bool
  | .non, .non => true | .non, .int _ => true | .int _, .non => true | .non, .bl _ => true | .bl _, .non => true | .non, .str _ => true | .str _, .non => true
  | .int _, .int _ => true | .bl _, .bl _ => true | .str _, .str _ => true | .byt _, .byt _ => true
  | .int _, .str _ => true | .str _, .int _ => true | .bl _, .str _ => true | .str _, .bl _ => true
  | _, _ => false
def rEq : R2 := fun x y H Q => scal x y = true ∧ Q (.bl (decide (x = y))) H
theorem dec_int {i j : Int} : decide (V.int i = V.int j) = (i == j) := by
  rw [Bool.eq_iff_iff]
  simp
theorem dec_bl {i j : Bool} : decide (V.bl i = V.bl j) = (i == j) := by
  rw [Bool.eq_iff_iff]
  simp
theorem dec_str {i j : Str} : decide (V.str i = V.str j) = (i == j) := by
  rw [Bool.eq_iff_iff]
  simp
theorem dec_byt {i j : Array UInt8} : decide (V.byt i = V.byt j) = (i.toList == j.toList) := by
  rw [Bool.eq_iff_iff]
  cases i
  cases j
  simp

section
variable {X : Cx} {a b c : Expr} {ta tb tc : TE} {pos : Pos}
theorem fin_bl {pins : List (Addr × Obj)} {σ : St} {H : Hp} {s : Shared} {Q : VK} {k k' : Bool} (I : Inv X pins σ H s) (q : Q (.bl k) H) (e : k = k') : EP X pins σ Q (.bool k') s := by
  subst e
  exact ⟨.bl k, H, I, rfl, q⟩
theorem op_eq : OpR X (compareOp .Eq) rEq := by
  intro pins s σ H x y v u Q I rx ry h
  obtain ⟨hs, q⟩ := h
  cases x with
  | non =>
    cases rx
    cases y with
    | non => cases ry; exact PySem.EqNone.eq_none_none (fin_bl I q (by simp))
    | bl j => cases ry; exact PySem.EqNone.eq_none_bool (fin_bl I q (by simp))
    | int j => obtain ⟨t', rfl⟩ := ry; exact PySem.EqNone.eq_none_int (fin_bl I q (by simp))
    | str j => obtain ⟨t', rfl⟩ := ry; exact PySem.EqNone.eq_none_str (fin_bl I q (by simp))
    | _ => exact absurd (show false = true from hs) Bool.false_ne_true
  | bl i =>
    cases rx
    cases y with
    | non => cases ry; exact PySem.EqNone.eq_bool_none (fin_bl I q (by simp))
    | bl j => cases ry; exact eq_bool (fin_bl I q dec_bl)
    | str j => obtain ⟨t', rfl⟩ := ry; exact PySem.EqMixed.eq_bool_str (fin_bl I q (by simp))
    | _ => exact absurd (show false = true from hs) Bool.false_ne_true
  | int i =>
    obtain ⟨t, rfl⟩ := rx
    cases y with
    | non => cases ry; exact PySem.EqNone.eq_int_none (fin_bl I q (by simp))
    | int j => obtain ⟨t', rfl⟩ := ry; exact eq_int (fin_bl I q dec_int)
    | str j => obtain ⟨t', rfl⟩ := ry; exact PySem.EqMixed.eq_int_str (fin_bl I q (by simp))
    | _ => exact absurd (show false = true from hs) Bool.false_ne_true
  | str i =>
    obtain ⟨t, rfl⟩ := rx
    cases y with
    | non => cases ry; exact PySem.EqNone.eq_str_none (fin_bl I q (by simp))
    | bl j => cases ry; exact PySem.EqMixed.eq_str_bool (fin_bl I q (by simp))
    | int j => obtain ⟨t', rfl⟩ := ry; exact PySem.EqMixed.eq_str_int (fin_bl I q (by simp))
    | str j => obtain ⟨t', rfl⟩ := ry; exact eq_str (fin_bl I q dec_str)
    | _ => exact absurd (show false = true from hs) Bool.false_ne_true
  | byt i =>
    obtain ⟨t, rfl⟩ := rx
    cases y with
    | byt j => obtain ⟨t', rfl⟩ := ry; exact PySem.W.eq_bytes (fin_bl I q dec_byt)
    | _ => exact absurd (show false = true from hs) Bool.false_ne_true
  | _ => cases y <;> exact absurd (show false = true from hs) Bool.false_ne_true
theorem op_lt : OpR X (compareOp .Lt) (rI0 fun i j => .bl (decide (i < j))) := opB0 fun _ _ _ _ _ _ _ q => lt_int q
theorem op_le : OpR X (compareOp .LtE) (rI0 fun i j => .bl (decide (i ≤ j))) := opB0 fun _ _ _ _ _ _ _ q => le_int q
theorem op_gt : OpR X (compareOp .Gt) (rI0 fun i j => .bl (decide (j < i))) := opB0 fun _ _ _ _ _ _ _ q => gt_int q
theorem op_ge : OpR X (compareOp .GtE) (rI0 fun i j => .bl (decide (j ≤ i))) := opB0 fun _ _ _ _ _ _ _ q => ge_int q
theorem nomark (b : Expr) {op : CmpOp} (h : op ≠ .In := by decide) (h2 : op ≠ .NotIn := by decide) : behindInMarks op b = false := by
  have e1 : (op == CmpOp.In) = false := by cases op <;> first | rfl | exact absurd rfl h
  have e2 : (op == CmpOp.NotIn) = false := by cases op <;> first | rfl | exact absurd rfl h2
  cases b <;> simp [behindInMarks, e1, e2]
/-- a comparison as a value; hm: nomark b, or (for in, not in) by with_unfolding_all rfl -/
theorem pe_cmpR {op : CmpOp} {r : R2} (ho : OpR X (compareOp op) r) (ha : PE X a ta) (hb : PE X b tb) (hm : behindInMarks op b = false) : PE X (.Compare a [op] [b] pos) (tOp r ta tb) := by
  intro pins s σ H Q I h
  exact wpAny_Compare1 (binT ha hb I h fun v u s2 x y H2 I2 rx ry q => ho pins s2 σ H2 x y v u Q I2 rx ry q) hm
/-- a reading of a value as a test -/
def tTest (t : TE) : TT := fun σ H Q => t σ H fun x H' => ∃ k, x = .bl k ∧ Q k H'
theorem pt_cmpR {op : CmpOp} {r : R2} (ho : OpR X (compareOp op) r) (ha : PE X a ta) (hb : PE X b tb) (hm : behindInMarks op b = false) : PT X (.Compare a [op] [b] pos) (tTest (tOp r ta tb)) := by
  intro pins s σ H Q I h
  refine wpAny_isTrue_Compare1 (thn (ha pins s σ H _ I h) fun v s1 ⟨x, H1, I1, r1, q1⟩ => thn (hb pins s1 σ H1 _ I1 q1) fun u s2 ⟨y, H2, I2, r2, q2⟩ =>
    thn (ho pins s2 σ H2 x y v u _ I2 r1 r2 q2) fun c s3 ⟨z, H3, I3, r3, k, e, q3⟩ => ?_) hm
  subst e
  cases r3
  exact wpAny_truthy_bool ⟨H3, I3, q3⟩
/-- a op1 b op2 c -/
def tChain (r r' : R2) (ta tb tc : TE) : TE := fun σ H Q => ta σ H fun x H1 => tb σ H1 fun y H2 => r x y H2 fun z H3 => ∃ k, z = .bl k ∧
  (if k = true then tc σ H3 fun w' H4 => r' y w' H4 Q else Q (.bl false) H3)
theorem pe_chain {op op' : CmpOp} {r r' : R2} (ho : OpR X (compareOp op) r) (ho' : OpR X (compareOp op') r') (ha : PE X a ta) (hb : PE X b tb) (hc : PE X c tc)
    (hm : lastMarks [op, op'] [b, c] = false := by with_unfolding_all rfl) : PE X (.Compare a [op, op'] [b, c] pos) (tChain r r' ta tb tc) := by
  intro pins s σ H Q I h
  refine Compare_chain (thn (ha pins s σ H _ I h) fun v s1 ⟨x, H1, I1, r1, q1⟩ => chain_link (thn (hb pins s1 σ H1 _ I1 q1) fun u s2 ⟨y, H2, I2, r2, q2⟩ =>
    thn (ho pins s2 σ H2 x y v u _ I2 r1 r2 q2) fun d s3 ⟨z, H3, I3, r3, k, e, q3⟩ => ?_)) hm
  subst e
  cases r3
  refine wpAny_truthy_bool ?_
  cases k with
  | false => exact ite_ff ⟨.bl false, H3, I3, rfl, q3⟩
  | true => exact ite_tt (chain_last (thn (hc pins s3 σ H3 _ I3 q3) fun w' s4 ⟨z', H4, I4, r4, q4⟩ => ho' pins s4 σ H4 y z' u w' Q I4 r2 r4 q4))
/-- a value's truth by the abstract heap -/
def TruV (K : PySem.W.Frag) (x : V) (H : Hp) (k : Bool) : Prop :=
  match x with
  | .non => k = false
  | .bl b => k = b
  | .int i => k = (i != 0)
  | .str y => y.length ≤ sizeLine ∧ k = ((y.length : Int) != 0)
  | .byt y => y.size ≤ sizeLine ∧ k = ((y.size : Int) != 0)
  | .ref p => (∃ xs, SqL K H p xs ∧ k = !xs.isEmpty) ∨ (∃ xs, SqT K H p xs ∧ k = !xs.isEmpty) ∨ ∃ kvs, H p = some (.dK kvs) ∧ k = !kvs.isEmpty
  | _ => False
theorem isEmpty_kv {κ : Type} {kvs : List (κ × V)} {vs : List (κ × Value)} (r : KV kvs vs) : (!vs.isEmpty) = !kvs.isEmpty := by
  cases r <;> rfl
theorem isEmpty_of {xs : List V} {its : List Value} (r : Vals xs its) : (!its.toArray.isEmpty) = !xs.isEmpty := by
  cases r <;> simp
theorem line63 : (sizeLine : Nat) < 2 ^ 63 := by rw [sizeLine_eq]; decide
theorem tru_ok : TruR X (fun x H Q => ∃ k, TruV X.K x H k ∧ Q k H) := by
  intro pins s σ H x v Q I rx h
  obtain ⟨k, e, q⟩ := h
  have hl := line63
  have hs : sizeLine = 16777216 := sizeLine_eq
  cases x with
  | non =>
    cases rx
    have e' : k = false := e
    subst e'
    exact truthy_none ⟨H, I, q⟩
  | bl b =>
    cases rx
    have e' : k = b := e
    subst e'
    exact wpAny_truthy_bool ⟨H, I, q⟩
  | int i =>
    obtain ⟨t, rfl⟩ := rx
    have e' : k = (i != 0) := e
    subst e'
    exact PySem.P.truthy_int ⟨H, I, q⟩
  | str y =>
    obtain ⟨t, rfl⟩ := rx
    obtain ⟨hy, e'⟩ : y.length ≤ sizeLine ∧ k = ((y.length : Int) != 0) := e
    subst e'
    exact PySem.P.truthy_str (by omega) ⟨H, I.tok _, q⟩
  | byt y =>
    obtain ⟨t, rfl⟩ := rx
    obtain ⟨hy, e'⟩ : y.size ≤ sizeLine ∧ k = ((y.size : Int) != 0) := e
    subst e'
    exact PySem.W.truthy_bytes (by omega) ⟨H, I.tok _, q⟩
  | ref p =>
    cases rx
    have e' : (∃ xs, SqL X.K H p xs ∧ k = !xs.isEmpty) ∨ (∃ xs, SqT X.K H p xs ∧ k = !xs.isEmpty) ∨ ∃ kvs, H p = some (.dK kvs) ∧ k = !kvs.isEmpty := e
    rcases e' with ⟨xs, hx, e'⟩ | ⟨xs, hx, e'⟩ | ⟨kvs, hx, e'⟩
    · subst e'
      obtain ⟨its, r, pl, hz⟩ := I.list hx
      have hlen := r.length
      exact wpAny_truthy_list pl.isList (by simp only [List.size_toArray]; omega) ⟨H, I.tok _, by rw [isEmpty_of r]; exact q⟩
    · subst e'
      obtain ⟨its, r, pl, hz⟩ := I.tuple hx
      have hlen := r.length
      exact truthy_tuple pl (by simp only [List.size_toArray]; omega) ⟨H, I.tok _, by rw [isEmpty_of r]; exact q⟩
    · subst e'
      obtain ⟨hz, hS, vs, r, m⟩ : kvs.length ≤ sizeLine ∧ (p == sysModules) = false ∧ ∃ vs, KV kvs vs ∧ s.heap.DictOf (mixKind X.prog X.w) p vs := I.hok p _ hx
      have hlen : kvs.length = vs.length := Paired.length r
      exact wpAny_truthy_dict hS m (by omega) ⟨H, I.tok _, by rw [isEmpty_kv r]; exact q⟩
  | _ => exact (show False from e).elim
/-- any expression whose test is its value's truth (a name, a call, a subscript, a field ..: he by fun _ => rfl) -/
theorem pt_truth (ha : PE X a ta) (he : ∀ whole, isTrue a X.env whole = (do let v ← whole; standAt a.pos; holding [v] (truthy v))) :
    PT X a (fun σ H Q => ta σ H fun x H' => ∃ k, TruV X.K x H' k ∧ Q k H') := by
  intro pins s σ H Q I h
  exact isTrue_plain (thn (ha pins s σ H _ I h) fun v s1 ⟨x, H1, I1, r1, q1⟩ => tru_ok pins s1 σ H1 x v Q I1 r1 q1) (he _)

theorem vals1 {x : V} {us : List Value} (r : Vals [x] us) : ∃ u, us = [u] ∧ RelV x u := by
  cases r with
  | cons r1 r2 => cases r2; exact ⟨_, rfl, r1⟩
theorem vals2 {x y : V} {us : List Value} (r : Vals [x, y] us) : ∃ u w', us = [u, w'] ∧ RelV x u ∧ RelV y w' := by
  cases r with
  | cons r1 r2 =>
    cases r2 with
    | cons r3 r4 => cases r4; exact ⟨_, _, rfl, r1, r3⟩
theorem call_abs : CallR X (.builtin "abs") (fun xs H Q => ∃ i, xs = [.int i] ∧ Q (.int (if i < 0 then -i else i)) H) := by
  intro pins s σ H xs us Q I r h
  obtain ⟨i, rfl, q⟩ := h
  obtain ⟨u, rfl, t, rfl⟩ := vals1 r
  exact call_abs_int fun u tk => ⟨.int (if i < 0 then -i else i), H, I.tok _, ⟨_, rfl⟩, q⟩
theorem call_max2 (hc : X.calm = true) : CallR X (.builtin "max") (fun xs H Q => ∃ i j, xs = [.int i, .int j] ∧ Q (.int (if j > i then j else i)) H) := by
  intro pins s σ H xs us Q I r h
  obtain ⟨i, j, rfl, q⟩ := h
  obtain ⟨u, w', rfl, ⟨t, rfl⟩, ⟨t', rfl⟩⟩ := vals2 r
  refine max_two_ints (I.ok.hd hc) fun h' tk k => ⟨_, H, I.kept k, ?_, q⟩
  by_cases hj : j > i
  · rw [if_pos hj, if_pos hj]; exact ⟨_, rfl⟩
  · rw [if_neg hj, if_neg hj]; exact ⟨_, rfl⟩
theorem call_min2 (hc : X.calm = true) : CallR X (.builtin "min") (fun xs H Q => ∃ i j, xs = [.int i, .int j] ∧ Q (.int (if j < i then j else i)) H) := by
  intro pins s σ H xs us Q I r h
  obtain ⟨i, j, rfl, q⟩ := h
  obtain ⟨u, w', rfl, ⟨t, rfl⟩, ⟨t', rfl⟩⟩ := vals2 r
  refine min_two_ints (I.ok.hd hc) fun h' tk k => ⟨_, H, I.kept k, ?_, q⟩
  by_cases hj : j < i
  · rw [if_pos hj, if_pos hj]; exact ⟨_, rfl⟩
  · rw [if_neg hj, if_neg hj]; exact ⟨_, rfl⟩
end
end L2

namespace L2
open PySem PySem.Spec PyProof.Rows

structure ObjM (h : Heap) (x dx C : Addr) (mA : Str → Option Value) : Prop where
  obj : h.get? x = some (PySem.W.instObj C dx)
  ns : h.Ns1 dx mA
  ne : dx ≠ x

theorem lookIn_ns {h : Heap} {dx : Addr} {mA : Str → Option Value} (n : h.Ns1 dx mA) : ∃ od, h.get? dx = some od ∧ ∀ name, PySem.W.lookIn name od = some (mA name) := by
  obtain ⟨o, es, ep, ho, hd, hk, _, hm⟩ := n
  refine ⟨o, ho, fun name => ?_⟩
  have e := hm name
  unfold nsFind findBy at e
  rw [← Array.find?_toList] at e
  unfold PySem.W.lookIn
  rw [hd]
  dsimp only
  split
  · rename_i y q
    rw [q] at e
    exact congrArg some e
  · rename_i q
    rw [q] at e
    have a : es.toList.any (·.refKey) = false := by
      rw [List.any_eq_false]
      intro y hy
      obtain ⟨z, t, hkey⟩ := hk y (Array.mem_toList_iff.mp hy)
      simp [DictEntry.refKey, hkey]
    have a' : ¬ es.toList.any (·.refKey) = true := by rw [a]; exact Bool.false_ne_true
    rw [if_neg a']
    exact congrArg some e

theorem ObjM.look {h : Heap} {x dx C : Addr} {mA : Str → Option Value} (I : ObjM h x dx C mA) : ∃ od, PySem.W.InstAt h x (PySem.W.instObj C dx) C (some od) ∧ ∀ name, PySem.W.lookIn name od = some (mA name) :=
  let ⟨od, ho, hl⟩ := lookIn_ns I.ns
  ⟨od, ⟨I.obj, rfl, rfl, ho⟩, hl⟩

section
variable {prog : Program} {w : World} {A : Around} {E : Value → Shared → Prop} {s : Shared} {K : PySem.W.Frag} {x dx C f : Addr} {mA : Str → Option Value} {name : Str} {v : Value}

theorem get_map {expr : Bool} {Q : Value → Shared → Prop} (X : K.In s.heap) (I : ObjM s.heap x dx C mA) (hg : PySem.W.plainGet K C name = true) (hh : PySem.W.hasDictIn K C = true)
    (ha : PySem.W.findIn K (.ref C) name = some none) (hv : mA name = some v) (hv' : PySem.W.handedIn v = true) (h : Q v { s with toks := s.toks + 1 }) :
    wpAny (model prog w) A (getAttr (.ref x) name expr) Q E s := by
  obtain ⟨od, J, hl⟩ := I.look
  exact PySem.W.get_value X J (PySem.W.plainGet_of hg).1 (PySem.W.findObj_own hh ha rfl (by rw [hl, hv])) hv' h

theorem get_meth {pl : Sem Bool} {Q : Value × List Value → Shared → Prop} (X : K.In s.heap) (I : ObjM s.heap x dx C mA) (hg : PySem.W.plainGet K C name = true)
    (hf : PySem.W.findIn K (.ref C) name = some (some (.ref f))) (ht : PySem.W.isFn K (.ref f) = true) (hv : mA name = none) (h : Q (.ref f, [.ref x]) s) :
    wpAny (model prog w) A (getMethod (.ref x) name pl) Q E s := by
  obtain ⟨od, J, hl⟩ := I.look
  exact PySem.W.method_fn X J (PySem.W.plainGet_of hg).1 (PySem.W.plainGet_of hg).2 hf (beq_iff_eq.mp ht) (by show (PySem.W.lookIn name od).map (·.isSome) = some false; rw [hl, hv]; rfl) h

theorem set_map {ns : List Str} {Q : Unit → Shared → Prop} (X : K.In s.heap) (I : ObjM s.heap x dx C mA)
    (hs : PySem.W.findIn K (.ref C) "__setattr__" = some (some (.builtin "object.__setattr__"))) (hp : PySem.W.plainOver K C = true) (ht : PySem.W.takerIn K C name = some none) (hh : PySem.W.hasDictIn K C = true)
    (hw : PySem.Within mA ns) (hsz : ns.length ≤ sizeLine)
    (h : ∀ h', ObjM h' x dx C (fun y => if y = name then some v else mA y) → Heap.SameBut dx s.heap h' → Q () { s with heap := h', toks := s.toks + 2 }) :
    wpAny (model prog w) A (setAttr (.ref x) name v) Q E s := by
  obtain ⟨od, J, hl⟩ := I.look
  refine PySem.W.set_plain X J hs (PySem.W.osa_open (s := { s with toks := s.toks + 1 }) (r := none) X J hp ht fun b => ?_)
  obtain ⟨cd, hc, hd'⟩ := PySem.W.any_some hh
  have hx : s.heap.get? x = some ⟨.ref C, some dx, .plain, #[]⟩ := I.obj
  refine wpAny_bind (wpAny_pure (wpAny_bind (wpAny_bind (wpAny_loadPart hx (wpAny_bind (PySem.W.Looks.here (s := { s with toks := s.toks + 1 }) (PySem.W.looks_clsIn X hc) ?_))))))
  rw [hd']
  refine wpAny_pure (a := some dx) (wpAny_bind (wpAny_pure (wpAny_bind ?_)))
  refine wpAny_nsSet1 (s := { s with toks := s.toks + 1 }) I.ns fun h' hn2 hs2 => ?_
  obtain ⟨oD, esD, epD, hoD, hdD, hcD⟩ := hn2.count (PySem.Within.cons name v hw)
  refine wpAny_bind (wpAny_lookBehind hoD (by rw [hdD]; exact pastItsLine_dict (Nat.le_trans hcD (by rw [List.length_cons]; omega))) ?_)
  exact wpAny_pure (h _ ⟨(hs2.2 _ (Ne.symm I.ne)).trans I.obj, hn2, I.ne⟩ hs2)

/-- C(..): the dict at the heap's end, the instance behind it; then its __init__ -/
theorem make_map {R : Result → Shared → Prop} {vs : List Value} {kw : List (Str × Value)} (X : K.In s.heap) (hm : PySem.W.makesIn K C = true)
    (hi : PySem.W.findIn K (.ref C) "__init__" = some (some (.ref f))) (hf : PySem.W.typeIn K (.ref f) = some (.type "function"))
    (h : codeAny (model prog w) (A.under (.builtin "type.__call__" ⟨.ref C :: vs, kw⟩)) (.call (.ref f) ⟨.ref (s.heap.objs.size + 1) :: vs, kw⟩) (PySem.W.InitBack (s.heap.objs.size + 1) R)
      { s with heap := (s.heap.push PySem.W.emptyDict).push (PySem.W.instObj C s.heap.objs.size) }) :
    codeAny (model prog w) A (.call (.ref C) ⟨vs, kw⟩) R s := by
  obtain ⟨hh, g, d, t, os⟩ := s
  exact PySem.W.make_core (PySem.W.makes_of X hm) (PySem.W.looks_findIn X hi) (fun self => PySem.W.bind_fn X self hf) (.inl rfl) h
end

def putF (f : Str) (v : V) : List (Str × V) → List (Str × V)
  | [] => [(f, v)]
  | (g, x) :: r => if g = f then (g, v) :: r else (g, x) :: putF f v r
theorem lookup_putF (f g : Str) (v : V) : ∀ fs : List (Str × V), (putF f v fs).lookup g = if g = f then some v else fs.lookup g
  | [] => by
    show List.lookup g [(f, v)] = _
    by_cases h : g = f
    · have hb : (g == f) = true := beq_iff_eq.mpr h
      simp only [List.lookup, hb, if_pos h]
    · have hb : (g == f) = false := beq_eq_false_iff_ne.mpr h
      simp only [List.lookup, hb, if_neg h]
  | (k, x) :: r => by
    have ih := lookup_putF f g v r
    rw [show putF f v ((k, x) :: r) = (if k = f then (k, v) :: r else (k, x) :: putF f v r) from rfl]
    by_cases hk : k = f
    · rw [if_pos hk]
      by_cases h : g = k
      · have hb : (g == k) = true := beq_iff_eq.mpr h
        simp only [List.lookup, hb, if_pos (h.trans hk)]
      · have hb : (g == k) = false := beq_eq_false_iff_ne.mpr h
        simp only [List.lookup, hb, if_neg (fun e : g = f => h (e.trans hk.symm))]
    · rw [if_neg hk]
      by_cases h : g = k
      · have hb : (g == k) = true := beq_iff_eq.mpr h
        simp only [List.lookup, hb, if_neg (fun e : g = f => hk (h.symm.trans e))]
      · have hb : (g == k) = false := beq_eq_false_iff_ne.mpr h
        simp only [List.lookup, hb]
        exact ih
theorem keys_putF (f : Str) (v : V) : ∀ fs : List (Str × V), f ∈ (putF f v fs).map (·.1) ∧ ∀ g, g ∈ fs.map (·.1) → g ∈ (putF f v fs).map (·.1)
  | [] => ⟨by simp [putF], fun g h => by simp at h⟩
  | (k, x) :: r => by
    obtain ⟨i1, i2⟩ := keys_putF f v r
    rw [show putF f v ((k, x) :: r) = (if k = f then (k, v) :: r else (k, x) :: putF f v r) from rfl]
    by_cases hk : k = f
    · rw [if_pos hk]
      subst hk
      exact ⟨by simp, fun g h => by simpa using h⟩
    · rw [if_neg hk]
      refine ⟨?_, fun g h => ?_⟩
      · rw [List.map_cons]
        exact List.mem_cons_of_mem _ i1
      · rw [List.map_cons] at h ⊢
        rcases List.mem_cons.mp h with e | e
        · exact List.mem_cons.mpr (.inl e)
        · exact List.mem_cons_of_mem _ (i2 g e)
theorem length_putF (f : Str) (v : V) : ∀ fs : List (Str × V), (putF f v fs).length ≤ fs.length + 1
  | [] => by simp [putF]
  | (k, x) :: r => by
    have ih := length_putF f v r
    rw [show putF f v ((k, x) :: r) = (if k = f then (k, v) :: r else (k, x) :: putF f v r) from rfl]
    by_cases hk : k = f
    · rw [if_pos hk, List.length_cons, List.length_cons]; omega
    · rw [if_neg hk, List.length_cons, List.length_cons]; omega

theorem RelO.some_of {v : V} {o : Option Value} (r : RelO (some v) o) : ∃ u, o = some u ∧ RelV v u := by
  cases o with
  | none => exact (show False from r).elim
  | some u => exact ⟨u, rfl, r⟩
theorem RelO.none_of {o : Option Value} (r : RelO none o) : o = none := by
  cases o with
  | none => rfl
  | some u => exact (show False from r).elim
theorem handed_of {v : V} {u : Value} (r : RelV v u) : PySem.W.handedIn u = true := by
  cases v with
  | non => cases (show u = Value.none from r); rfl
  | bl b => cases (show u = Value.bool b from r); rfl
  | int i => obtain ⟨t, e⟩ := (show ∃ t, u = Value.int i t from r); cases e; rfl
  | str x => obtain ⟨t, e⟩ := (show ∃ t, u = Value.str x t from r); cases e; rfl
  | byt b => obtain ⟨t, e⟩ := (show ∃ t, u = Value.bytes b t from r); cases e; rfl
  | flt b => obtain ⟨t, e⟩ := (show ∃ t, u = Value.float b t from r); cases e; rfl
  | ref a => cases (show u = Value.ref a from r); rfl
  | ty n => cases (show u = Value.type n from r); rfl

section
variable {P : Program} {w : World} {H H' : Hp} {h h' : Heap} {a C dx : Addr} {fs fs' : List (Str × V)}
theorem ins_get (hok : HOk P w H h) (e : H a = some (.ins C dx fs)) : ∃ mA, ObjM h a dx C mA ∧ (∀ f, RelO (fs.lookup f) (mA f)) ∧ PySem.Within mA (fs.map (·.1)) ∧ fs.length ≤ 1000 ∧ H dx = some (.own a) := by
  obtain ⟨d, z, ne, ob, mA, n, r, q⟩ := (show ObjOk P w H h a (.ins C dx fs) from hok a _ e)
  exact ⟨mA, ⟨ob, n, ne⟩, r, q, z, d⟩
end

structure Cls (K : PySem.W.Frag) (C : Addr) : Prop where
  pg : PySem.W.plainGet K C Str.empty = true
  hd : PySem.W.hasDictIn K C = true
  po : PySem.W.plainOver K C = true
  sa : PySem.W.findIn K (.ref C) "__setattr__" = some (some (.builtin "object.__setattr__"))
theorem Cls.get {K : PySem.W.Frag} {C : Addr} (c : Cls K C) (f : Str) : PySem.W.plainGet K C f = true := c.pg
/-- no class of it has the name -/
def NoAttr (K : PySem.W.Frag) (C : Addr) (f : Str) : Prop := PySem.W.findIn K (.ref C) f = some none
theorem NoAttr.taker {K : PySem.W.Frag} {C : Addr} {f : Str} (n : NoAttr K C f) : PySem.W.takerIn K C f = some none := by
  unfold PySem.W.takerIn
  rw [show PySem.W.findIn K (.ref C) f = some none from n]
  rfl
/-- a method: a plain def of the class or of one above it -/
structure Meth (K : PySem.W.Frag) (C : Addr) (m : Str) (f : Addr) : Prop where
  at_ : PySem.W.findIn K (.ref C) m = some (some (.ref f))
  fn : PySem.W.isFn K (.ref f) = true
  kp : PySem.W.keepIn K (.ref f) = true

section
variable {X : Cx} {pins : List (Addr × Obj)} {σ : St} {H : Hp} {s : Shared} {a C dx : Addr} {fs : List (Str × V)} {f : Str} {v : V} {A : Around} {E : Value → Shared → Prop}

theorem getattr_ok {b : Bool} {Q : Value → Shared → Prop} (I : Inv X pins σ H s) (e : H a = some (.ins C dx fs)) (c : Cls X.K C) (n : NoAttr X.K C f) (l : fs.lookup f = some v)
    (h : ∀ u s', Inv X pins σ H s' → RelV v u → Q u s') : wpAny (model X.prog X.w) A (getAttr (.ref a) f b) Q E s := by
  obtain ⟨mA, O, r, _, _, _⟩ := ins_get I.hok e
  obtain ⟨u, hu, ru⟩ := RelO.some_of (v := v) (o := mA f) (by rw [← l]; exact r f)
  exact get_map I.kIn O (c.get f) c.hd n hu (handed_of ru) (h u _ (I.tok _) ru)

theorem getmeth_ok {m : Str} {g : Addr} {pl : Sem Bool} {Q : Value × List Value → Shared → Prop} (I : Inv X pins σ H s) (e : H a = some (.ins C dx fs)) (c : Cls X.K C) (k : Meth X.K C m g) (l : fs.lookup m = none)
    (h : Q (.ref g, [.ref a]) s) : wpAny (model X.prog X.w) A (getMethod (.ref a) m pl) Q E s := by
  obtain ⟨mA, O, r, _, _, _⟩ := ins_get I.hok e
  have hn : mA m = none := RelO.none_of (by rw [← l]; exact r m)
  exact get_meth I.kIn O (c.get m) k.at_ k.fn hn h

theorem setattr_ok {y : V} {u : Value} {Q : Unit → Shared → Prop} (I : Inv X pins σ H s) (e : H a = some (.ins C dx fs)) (c : Cls X.K C) (n : NoAttr X.K C f) (hl : fs.length < 1000) (ry : RelV y u)
    (h : ∀ s', Inv X pins σ (upd H a (.ins C dx (putF f y fs))) s' → Q () s') : wpAny (model X.prog X.w) A (setAttr (.ref a) f u) Q E s := by
  obtain ⟨mA, O, r, wi, _, ho⟩ := ins_get I.hok e
  have hz : (fs.map (·.1)).length ≤ sizeLine := by rw [List.length_map, sizeLine_eq]; omega
  refine set_map I.kIn O c.sa c.po n.taker c.hd wi hz fun h' O' sb => h _ ?_
  have hd : ∃ o, h'.get? dx = some o := let ⟨o, _, _, e', _⟩ := O'.ns; ⟨o, e'⟩
  refine I.write (x := a) (e := dx) (by rw [e]; exact True.intro) (.inr ho) (fun b q hb z => (sb.2 b hb).trans z) hd ?_
  refine ⟨by rw [upd_ne O.ne]; exact ho, ?_, O.ne, O'.obj, _, O'.ns, fun g => ?_, fun g hg => ?_⟩
  · have := length_putF f y fs; omega
  · show RelO ((putF f y fs).lookup g) (if g = f then some u else mA g)
    rw [lookup_putF]
    by_cases q : g = f
    · rw [if_pos q, if_pos q]; exact ry
    · rw [if_neg q, if_neg q]; exact r g
  · by_cases q : g = f
    · rw [q]; exact (keys_putF f y fs).1
    · refine (keys_putF f y fs).2 g (wi g fun z => hg ?_)
      show (if g = f then some u else mA g) = none
      rw [if_neg q]; exact z

/-- a new instance, tracked, without attributes -/
theorem Inv.made (I : Inv X pins σ H s) : Inv X pins σ (upd (upd H s.heap.objs.size (.own (s.heap.objs.size + 1))) (s.heap.objs.size + 1) (.ins C s.heap.objs.size []))
    { s with heap := (s.heap.push PySem.W.emptyDict).push (PySem.W.instObj C s.heap.objs.size) } := by
  have e1 : (s.heap.push PySem.W.emptyDict).get? s.heap.objs.size = some PySem.W.emptyDict := Heap.get?_push_size s.heap rfl
  have e2 : ((s.heap.push PySem.W.emptyDict).push (PySem.W.instObj C s.heap.objs.size)).get? (s.heap.objs.size + 1) = some (PySem.W.instObj C s.heap.objs.size) := by
    have := Heap.get?_push_size (s.heap.push PySem.W.emptyDict) (o := PySem.W.instObj C s.heap.objs.size) rfl
    rwa [Heap.size_push] at this
  have e3 : (s.heap.push PySem.W.emptyDict).Ns s.heap.objs.size (fun _ => none) := ⟨PySem.W.emptyDict, #[], _, e1, rfl, (fun e he => absurd he (by simp)), fun _ => rfl⟩
  have I1 := I.laid (a := s.heap.objs.size) (o := .own (s.heap.objs.size + 1)) (h' := s.heap.push PySem.W.emptyDict) (t' := s.toks) (fun b u q => Heap.get?_push_of_some _ q) (Nat.le_refl _) ⟨_, e1⟩
  refine I1.laid (a := s.heap.objs.size + 1) (o := .ins C s.heap.objs.size []) (t' := s.toks) (fun b u q => Heap.get?_push_of_some _ q) (Nat.le_of_eq (Heap.size_push _ _)) ?_
  have ne : s.heap.objs.size ≠ s.heap.objs.size + 1 := Nat.ne_of_lt (Nat.lt_succ_self _)
  refine ⟨by rw [upd_ne ne, upd_same], Nat.zero_le _, ne, e2, fun _ => none, (Heap.Ns1.of_empty e3).at fun o q => Heap.get?_push_of_some _ q, fun _ => True.intro, fun y hy => absurd rfl hy⟩

/-- e.f where nothing but the object is asked: through attributeBase (super) and the last hold -/
theorem attr_of {prog : Program} {w : World} {env : Env} {e : Expr} {f : Str} {pos : Pos} {s : Shared} {Q : Value → Shared → Prop} (hb : attributeBase e f env (eval e env) = eval e env)
    (h : wpAny (model prog w) A (eval e env) (fun o s₁ => wpAny (model prog w) A (getAttr o f true) Q E s₁) E s) : wpAny (model prog w) A (eval (.Attribute e f pos) env) Q E s :=
  Attribute_any_ h (by rw [arm_eval_Attribute, hb])
end

/-- e.f, an attribute of the instance -/
def tFld (K : PySem.W.Frag) (ta : TE) (f : Str) : TE := fun σ H Q => ta σ H fun x H1 => ∃ a C dx fs v, x = .ref a ∧ H1 a = some (.ins C dx fs) ∧ Cls K C ∧ NoAttr K C f ∧ fs.lookup f = some v ∧ Q v H1
/-- e.f = value -/
def sFld (K : PySem.W.Frag) (ta tv : TE) (f : Str) : TS := fun D σ H => tv σ H fun y H1 => ta σ H1 fun x H2 => ∃ a C dx fs, x = .ref a ∧ H2 a = some (.ins C dx fs) ∧ Cls K C ∧ NoAttr K C f ∧ fs.length < 1000 ∧
  D.nx σ (upd H2 a (.ins C dx (putF f y fs)))
section
variable {X : Cx} {o e value : Expr} {f : Str} {pos pos' tpos : Pos} {ta tv : TE}
theorem pe_fld (he : PE X e ta) (hb : attributeBase e f X.env (eval e X.env) = eval e X.env) : PE X (.Attribute e f pos) (tFld X.K ta f) := by
  intro pins s σ H Q I h
  refine attr_of hb (thn (he pins s σ H _ I h) fun u s1 ⟨x, H1, I1, rx, a, C, dx, fs, v, ex, ea, c, n, l, q⟩ => ?_)
  subst ex
  obtain rfl : u = Value.ref a := rx
  exact getattr_ok I1 ea c n l fun u' s2 I2 ru => ⟨v, H1, I2, ru, q⟩
theorem ps_fld (ha : PE X o ta) (hv : PE X value tv) (hs : swapsWith value (some (.Attribute o f pos')) pos.line X.env = pure false) : PS X (.Assign [.Attribute o f pos'] value pos) (sFld X.K ta tv f) := by
  intro pins s σ H D I h
  refine plainObj_wpAny_Assign_Attribute (thn (hv pins s σ H _ I h) fun u s1 ⟨y, H1, I1, ry, q⟩ => thn (ha pins s1 σ H1 _ I1 q) fun ov s2 ⟨x, H2, I2, rx, a, C, dx, fs, ex, ea, c, n, l, q2⟩ => ?_) hs
  subst ex
  obtain rfl : ov = Value.ref a := rx
  exact setattr_ok I2 ea c n l ry fun s3 I3 => ⟨σ, _, I3, q2⟩
end

section
variable {X : Cx} {pins : List (Addr × Obj)} {σ : St} {H : Hp} {s : Shared} {A : Around} {E : Value → Shared → Prop} {Q : Value → Shared → Prop} {c : Value} {b : Bool}
end
end L2

namespace L2
open PySem PySem.Spec PyProof.Rows

structure Room (k : Nat) (A : Around) : Prop where
  hd : A.handled = none
  dp : A.depth + 3 * k + 5 < recursionLimit
  un : A.units + 16 * k + 200 < cLine
theorem Room.mono {j k : Nat} {A : Around} (r : Room k A) (h : j ≤ k) : Room j A := ⟨r.hd, by have := r.dp; omega, by have := r.un; omega⟩
theorem Room.deeper {k : Nat} {A : Around} (r : Room (k + 1) A) (env : Env) : Room k (A.deeper env) :=
  ⟨r.hd, by have := r.dp; show A.depth + 1 + 3 * k + 5 < _; omega, by have := r.un; show A.units + 3 + 16 * k + 200 < _; omega⟩
theorem make_depth {A : Around} {C : Addr} {us : List Value} {kw : List (Str × Value)} : (A.under (.builtin "type.__call__" ⟨.ref C :: us, kw⟩)).depth = A.depth + 1 := by
  first | rfl | simp [Around.under, Code.weight, Code.isCreation, Code.isGuard, Code.isCaller, Code.frames, Code.isFrame, guardIds]
theorem make_units {A : Around} {C : Addr} {us : List Value} {kw : List (Str × Value)} : (A.under (.builtin "type.__call__" ⟨.ref C :: us, kw⟩)).units = A.units + 1 := by
  first | rfl | simp [Around.under, Code.cUnits, Code.frames, Code.isFrame]
theorem Room.make {k : Nat} {A : Around} (r : Room (k + 1) A) (C : Addr) (us : List Value) (kw : List (Str × Value)) : Room k (A.under (.builtin "type.__call__" ⟨.ref C :: us, kw⟩)) :=
  ⟨r.hd, by have := r.dp; rw [make_depth]; omega, by have := r.un; rw [make_units]; omega⟩
theorem Room.depth {k : Nat} {A : Around} (r : Room k A) : A.depth < recursionLimit := by have := r.dp; omega
def tNil : TA := fun _ H Q => Q [] H
def tCons (ta : TE) (tr : TA) : TA := fun σ H Q => ta σ H fun x H1 => tr σ H1 fun xs H2 => Q (x :: xs) H2
section
variable {X : Cx} {e : Expr} {es : List Expr} {te : TE} {t : TA} {pos : Pos}
theorem pa_nil : PA X [] tNil := fun _ _ _ _ H Q I h => Calls.spliced_nil ⟨[], H, I, .nil, h⟩
theorem pa_cons (ha : PE X e te) (hr : PA X es t) (hs : starEach (e :: es) X.env = (false, eval e X.env) :: starEach es X.env := by rfl) : PA X (e :: es) (tCons te t) := by
  intro pos pins s σ H Q I h
  rw [hs]
  show wpAny _ _ (spliced ((false, eval e X.env) :: backTo pos (starEach es X.env))) _ _ s
  refine Calls.spliced_cons (thn (ha pins s σ H _ I h) fun u s1 ⟨x, H1, I1, r1, q1⟩ => ?_)
  exact thn (hr pos pins s1 σ H1 _ I1 q1) fun us s2 ⟨xs, H2, I2, r2, q2⟩ => ⟨x :: xs, H2, I2, .cons r1 r2, q2⟩

/-- a tuple, a list of written items -/
def tTup (t : TA) : TE := fun σ H Q => t σ H fun xs H1 => xs.length ≤ sizeLine ∧ ∀ p, H1 p = none → Q (.ref p) (upd H1 p (.tup xs))
def tLst (t : TA) : TE := fun σ H Q => t σ H fun xs H1 => xs.length ≤ sizeLine ∧ ∀ p, H1 p = none → Q (.ref p) (upd H1 p (.lst xs))
theorem pe_tup {x1} (h : PA X es t) : PE X (.Tuple es x1 pos) (tTup t) := by
  intro pins s σ H Q I hq
  refine wpAny_Tuple_spliced (thn (h pos pins s σ H _ I hq) fun us s1 ⟨xs, H1, I1, r, z, q⟩ => ⟨by rw [← r.length]; exact z, ?_⟩)
  have hf : H1 s1.heap.objs.size = none := I1.hok.fresh (Nat.le_refl _)
  refine ⟨.ref s1.heap.objs.size, upd H1 s1.heap.objs.size (.tup xs), I1.laid (t' := s1.toks) (fun b u e => Heap.get?_push_of_some _ e) (Nat.le_refl _) ?_, rfl, q _ hf⟩
  exact ⟨z, us, r, ⟨_, Heap.get?_push_size _ rfl, rfl, _, rfl⟩⟩
theorem pe_lst (h : PA X es t) : PE X (.List es pos) (tLst t) := by
  intro pins s σ H Q I hq
  refine wpAny_List_spliced (thn (h pos pins s σ H _ I hq) fun us s1 ⟨xs, H1, I1, r, z, q⟩ => ⟨by rw [← r.length]; exact z, ?_⟩)
  have hf : H1 s1.heap.objs.size = none := I1.hok.fresh (Nat.le_refl _)
  refine ⟨.ref s1.heap.objs.size, upd H1 s1.heap.objs.size (.lst xs), I1.laid (t' := s1.toks) (fun b u e => Heap.get?_push_of_some _ e) (Nat.le_refl _) ?_, rfl, q _ hf⟩
  exact ⟨z, us, 0, r, Heap.get?_push_size _ rfl⟩
end

/-- a def's promise: the bound arguments in the parameters' order, the heap, the wanted end, the wanted exception -/
abbrev Sp := List V → Hp → VK → XK → Prop
/-- how an exception lies behind a call (file 08 gives it): the callers' frames, abstract heap and state ahead of the call, the wish, the exception, the state -/
abbrev CXT := List Env → Hp → Shared → XK → Value → Shared → Prop

/-- the state at a call -/
structure Env0 (P : Program) (w : World) (K : PySem.W.Frag) (mg : Str → Option Value) (base : Heap) (A : Around) (outer : List Env) (s : Shared) (H : Hp) : Prop where
  frames : A.frames = some outer
  mod : Mod K mg base
  bs : ∀ b o, base.get? b = some o → s.heap.get? b = some o ∧ H b = none
  bsz : base.objs.size ≤ s.heap.objs.size
  funs : s.heap.FunFrames base outer
  frf : ∀ b ∈ frs outer, H b = none
  hok : HOk P w H s.heap
  bare : AllBare s.gens
/-- a call's end -/
def CE (outer : List Env) (P : Program) (w : World) (H : Hp) (s : Shared) (Q : VK) (u : Value) (s' : Shared) : Prop :=
  ∃ v H', s'.os = s.os ∧ AllBare s'.gens ∧ Un (frs outer) [] H H' s.heap s'.heap ∧ HOk P w H' s'.heap ∧ RelV v u ∧ Q v H'
def CR (CX : CXT) (outer : List Env) (P : Program) (w : World) (H : Hp) (s : Shared) (Q : VK) (E : XK) (r : Result) (s' : Shared) : Prop :=
  match r with
  | .ok (.ret u) => CE outer P w H s Q u s'
  | .ok _ => False
  | .error e => CX outer H s E e s'
structure FnOk (P : Program) (w : World) (K : PySem.W.Frag) (mg : Str → Option Value) (base : Heap) (CX : CXT) (k : Nat) (f : Addr) (fd : FuncData) (ps : List Str) (sp : Sp) : Prop where
  len : ∀ vs H Q E, sp vs H Q E → vs.length = ps.length
  run : ∀ (A : Around) (outer : List Env) (s : Shared) (H : Hp) (args : Args) (us : List Value) (vs : List V) (Q : VK) (E : XK), Room k A → Env0 P w K mg base A outer s H → BindsTo s fd args (ps.zip us) → Vals vs us → sp vs H Q E →
    codeAny (model P w) A (.call (.ref f) args) (CR CX outer P w H s Q E) s
theorem Env0.make {P : Program} {w : World} {K : PySem.W.Frag} {mg : Str → Option Value} {base : Heap} {A : Around} {outer : List Env} {s : Shared} {H : Hp} (e : Env0 P w K mg base A outer s H) (C : Addr) (us : List Value) (kw : List (Str × Value)) :
    Env0 P w K mg base (A.under (.builtin "type.__call__" ⟨.ref C :: us, kw⟩)) outer s H := ⟨by first | exact e.frames | (simpa [Around.under, Code.envs, Code.isFrame, pushEnvs] using e.frames), e.mod, e.bs, e.bsz, e.funs, e.frf, e.hok, e.bare⟩
section
variable {X : Cx} {pins : List (Addr × Obj)} {σ : St} {H : Hp} {s s' : Shared}
/-- from a body: what a callee wants -/
theorem Inv.env0 (I : Inv X pins σ H s) : Env0 X.prog X.w X.K X.mg X.base X.A X.stack s H :=
  ⟨I.ok.frames, I.ok.mod, I.bs, Nat.le_trans I.ok.bsz I.sz, I.stack, I.stkFree, I.hok, I.bare⟩
/-- behind a call -/
theorem Inv.after {Q : VK} {u : Value} (I : Inv X pins σ H s) (h : CE X.stack X.prog X.w H s Q u s') : EP X pins σ Q u s' := by
  obtain ⟨v, H', os, bare, un, hok, r, q⟩ := h
  obtain ⟨hh, g, d, t, os'⟩ := s'
  obtain rfl : os' = s.os := os
  exact ⟨v, H', I.call (h' := hh) (g' := g) (d' := d) (t' := t) (ch := []) un hok bare (fun b z => absurd z (by simp)), r, q⟩
end

/-- f(..): the written arguments, then the defaults dvs; E: what is wanted of an exception -/
def tCall (sp : Sp) (dvs : List V) (E : XK) (t : TA) : TE := fun σ H Q => t σ H fun vs H1 => sp (vs ++ dvs) H1 Q E
/-- o.m(..) of an instance of the class at C -/
def tMeth (C : Addr) (m : Str) (sp : Sp) (dvs : List V) (E : XK) (ta : TE) (t : TA) : TE := fun σ H Q => ta σ H fun x H1 => ∃ a dx fs, x = .ref a ∧ H1 a = some (.ins C dx fs) ∧ fs.lookup m = none ∧
  t σ H1 fun vs H2 => sp (x :: (vs ++ dvs)) H2 Q E
/-- C(..): a new instance and its dict, then __init__ -/
def tMake (C : Addr) (sp : Sp) (dvs : List V) (E : XK) (t : TA) : TE := fun σ H Q => t σ H fun vs H1 => ∀ x dx, H1 x = none → H1 dx = none → dx ≠ x →
  sp (.ref x :: (vs ++ dvs)) (upd (upd H1 dx (.own x)) x (.ins C dx [])) (fun v H2 => v = .non ∧ Q (.ref x) H2) E

/-- how the parameters are bound: us the positional arguments, kw the keywords' values by name, ds the defaults that fill up -/
def Binds (K : PySem.W.Frag) (fd : FuncData) (ps : List Str) (ds : List Value) : Prop :=
  ∀ (s : Shared) (us : List Value), K.In s.heap → (us ++ ds).length = ps.length → BindsTo s fd ⟨us, []⟩ (ps.zip (us ++ ds))
/-- every parameter is given -/
theorem Binds.all {K : PySem.W.Frag} {fd : FuncData} {ps : List Str} (h : ∀ us : List Value, us.length = ps.length → bindArgs fd ⟨us, []⟩ = pure (ps.zip us)) : Binds K fd ps [] := fun s us _ hl => by
  rw [List.append_nil] at hl ⊢
  exact .of_eq (h us hl)

/-- an exception of a callee reaches what this body wants of exceptions -/
def Passes (CX : CXT) (X : Cx) (E : XK) : Prop := ∀ (pins : List (Addr × Obj)) (σ : St) (H : Hp) (s : Shared) (e : Value) (s' : Shared), Inv X pins σ H s → CX X.stack H s E e s' → X.xe e s'

section
variable {X : Cx} {CX : CXT} {k : Nat} {f C : Addr} {fd : FuncData} {ps : List Str} {sp : Sp} {dvs : List V} {ds : List Value} {E : XK} {x m : Str} {p pos apos : Pos} {e o : Expr} {es : List Expr} {ta : TE} {t : TA}

/-- the callee runs -/
theorem run_fn {pins : List (Addr × Obj)} {σ : St} {H : Hp} {s : Shared} {Q : VK} {us : List Value} {vs : List V} (F : FnOk X.prog X.w X.K X.mg X.base CX k f fd ps sp) (hr : Room k X.A) (hb : Binds X.K fd ps ds) (hd : Vals dvs ds) (hx : Passes CX X E)
    (I : Inv X pins σ H s) (r : Vals vs us) (h : sp (vs ++ dvs) H Q E) : wpAny (model X.prog X.w) X.A (call (.ref f) us) (EP X pins σ Q) X.xe s := by
  have r2 : Vals (vs ++ dvs) (us ++ ds) := r.append hd
  have hl : (us ++ ds).length = ps.length := by rw [← r2.length]; exact F.len _ _ _ _ h
  refine wpAny_call (codeAny_mono (F.run X.A X.stack s H ⟨us, []⟩ (us ++ ds) (vs ++ dvs) Q E hr I.env0 (hb s us I.kIn hl) r2 h) fun r s' hq => ?_)
  cases r with
  | error e => exact hx pins σ H s e s' I hq
  | ok fl =>
    cases fl with
    | ret u => exact I.after hq
    | next => exact False.elim hq
    | brk => exact False.elim hq
    | cont => exact False.elim hq

theorem pe_call (F : FnOk X.prog X.w X.K X.mg X.base CX k f fd ps sp) (hr : Room k X.A) (hg : Gl X x) (hm : X.mg x = some (.ref f)) (hk : PySem.W.keepIn X.K (.ref f) = true) (hb : Binds X.K fd ps ds) (hd : Vals dvs ds) (hx : Passes CX X E)
    (ha : PA X (e :: es) t) (hdb : (x == ("__debug__" : Str)) = false := by decide) (he : starEach (e :: es) X.env = (false, eval e X.env) :: starEach es X.env := by rfl) (hpl : (backTo pos (starEach es X.env)).any (·.1) = false := by rfl) :
    PE X (.Call (.Name x p) (e :: es) [] pos) (tCall sp dvs E t) := by
  intro pins s σ H Q I h
  refine wpAny_Call_Name_kw (ld_glob I hg hm ?_ hdb)
  refine PySem.W.callWith_K (h₀ := X.base) I.ok.mod.kin hk (thn (ha pos pins s σ H _ I h) fun us s1 ⟨vs, H1, I1, r, q⟩ => ⟨I1.kIn, ?_⟩) he hpl
  exact run_fn F hr hb hd hx I1 r q
/-- o.m(e, ..) -/
theorem pe_meth {pl : Sem Bool} (he : PE X o ta) (c : Cls X.K C) (hm : Meth X.K C m f) (F : FnOk X.prog X.w X.K X.mg X.base CX k f fd ps sp) (hr : Room k X.A) (hb : Binds X.K fd ps ds) (hd : Vals dvs ds) (hx : Passes CX X E) (ha : PA X (e :: es) t)
    (hst : starEach (e :: es) X.env = (false, eval e X.env) :: starEach es X.env := by rfl) (hpl : (backTo pos (starEach es X.env)).any (·.1) = false := by rfl)
    (ht : eval (.Call (.Attribute o m apos) (e :: es) [] pos) X.env = (do
      let ov ← eval o X.env
      standAt apos.atName
      let (f, first) ← holding [ov] (getMethod ov m pl)
      callWith pos f first (backTo pos (starEach (e :: es) X.env)) (backToKw pos (keywordEach [] X.env))) := by rfl) :
    PE X (.Call (.Attribute o m apos) (e :: es) [] pos) (tMeth C m sp dvs E ta t) := by
  intro pins s σ H Q I h
  refine PySem.W.methodCall_KW (pl := pl) (thn (he pins s σ H _ I h) fun u s1 ⟨x, H1, I1, rx, a, dx, fs, ex, ea, l, q⟩ => ?_) ht
  subst ex
  obtain rfl : u = Value.ref a := rx
  refine getmeth_ok I1 ea c hm l ?_
  refine PySem.W.callWith_K (first := [.ref a]) (h₀ := X.base) I.ok.mod.kin hm.kp (thn (ha pos pins s1 σ H1 _ I1 q) fun us s2 ⟨vs, H2, I2, r, q2⟩ => ⟨I2.kIn, ?_⟩) hst hpl
  exact run_fn (us := .ref a :: us) (vs := .ref a :: vs) F hr hb hd hx I2 (.cons rfl r) q2
/-- o.m() -/
theorem pe_meth0 {pl : Sem Bool} (he : PE X o ta) (c : Cls X.K C) (hm : Meth X.K C m f) (F : FnOk X.prog X.w X.K X.mg X.base CX k f fd ps sp) (hr : Room k X.A) (hb : Binds X.K fd ps ds) (hd : Vals dvs ds) (hx : Passes CX X E)
    (ht : eval (.Call (.Attribute o m apos) [] [] pos) X.env = (do
      let ov ← eval o X.env
      standAt apos.atName
      let (f, first) ← holding [ov] (getMethod ov m pl)
      callWith pos f first (backTo pos (starEach [] X.env)) (backToKw pos (keywordEach [] X.env))) := by rfl) :
    PE X (.Call (.Attribute o m apos) [] [] pos) (tMeth C m sp dvs E ta tNil) := by
  intro pins s σ H Q I h
  refine PySem.W.methodCall_KW (pl := pl) (thn (he pins s σ H _ I h) fun u s1 ⟨x, H1, I1, rx, a, dx, fs, ex, ea, l, q⟩ => ?_) ht
  subst ex
  obtain rfl : u = Value.ref a := rx
  refine getmeth_ok I1 ea c hm l ?_
  exact PySem.W.callWith_K0 (first := [.ref a]) I1.kIn hm.kp (run_fn (us := [.ref a]) (vs := [.ref a]) F hr hb hd hx I1 (.cons rfl .nil) q)

/-- what a class must have to be made -/
structure Mk (K : PySem.W.Frag) (C f : Addr) : Prop where
  makes : PySem.W.makesIn K C = true
  init : PySem.W.findIn K (.ref C) "__init__" = some (some (.ref f))
  fn : PySem.W.isFn K (.ref f) = true
  kp : PySem.W.keepIn K (.ref C) = true

theorem run_make {pins : List (Addr × Obj)} {σ : St} {H : Hp} {s : Shared} {Q : VK} {us : List Value} {vs : List V} (M : Mk X.K C f) (F : FnOk X.prog X.w X.K X.mg X.base CX k f fd ps sp) (hr : Room (k + 1) X.A) (hb : Binds X.K fd ps ds) (hd : Vals dvs ds)
    (hx : Passes CX X E) (I : Inv X pins σ H s) (r : Vals vs us)
    (h : ∀ x dx, H x = none → H dx = none → dx ≠ x → sp (.ref x :: (vs ++ dvs)) (upd (upd H dx (.own x)) x (.ins C dx [])) (fun v H2 => v = .non ∧ Q (.ref x) H2) E) :
    wpAny (model X.prog X.w) X.A (call (.ref C) us) (EP X pins σ Q) X.xe s := by
  have hq := h (s.heap.objs.size + 1) s.heap.objs.size (I.hok.fresh (Nat.le_succ _)) (I.hok.fresh (Nat.le_refl _)) (Nat.ne_of_lt (Nat.lt_succ_self _))
  have I2 := Inv.made (C := C) I
  have r2 : Vals (V.ref (s.heap.objs.size + 1) :: (vs ++ dvs)) (Value.ref (s.heap.objs.size + 1) :: (us ++ ds)) := .cons rfl (r.append hd)
  have hl : (Value.ref (s.heap.objs.size + 1) :: us ++ ds).length = ps.length := by
    have e := r2.length
    rw [F.len _ _ _ _ hq] at e
    exact e.symm
  refine wpAny_call (make_map (f := f) I.kIn M.makes M.init (beq_iff_eq.mp M.fn) (codeAny_mono (F.run _ X.stack _ _ ⟨Value.ref (s.heap.objs.size + 1) :: us, []⟩ (Value.ref (s.heap.objs.size + 1) :: (us ++ ds)) _ _ E (hr.make C us [])
    (I2.env0.make C us []) (hb _ (Value.ref (s.heap.objs.size + 1) :: us) I2.kIn hl) r2 hq) fun r s' hq' => ?_))
  cases r with
  | error e => exact hx pins σ _ _ e s' I2 hq'
  | ok fl =>
    cases fl with
    | ret u =>
      obtain ⟨v, H', I3, rv, ev, q3⟩ := I2.after hq'
      subst ev
      exact ⟨rv, ⟨V.ref (s.heap.objs.size + 1), H', I3, rfl, q3⟩⟩
    | next => exact False.elim hq'
    | brk => exact False.elim hq'
    | cont => exact False.elim hq'
theorem pe_make (M : Mk X.K C f) (F : FnOk X.prog X.w X.K X.mg X.base CX k f fd ps sp) (hr : Room (k + 1) X.A) (hg : Gl X x) (hm : X.mg x = some (.ref C)) (hb : Binds X.K fd ps ds) (hd : Vals dvs ds) (hx : Passes CX X E)
    (ha : PA X (e :: es) t) (hdb : (x == ("__debug__" : Str)) = false := by decide) (he : starEach (e :: es) X.env = (false, eval e X.env) :: starEach es X.env := by rfl) (hpl : (backTo pos (starEach es X.env)).any (·.1) = false := by rfl) :
    PE X (.Call (.Name x p) (e :: es) [] pos) (tMake C sp dvs E t) := by
  intro pins s σ H Q I h
  refine wpAny_Call_Name_kw (ld_glob I hg hm ?_ hdb)
  refine PySem.W.callWith_K (h₀ := X.base) I.ok.mod.kin M.kp (thn (ha pos pins s σ H _ I h) fun us s1 ⟨vs, H1, I1, r, q⟩ => ⟨I1.kIn, ?_⟩) he hpl
  exact run_make M F hr hb hd hx I1 r q
end

section
variable {X : Cx} {CX : CXT} {k : Nat} {f C : Addr} {fd : FuncData} {ps ks : List Str} {sp : Sp} {E : XK} {x m : Str} {p pos apos kpos : Pos} {e o : Expr} {es : List Expr} {kws : List Keyword} {te ta : TE} {t tk : TA} {nm : Option Str}
variable {g : List Value → List Value → List Value} {gV : List V → List V → List V}
end

/-- names: the parameters first -/
structure FnScope (N P : List Str) (sc : Scope) : Prop where
  kind : sc.kind = .function
  co : sc.isCoroutine = false
  gen : sc.isGenerator = false
  nd : N.Nodup
  pre : N.take P.length = P
  par : ∀ x ∈ P, sc.names.lookup x = some .local ∨ sc.names.lookup x = some .cell
  nofree : ∀ y ∈ sc.names, y.2 ≠ .free

theorem bindL_out {kindOf : Str → Option NameKind} {x : Str} : ∀ {binds : List (Str × Value)} {m : Str → Option Value}, (∀ v, (x, v) ∉ binds) → bindL kindOf binds m x = m x
  | [], _, _ => rfl
  | (n, v) :: r, m, h => by
    unfold bindL
    rw [bindL_out fun w hw => h w (List.mem_cons_of_mem _ hw)]
    split
    · have : x ≠ n := by rintro rfl; exact h v List.mem_cons_self
      simp [this]
    · rfl
theorem bindC_out {kindOf : Str → Option NameKind} {x : Str} : ∀ {binds : List (Str × Value)} {m : Str → Option Value}, (∀ v, (x, v) ∉ binds) → bindC kindOf binds m x = m x
  | [], _, _ => rfl
  | (n, v) :: r, m, h => by
    unfold bindC
    rw [bindC_out fun w hw => h w (List.mem_cons_of_mem _ hw)]
    split
    · rfl
    · have : x ≠ n := by rintro rfl; exact h v List.mem_cons_self
      simp [this]
theorem bindL_get {kindOf : Str → Option NameKind} {x : Str} {v : Value} : ∀ {P : List Str} {vs : List Value} {i : Nat} {m : Str → Option Value}, P.Nodup → P[i]? = some x → vs[i]? = some v → kindOf x = some .local →
    bindL kindOf (P.zip vs) m x = some v
  | [], _, _, _, _, h, _, _ => by simp at h
  | _ :: _, [], _, _, _, _, h, _ => by simp at h
  | p :: P, w :: vs, 0, m, nd, h1, h2, hk => by
    simp at h1 h2; subst h1; subst h2
    show bindL kindOf ((p, w) :: P.zip vs) m p = _
    unfold bindL
    rw [bindL_out fun v hv => (List.nodup_cons.mp nd).1 (List.of_mem_zip hv).1, if_pos hk]
    simp
  | p :: P, w :: vs, i + 1, m, nd, h1, h2, hk => by
    show bindL kindOf ((p, w) :: P.zip vs) m x = _
    unfold bindL
    exact bindL_get (i := i) (List.nodup_cons.mp nd).2 (by simpa using h1) (by simpa using h2) hk
theorem bindC_get {kindOf : Str → Option NameKind} {x : Str} {v : Value} : ∀ {P : List Str} {vs : List Value} {i : Nat} {m : Str → Option Value}, P.Nodup → P[i]? = some x → vs[i]? = some v → kindOf x ≠ some .local →
    bindC kindOf (P.zip vs) m x = some v
  | [], _, _, _, _, h, _, _ => by simp at h
  | _ :: _, [], _, _, _, _, h, _ => by simp at h
  | p :: P, w :: vs, 0, m, nd, h1, h2, hk => by
    simp at h1 h2; subst h1; subst h2
    show bindC kindOf ((p, w) :: P.zip vs) m p = _
    unfold bindC
    rw [bindC_out fun v hv => (List.nodup_cons.mp nd).1 (List.of_mem_zip hv).1, if_neg hk]
    simp
  | p :: P, w :: vs, i + 1, m, nd, h1, h2, hk => by
    show bindC kindOf ((p, w) :: P.zip vs) m x = _
    unfold bindC
    exact bindC_get (i := i) (List.nodup_cons.mp nd).2 (by simpa using h1) (by simpa using h2) hk

/-- the names' values at the entry -/
def start (N : List Str) (vs : List V) : St := vs.map some ++ List.replicate (N.length - vs.length) none

/-- the context of a def's body, at its entry; an exception leaves the frame, then lies as CX says -/
def cxOf (CX : CXT) (P : Program) (w : World) (K : PySem.W.Frag) (mg : Str → Option Value) (base : Heap) (N : List Str) (qual : Str) (scope : Scope) (f : Addr) (cd : Value) (A : Around) (outer : List Env) (s : Shared) (H : Hp) (E : XK) : Cx where
  prog := P
  w := w
  K := K
  mg := mg
  base := base
  A := A.deeper (envOfC qual scope s.heap.objs.size f cd)
  N := N
  s_0 := s
  H_0 := H
  env := envOfC qual scope s.heap.objs.size f cd
  outer := outer
  stack := envOfC qual scope s.heap.objs.size f cd :: outer
  ex := []
  calm := true
  fn := fun _ => true
  pn := []
  xe := fun e s' => wpAny (model P w) (A.deeper (envOfC qual scope s.heap.objs.size f cd)) (leaving (envOfC qual scope s.heap.objs.size f cd) e) (fun _ s'' => CX outer H s E e s'') (fun e' s'' => CX outer H s E e' s'') s'

theorem cell_has {sc : Scope} {n : Nat} {x : Str} (h : sc.names.lookup x = some .cell) : ∃ c, (cellsFrom n sc.names []).lookup x = some c := by
  have q := PySem.W.cellsFrom_some sc.names n [] (.inl h)
  exact Option.isSome_iff_exists.mp q

theorem inv_start {CX : CXT} {P : Program} {w : World} {K : PySem.W.Frag} {mg : Str → Option Value} {base : Heap} {N ps : List Str} {qual : Str} {scope : Scope} {f : Addr} {cd : Value} {A : Around} {outer : List Env} {s s1 : Shared} {H : Hp} {E : XK} {us : List Value} {vs : List V}
    (S : FnScope N ps scope) (hd : A.handled = none) (e0 : Env0 P w K mg base A outer s H) (hl : vs.length = ps.length) (r : Vals vs us)
    (x : InCallC s s.heap.objs.size (bindL (envOfC qual scope s.heap.objs.size f cd).kindOf (ps.zip us) fun _ => none) (cellsFrom (s.heap.objs.size + 1) scope.names []) (bindC (envOfC qual scope s.heap.objs.size f cd).kindOf (ps.zip us) fun _ => none) s1) :
    Inv (cxOf CX P w K mg base N qual scope f cd A outer s H E) [] (start N vs) H s1 := by
  have hpl : ps.length ≤ N.length := by have := congrArg List.length S.pre; rw [List.length_take] at this; omega
  obtain ⟨h1, tk, rfl, hk⟩ := x.done
  have noA : ∀ b : Addr, b ∉ (cxOf CX P w K mg base N qual scope f cd A outer s H E).ex := fun b z => absurd (show b ∈ ([] : List Addr) from z) (by simp)
  refine ⟨⟨e0.mod, S.kind, rfl, rfl, Nat.le_refl _, fun y z c h1 h2 => ?_, fun y hy => ?_, fun y c _ h => ?_, fun _ => hd, Around.frames_deeper e0.frames, .inr ⟨rfl, rfl⟩, fun b z => absurd z (noA b), e0.bs, e0.bsz, fun b _ _ => noA b, fun b z => absurd z (noA b), e0.funs, e0.frf⟩,
    rfl, e0.bare, Un.kept hk, ⟨_, x.toInCall.ns, fun i y v h1 h2 h3 => ?_⟩, fun y c h => ⟨_, x.cell y c h⟩, e0.hok.fresh (Nat.le_refl _), fun y c h => ?_, fun p hp => absurd (show p ∈ ([] : List (Addr × Obj)) from hp) (by simp), e0.hok.kept hk, ?_⟩
  · exact name_of_addr x.apart (PySem.mem_of_lookup h1) (PySem.mem_of_lookup h2)
  · have hy : scope.names.lookup y = some .cell ∨ scope.names.lookup y = some .free := hy
    rcases hy with hy | hy
    · exact cell_has hy
    · exact absurd rfl (S.nofree _ (PySem.mem_of_lookup hy))
  · exact Nat.le_of_lt (x.above y c (PySem.mem_of_lookup h))
  · have hi : i < vs.length := by
      unfold start at h2
      by_cases hi : i < vs.length
      · exact hi
      · rw [List.getElem?_append_right (by simpa using hi)] at h2
        rw [List.getElem?_replicate] at h2
        split at h2 <;> cases h2
    have ha : vs[i]? = some v := by
      unfold start at h2
      rw [List.getElem?_append_left (by simpa using hi), List.getElem?_map] at h2
      cases e : vs[i]? with
      | none => rw [e] at h2; cases h2
      | some a => rw [e] at h2; cases h2; rfl
    obtain ⟨u, hu, rv⟩ := r.get ha
    have hp : ps[i]? = some y := by
      rw [← S.pre, List.getElem?_take_of_lt (by omega)]; exact h1
    have ndP : ps.Nodup := by rw [← S.pre]; exact S.nd.sublist (List.take_sublist _ _)
    refine ⟨u, rv, ?_⟩
    rcases S.par y (List.mem_of_getElem? hp) with k | k
    · exact .inl ⟨k, bindL_get ndP hp hu k⟩
    · obtain ⟨c, e⟩ := cell_has (n := s.heap.objs.size + 1) k
      refine .inr ⟨.inl k, c, e, ?_⟩
      have q := x.cell y c e
      rw [bindC_get ndP hp hu (by show scope.names.lookup y ≠ _; rw [k]; decide)] at q
      exact q
  · exact e0.hok.fresh (Nat.le_of_lt (x.above y c (PySem.mem_of_lookup h)))
  · unfold start
    show _ = N.length
    rw [List.length_append, List.length_map, List.length_replicate]
    omega

/-- THE RULE: a def (or a method) of the text, by its body. The body's reading t is chosen for each entry; it is run at the parameters' values -/
theorem fn_of {CX : CXT} {P : Program} {w : World} {K : PySem.W.Frag} {mg : Str → Option Value} {base : Heap} {k : Nat} {f : Addr} {name qual : Str} {params : Arguments} {body : List Stmt} {scope : Scope} {dV kV doc pm cdv ct oc : Value} {an od : Option Addr}
    {osl : Array (Option Value)} {N ps : List Str} {sp : Sp} (lk : K.lookup f = some ⟨oc, od, .func (PySem.W.fnOf name qual params body scope dV kV doc pm an cdv ct), osl⟩) (hcd : PySem.W.codeIn K cdv qual = true) (S : FnScope N ps scope)
    (len : ∀ vs H Q E, sp vs H Q E → vs.length = ps.length)
    (hbody : ∀ (A : Around) (outer : List Env) (s : Shared) (H : Hp) (vs : List V) (Q : VK) (E : XK), Room k (A.deeper (envOfC qual scope s.heap.objs.size f cdv)) → sp vs H Q E →
      ∃ t, PSs (cxOf CX P w K mg base N qual scope f cdv A outer s H E) body t ∧ t { nx := fun _ H' => Q .non H', rt := Q } (start N vs) H) :
    FnOk P w K mg base CX (k + 1) f (PySem.W.fnOf name qual params body scope dV kV doc pm an cdv ct) ps sp := by
  refine ⟨len, fun A outer s H args us vs Q E hr e0 hb r hsp => ?_⟩
  have hl := len _ _ _ _ hsp
  have KX : K.In s.heap := e0.mod.kin.keeps fun b o e => (e0.bs b o e).1
  have lim : s.heap.NoLimit := e0.mod.nolimit.keeps fun b o e => (e0.bs b o e).1
  have hkind : ∀ y ∈ ps.zip us, scope.names.lookup y.1 = some .local ∨ (scope.names.lookup y.1 = some .cell ∧ ((cellsFrom (s.heap.objs.size + 1) scope.names []).lookup y.1).isSome = true) := fun ⟨n, v⟩ hy => by
    rcases S.par n (List.of_mem_zip hy).1 with q | q
    · exact .inl q
    · exact .inr ⟨q, PySem.W.cellsFrom_some _ _ _ (.inl q)⟩
  refine codeAny_call_function hr.depth (KX _ _ lk) rfl S.co S.gen rfl (PySem.W.codeRec_of KX hcd) (hb _ _ _ _ ?_)
  refine wpAny_newFunctionEnv_cells S.kind hkind fun env he s1 x => ?_
  subst he
  refine ⟨lim.keeps x.toInCall.keep, codeAny_func ?_⟩
  obtain ⟨t, ht, hq⟩ := hbody A outer s H vs Q E (hr.deeper _) hsp
  have I : Inv (cxOf CX P w K mg base N qual scope f cdv A outer s H E) [] (start N vs) H s1 := inv_start S hr.hd e0 hl r x
  refine wpAny_mono (ht [] s1 (start N vs) H _ I hq) (fun fl s' hs => ?_) fun e s' hs => hs
  have fin : ∀ {σ' : St} {H' : Hp} {v : V} {u : Value}, Inv (cxOf CX P w K mg base N qual scope f cdv A outer s H E) [] σ' H' s' → RelV v u → Q v H' → CE outer P w H s Q u s' :=
    fun {σ' H' v u} J rv q => ⟨v, H', J.os, J.bare, J.base, J.hok, rv, q⟩
  cases fl with
  | ret u =>
    obtain ⟨v, σ', H', J, rv, q⟩ := hs
    exact fin J rv q
  | next =>
    obtain ⟨σ', H', J, q⟩ := hs
    exact fin (v := V.non) (u := Value.none) J rfl q
  | brk =>
    obtain ⟨_, _, _, q⟩ := hs
    exact False.elim q
  | cont =>
    obtain ⟨_, _, _, q⟩ := hs
    exact False.elim q
end L2

namespace L2
open PySem PySem.Spec PyProof.Rows
section
variable {X : Cx} {x : Str} {p pos : Pos} {e : Expr} {es : List Expr} {t : TA} {id T : String} {r : List V → Hp → VK → Prop}

def tCB (r : List V → Hp → VK → Prop) (t : TA) : TE := fun σ H Q => t σ H fun vs H1 => r vs H1 Q
/-- f(e, ..), f a built-in function -/
theorem pe_callB (hc : CallR X (.builtin id) r) (hg : Gl X x) (hm : X.mg x = none) (hv : bootBuiltins x = some (.builtin id)) (ha : PA X (e :: es) t) (hn : x ≠ "__name__" := by decide) (hdb : (x == ("__debug__" : Str)) = false := by decide)
    (he : starEach (e :: es) X.env = (false, eval e X.env) :: starEach es X.env := by rfl) (hpl : (backTo pos (starEach es X.env)).any (·.1) = false := by rfl) : PE X (.Call (.Name x p) (e :: es) [] pos) (tCB r t) := by
  intro pins s σ H Q I h
  refine wpAny_Call_Name_kw (ld_blt I hg hm hv ?_ hn hdb)
  exact PyProof.Rows.callWith_builtin1 (thn (ha pos pins s σ H _ I h) fun us s1 ⟨vs, H1, I1, r1, q1⟩ => hc pins s1 σ H1 vs us Q I1 r1 q1) he hpl
end
end L2

namespace HT
open PySem PyProof.Rows

section
open PySem.SeqAt
open PySem.AutoSeq1 (wpAny_loadPart')
open PySem.MeetsSeq PySem.MeetsSeq2 PySem.MeetsSeq3

end

section
variable {prog : Program} {w : World} {A : Around} {E : Value → Shared → Prop} {s : Shared}

/-- a slice's bound as a place among n (d where it is left out) -/
def sIx (n d : Nat) : Option Int → Nat
  | none => d
  | some v => if v < 0 then (v + (n : Int)).toNat else min v.toNat n
end
end HT

namespace L2
open PySem PySem.Spec PyProof.Rows

abbrev TO := St → Hp → (Option Int → Hp → Prop) → Prop
/-- a slice's part (left out, or an int) -/
def PO (X : Cx) (e : Option Expr) (t : TO) : Prop :=
  ∀ (pins : List (Addr × Obj)) (s : Shared) (σ : St) (H : Hp) (Q : Option Int → Hp → Prop), Inv X pins σ H s → t σ H Q →
    wpAny (model X.prog X.w) X.A (evalPart e X.env) (fun u s' => ∃ o H', Inv X pins σ H' s' ∧ IsPart u o ∧ Q o H') X.xe s
def tNoPart : TO := fun _ H Q => Q none H
def tPart (t : TE) : TO := fun σ H Q => t σ H fun x H1 => ∃ i, x = .int i ∧ Q (some i) H1

section
variable {X : Cx} {e : Expr} {te : TE} {lo hi : Option Expr} {tl th : TO} {pos p2 : Pos}

theorem po_none : PO X none tNoPart := by
  intro pins s σ H Q I h
  rw [evalPart_none]
  exact wpAny_pure ⟨none, H, I, .none, h⟩
theorem po_some (h : PE X e te) : PO X (some e) (tPart te) := by
  intro pins s σ H Q I hw
  rw [evalPart_some]
  refine thn (h pins s σ H _ I hw) fun u s1 ⟨x, H1, I1, r1, q1⟩ => ?_
  obtain ⟨i, rfl, q⟩ := q1
  obtain ⟨t, rfl⟩ := r1
  exact ⟨some i, H1, I1, .int i t, q⟩

/-- what a slice of a value is, by values: the slice object stands at sl -/
def SlR (X : Cx) (r : V → Option Int → Option Int → Hp → VK → Prop) : Prop :=
  ∀ (pins : List (Addr × Obj)) (s : Shared) (σ : St) (H : Hp) (x : V) (v vl vu : Value) (lo hi : Option Int) (sl : Addr) (Q : VK), Inv X pins σ H s → RelV x v → s.heap.IsSliceOf sl vl vu .none → IsPart vl lo → IsPart vu hi → r x lo hi H Q →
    ∃ T id, typeLookup (.type T) "__getitem__" = pure (some (.builtin id)) ∧ s.TypeIs v T ∧ wpAny (model X.prog X.w) X.A (getItem v (.ref sl)) (EP X pins σ Q) X.xe s
def tSl (r : V → Option Int → Option Int → Hp → VK → Prop) (te : TE) (tl th : TO) : TE := fun σ H Q => te σ H fun x H1 => tl σ H1 fun l H2 => th σ H2 fun u H3 => r x l u H3 Q
/-- a[lo:hi], any a -/
theorem pe_slice {r : V → Option Int → Option Int → Hp → VK → Prop} (hr : SlR X r) (he : PE X e te) (hl : PO X lo tl) (hu : PO X hi th) : PE X (.Subscript e (.Slice lo hi none p2) pos) (tSl r te tl th) := by
  intro pins s σ H Q I h
  refine Subscript_ (thn (he pins s σ H _ I h) fun v s1 ⟨x, H1, I1, r1, q1⟩ => ?_)
  refine wpAny_Slice (thn (hl pins s1 σ H1 _ I1 q1) fun vl s2 ⟨l, H2, I2, pl, q2⟩ => thn (hu pins s2 σ H2 _ I2 q2) fun vu s3 ⟨u, H3, I3, pu, q3⟩ => ?_)
  rw [evalPart_none]
  refine wpAny_pure ?_
  have I4 : Inv X pins σ H3 { s3 with heap := s3.heap.push { cls := .type "slice", data := .fields #[vl, vu, .none] } } := I3.kept (t' := s3.toks) fun b ob q => Heap.get?_push_of_some _ q
  obtain ⟨T, id, hT, ht, hg⟩ := hr pins { s3 with heap := s3.heap.push { cls := .type "slice", data := .fields #[vl, vu, .none] } } σ H3 x v vl vu l u s3.heap.objs.size Q I4 r1 (Heap.IsSliceOf.new ..) pl pu q3
  show wpAny (model X.prog X.w) X.A (subscriptTail e (.Slice lo hi none p2) v (.ref s3.heap.objs.size)) (EP X pins σ Q) X.xe { s3 with heap := s3.heap.push { cls := .type "slice", data := .fields #[vl, vu, .none] } }
  exact tail_any (ops := [.ref s3.heap.objs.size, v]) ht hT hg (by with_unfolding_all rfl)

/-- the items of xs[lo:hi] -/
def cutV (xs : List V) (lo hi : Option Int) : List V := (xs.drop (HT.sIx xs.length 0 lo)).take (HT.sIx xs.length xs.length hi - HT.sIx xs.length 0 lo)
theorem cutV_length (xs : List V) (lo hi : Option Int) : (cutV xs lo hi).length ≤ xs.length := by
  unfold cutV
  rw [List.length_take, List.length_drop]
  omega
end
end L2

namespace L2
open PySem PySem.Spec PyProof.Rows

/-- the place that an index of any sign means -/
def ixN (n : Nat) (i : Int) : Option Nat := if 0 ≤ i then (if i < n then some i.toNat else none) else if -(n : Int) ≤ i then some (i + n).toNat else none
def atI {α : Type} (xs : List α) (i : Int) : Option α := (ixN xs.length i).bind fun j => xs[j]?
theorem ixN_seq {n : Nat} {i : Int} {j : Nat} (h : ixN n i = some j) : seqIndex? i n = some j ∧ j < n ∧ -(n : Int) ≤ i ∧ i < n := by
  unfold ixN at h
  by_cases h0 : 0 ≤ i
  · rw [if_pos h0] at h
    by_cases h1 : i < n
    · rw [if_pos h1] at h
      have e : i.toNat = j := Option.some.inj h
      exact ⟨by rw [seqIndex_of h0 h1, e], by omega, by omega, h1⟩
    · rw [if_neg h1] at h; cases h
  · rw [if_neg h0] at h
    by_cases h1 : -(n : Int) ≤ i
    · rw [if_pos h1] at h
      have e : (i + n).toNat = j := Option.some.inj h
      exact ⟨by rw [seqIndex_neg (by omega) h1, e], by omega, h1, by omega⟩
    · rw [if_neg h1] at h; cases h
theorem atI_get {α : Type} {xs : List α} {i : Int} {v : α} (h : atI xs i = some v) : ∃ j, seqIndex? i xs.length = some j ∧ xs[j]? = some v ∧ j < xs.length ∧ -(xs.length : Int) ≤ i ∧ i < xs.length := by
  unfold atI at h
  cases e : ixN xs.length i with
  | none => rw [e] at h; cases h
  | some j =>
    rw [e] at h
    obtain ⟨h1, h2, h3, h4⟩ := ixN_seq e
    exact ⟨j, h1, h, h2, h3, h4⟩
theorem atI_nat {α : Type} {xs : List α} {j : Nat} {v : α} (h : xs[j]? = some v) : atI xs (j : Int) = some v := by
  have hj : j < xs.length := (List.getElem?_eq_some_iff.mp h).1
  have e : ixN xs.length (j : Int) = some j := by
    unfold ixN
    rw [if_pos (by omega), if_pos (by omega)]; simp
  unfold atI; rw [e]; exact h
/-- what stands as an index of a plain subscript -/
def PlainIx (b : Expr) : Prop := ∀ o i, subscripted b false o i = operate [o, i] (getItem o i)
/-- a subscript by values -/
def IxR (X : Cx) (r : R2) : Prop :=
  ∀ (value slice : Expr) (pins : List (Addr × Obj)) (s : Shared) (σ : St) (H : Hp) (x y : V) (v u : Value) (Q : VK), Inv X pins σ H s → RelV x v → RelV y u → r x y H Q →
    subscripted slice false v u = operate [v, u] (getItem v u) → wpAny (model X.prog X.w) X.A (subscriptTail value slice v u) (EP X pins σ Q) X.xe s
/-- a call of a builtin's method by values: the receiver, the arguments -/
def MtR (X : Cx) (id : String) (r : V → List V → Hp → VK → Prop) : Prop :=
  ∀ (pins : List (Addr × Obj)) (s : Shared) (σ : St) (H : Hp) (x : V) (xs : List V) (v : Value) (us : List Value) (Q : VK), Inv X pins σ H s → RelV x v → Vals xs us → r x xs H Q →
    wpAny (model X.prog X.w) X.A (call (.builtin id) (v :: us)) (EP X pins σ Q) X.xe s
section
variable {X : Cx} {a b : Expr} {ta tb : TE} {pos : Pos}
/-- a[b] -/
theorem pe_ix {r : R2} (hr : IxR X r) (ha : PE X a ta) (hb : PE X b tb) (hs : PlainIx b) : PE X (.Subscript a b pos) (tOp r ta tb) := by
  intro pins s σ H Q I h
  exact Subscript_ (binT ha hb I h fun v u s2 x y H2 I2 rx ry q => hr a b pins s2 σ H2 x y v u Q I2 rx ry q (hs _ _))

def rIxL (K : PySem.W.Frag) : R2 := fun x y H Q => ∃ p xs i v, x = .ref p ∧ y = .int i ∧ SqL K H p xs ∧ atI xs i = some v ∧ Q v H
def rIxT (K : PySem.W.Frag) : R2 := fun x y H Q => ∃ p xs i v, x = .ref p ∧ y = .int i ∧ SqT K H p xs ∧ atI xs i = some v ∧ Q v H
theorem ix_list : IxR X (rIxL X.K) := by
  intro value slice pins s σ H x y v u Q I rx ry h hs
  obtain ⟨p, xs, i, z, rfl, rfl, hq, he, q⟩ := h
  cases rx
  obtain ⟨t, rfl⟩ := ry
  obtain ⟨its, r, pl, hz⟩ := I.list hq
  obtain ⟨j, h1, h2, h3, h4, h5⟩ := atI_get he
  obtain ⟨w, ew, rw'⟩ := r.get h2
  have hl := r.length
  have hn := line63
  have fin : EP X pins σ Q w s := ⟨z, H, I, rw', q⟩
  by_cases h0 : 0 ≤ i
  · have hj : i.toNat = j := by
      rw [seqIndex_of h0 h5] at h1
      exact Option.some.inj h1
    exact item_listR pl.isList h0 (by omega) (by rw [hj]; simpa using ew) fin hs
  · have hj : (i + (its.toArray.size : Int)).toNat = j := by
      rw [seqIndex_neg (by omega) h4] at h1
      rw [List.size_toArray, ← hl]
      exact Option.some.inj h1
    exact subscriptTail_builtinR (x := w) pl.isList.typeIs slot_list_getitem.lookup
      (wpAny_getItem_list_neg (Q := fun r s' => r = w ∧ EP X pins σ Q r s') pl.isList (by omega) (by rw [List.size_toArray] <;> omega) (by omega) (by rw [hj]; simpa using ew) ⟨rfl, fin⟩) hs
theorem ix_tup : IxR X (rIxT X.K) := by
  intro value slice pins s σ H x y v u Q I rx ry h hs
  obtain ⟨p, xs, i, z, rfl, rfl, hq, he, q⟩ := h
  cases rx
  obtain ⟨t, rfl⟩ := ry
  obtain ⟨its, r, pl, hz⟩ := I.tuple hq
  obtain ⟨j, h1, h2, h3, h4, h5⟩ := atI_get he
  obtain ⟨w, ew, rw'⟩ := r.get h2
  have hl := r.length
  have hn := line63
  have fin : EP X pins σ Q w s := ⟨z, H, I, rw', q⟩
  exact subscriptTail_builtinR (x := w) pl.typeIs slot_tuple_getitem.lookup
    (getItem_tuple (j := j) (Q := fun r s' => r = w ∧ EP X pins σ Q r s') pl (by omega) (by omega) (by rw [List.size_toArray, ← hl]; exact h1) (by simpa using ew) ⟨rfl, fin⟩) hs
/-- the list's object behind a store -/
theorem mapSeq_set (its : List Value) (n j : Nat) (u : Value) : Obj.mapSeq (·.setIfInBounds j u) { cls := .type "list", data := .seq its.toArray n } = { cls := .type "list", data := .seq (its.set j u).toArray n } := by
  simp [Obj.mapSeq]
theorem Inv.lst {pins : List (Addr × Obj)} {σ : St} {H : Hp} {s : Shared} {p : Addr} {xs : List V} (I : Inv X pins σ H s) (h : H p = some (.lst xs)) :
    ∃ (its : List Value) (n : Nat), Vals xs its ∧ s.heap.get? p = some { cls := .type "list", data := .seq its.toArray n } ∧ xs.length ≤ sizeLine := by
  obtain ⟨z, its, n, r, e⟩ := I.hok p _ h
  exact ⟨its, n, r, e, z⟩
/-- the list at p is written by an update of its object -/
theorem Inv.lstUpd {pins : List (Addr × Obj)} {σ : St} {H : Hp} {s : Shared} {p : Addr} {xs ys : List V} {its its' : List Value} {n n' : Nat} {f : Obj → Obj} (I : Inv X pins σ H s) (h : H p = some (.lst xs))
    (ho : s.heap.get? p = some { cls := .type "list", data := .seq its.toArray n }) (hf : f { cls := .type "list", data := .seq its.toArray n } = { cls := .type "list", data := .seq its'.toArray n' }) (r : Vals ys its') (hz : ys.length ≤ sizeLine) (t : Nat) :
    Inv X pins σ (upd H p (.lst ys)) { s with heap := s.heap.update p f, toks := t } := by
  have e : (s.heap.update p f).get? p = some { cls := .type "list", data := .seq its'.toArray n' } := by
    rw [Heap.get?_update_self f ho (by rw [hf] <;> rfl), hf]
  refine I.write (x := p) (e := p) (by rw [h]; trivial) (.inl rfl) (fun b u hb q => (Heap.get?_update_other _ _ (Ne.symm hb)).trans q) ⟨_, e⟩ ?_
  exact ⟨hz, its', n', r, e⟩
def rSetL : V → V → V → Hp → (Hp → Prop) → Prop := fun o i v H Q => ∃ p xs k j, o = .ref p ∧ i = .int k ∧ H p = some (.lst xs) ∧ ixN xs.length k = some j ∧ Q (upd H p (.lst (xs.set j v)))
theorem set_list : PSet X rSetL := by
  intro pins s σ H o i v ov iv u Q I ro ri rv h
  obtain ⟨p, xs, k, j, rfl, rfl, hp, hj, q⟩ := h
  cases ro
  obtain ⟨t, rfl⟩ := ri
  obtain ⟨its, n, r, ho, hz⟩ := I.lst hp
  obtain ⟨h1, h2, h3, h4⟩ := ixN_seq hj
  have hl := r.length
  have hn := line63
  have I' : Inv X pins σ (upd H p (.lst (xs.set j v))) { s with heap := s.heap.update p (Obj.mapSeq (·.setIfInBounds j u)) } :=
    I.lstUpd hp ho (mapSeq_set its n j u) (r.set rv j) (by rw [List.length_set]; exact hz) s.toks
  by_cases h0 : 0 ≤ k
  · have hk : k.toNat = j := by
      rw [seqIndex_of h0 h4] at h1
      exact Option.some.inj h1
    exact PySem.W.ki_setAt ho h0 (by omega) (by rw [List.size_toArray, ← hl]; exact h4) (by rw [hk]; exact ⟨_, I', q⟩)
  · have hk : (k + (its.toArray.size : Int)).toNat = j := by
      rw [seqIndex_neg (by omega) h3] at h1
      rw [List.size_toArray, ← hl]
      exact Option.some.inj h1
    exact PySem.W.ki_setBack ho (by omega) (by rw [List.size_toArray, ← hl]; exact h3) (by omega) (by rw [hk]; exact ⟨_, I', q⟩)

theorem slice_bounds (lo hi : Option Int) (n : Nat) : (sliceBounds lo hi none n).1 = ((HT.sIx n 0 lo : Nat) : Int) ∧ (sliceBounds lo hi none n).2.1 = ((HT.sIx n n hi : Nat) : Int) ∧ (sliceBounds lo hi none n).2.2 = 1 := by
  refine ⟨?_, ?_, rfl⟩
  · cases lo with
    | none => simp [sliceBounds, HT.sIx]
    | some i =>
      simp only [sliceBounds, HT.sIx, Option.getD_none, show (1 : Int) > 0 by decide, if_true]
      by_cases h : i < 0
      · simp only [h, if_true] <;> omega
      · simp only [h, if_false] <;> omega
  · cases hi with
    | none => simp [sliceBounds, HT.sIx]
    | some i =>
      simp only [sliceBounds, HT.sIx, Option.getD_none, show (1 : Int) > 0 by decide, if_true]
      by_cases h : i < 0
      · simp only [h, if_true] <;> omega
      · simp only [h, if_false] <;> omega
theorem slicePick_cut (its : List Value) (lo hi : Option Int) : slicePick its.toArray lo hi none = ((its.drop (HT.sIx its.length 0 lo)).take (HT.sIx its.length its.length hi - HT.sIx its.length 0 lo)).toArray := by
  obtain ⟨h1, h2, h3⟩ := slice_bounds lo hi its.toArray.size
  unfold slicePick
  rw [h1, h2, h3]
  simp only [sliceRange_one, pick_run, List.size_toArray] <;> rfl
/-- xs[lo:hi] of a list: a new list -/
def rSlL (K : PySem.W.Frag) : V → Option Int → Option Int → Hp → VK → Prop := fun x lo hi H Q => ∃ a xs, x = .ref a ∧ SqL K H a xs ∧ ∀ p, H p = none → Q (.ref p) (upd H p (.lst (cutV xs lo hi)))
theorem sl_list : SlR X (rSlL X.K) := by
  intro pins s σ H x v vl vu lo hi sl Q I rx hs pl pu h
  obtain ⟨a, xs, rfl, hx, q⟩ := h
  cases rx
  obtain ⟨its, r, ht, hz⟩ := I.list hx
  have hlen := r.length
  refine ⟨"list", _, slot_list_getitem.lookup, ht.isList.typeIs, ?_⟩
  refine wpAny_getItem_list_slice ht.isList hs pl pu .none (by simp) ?_ (by rw [List.size_toArray] <;> omega)
  rw [slicePick_cut, ← hlen]
  refine ⟨.ref s.heap.objs.size, _, I.laid (t' := s.toks) (o := .lst (cutV xs lo hi)) (fun b ob q => Heap.get?_push_of_some _ q) (Nat.le_refl _) ?_, rfl, q _ (I.hok.fresh (Nat.le_refl _))⟩
  exact ⟨Nat.le_trans (cutV_length xs lo hi) hz, _, 0, (r.drop (HT.sIx xs.length 0 lo)).take (HT.sIx xs.length xs.length hi - HT.sIx xs.length 0 lo), Heap.get?_push_size _ rfl⟩

theorem call_len_seq : CallR X (.builtin "len") (fun xs H Q => ∃ p ys, xs = [.ref p] ∧ (SqL X.K H p ys ∨ SqT X.K H p ys) ∧ Q (.int ys.length) H) := by
  intro pins s σ H xs us Q I r h
  obtain ⟨p, ys, rfl, hq, q⟩ := h
  obtain ⟨u, rfl, rx⟩ := vals1 r
  cases rx
  have hn := line63
  rcases hq with hq | hq
  · obtain ⟨its, r', pl, hz⟩ := I.list hq
    have hlen := r'.length
    exact Calls.call_len_list pl.isList (by simp only [List.size_toArray] <;> omega) ⟨.int ys.length, H, I.tok _, ⟨s.toks + 1, by rw [List.size_toArray, hlen]⟩, q⟩
  · obtain ⟨its, r', pl, hz⟩ := I.tuple hq
    have hlen := r'.length
    exact len_tuple pl (by simp only [List.size_toArray] <;> omega) ⟨.int ys.length, H, I.tok _, ⟨s.toks + 1, by rw [List.size_toArray, hlen]⟩, q⟩
/-- the value is of that builtin type -/
def tyV (K : PySem.W.Frag) (T : String) (x : V) (H : Hp) : Prop := match x with
  | .str _ => T = "str"
  | .int _ => T = "int"
  | .ref p => (T = "list" ∧ ∃ xs, SqL K H p xs) ∨ (T = "tuple" ∧ ∃ o, K.lookup p = some o ∧ o.cls = .type "tuple" ∧ o.dict = none) ∨
      (T = "dict" ∧ ((∃ kvs, H p = some (.dK kvs)) ∨ ∃ kvs, H p = some (.dT kvs))) ∨ (T = "set" ∧ ∃ S n, H p = some (.set S n))
  | _ => False
theorem tyV_is {pins : List (Addr × Obj)} {σ : St} {H : Hp} {s : Shared} {T : String} {x : V} {v : Value} (I : Inv X pins σ H s) (r : RelV x v) (ty : tyV X.K T x H) :
    s.TypeIs v T ∧ ∀ a, v = .ref a → ∃ ob, s.heap.get? a = some ob ∧ ob.dict = none := by
  cases x with
  | str z =>
    obtain ⟨t, rfl⟩ := r
    cases (show T = "str" from ty)
    exact ⟨typeIs_str s z t, fun _ e => nomatch e⟩
  | int i =>
    obtain ⟨t, rfl⟩ := r
    cases (show T = "int" from ty)
    exact ⟨typeIs_int s i t, fun _ e => nomatch e⟩
  | ref p =>
    cases r
    rcases ty with ⟨rfl, xs, hq⟩ | ⟨rfl, o, hk, hc, hd⟩ | ⟨rfl, hk⟩ | ⟨rfl, S, n, hk⟩
    · obtain ⟨its, _, pl, _⟩ := I.list hq
      refine ⟨pl.isList.typeIs, fun a e => ?_⟩
      cases e
      obtain ⟨o, n, e, c, hd, _⟩ := pl
      exact ⟨o, e, hd⟩
    · refine ⟨⟨o, I.kIn p o hk, hc⟩, fun a e => ?_⟩
      cases e
      exact ⟨o, I.kIn _ o hk, hd⟩
    · have z : ∃ o, s.heap.get? p = some o ∧ o.ExactDict := by
        rcases hk with ⟨kvs, hk⟩ | ⟨kvs, hk⟩
        · obtain ⟨_, _, _, _, o, _, _, e, ex, _⟩ := I.hok p _ hk
          exact ⟨o, e, ex⟩
        · obtain ⟨_, _, _, _, o, _, _, e, ex, _⟩ := I.hok p _ hk
          exact ⟨o, e, ex⟩
      obtain ⟨o, e, ex⟩ := z
      refine ⟨⟨o, e, ex.1⟩, fun a e2 => ?_⟩
      cases e2
      exact ⟨o, e, ex.2.1⟩
    · obtain ⟨o, _, _, _, e, ex, _⟩ := I.hok p _ hk
      refine ⟨⟨o, e, ex.1⟩, fun a e2 => ?_⟩
      cases e2
      exact ⟨o, e, ex.2.1⟩
  | _ => exact False.elim ty
def tBM (K : PySem.W.Frag) (T : String) (r : V → List V → Hp → VK → Prop) (to : TE) (t : TA) : TE := fun σ H Q => to σ H fun x H1 => tyV K T x H1 ∧ t σ H1 fun xs H2 => r x xs H2 Q
variable {o e : Expr} {es : List Expr} {to : TE} {t : TA} {name : Str} {apos cpos : Pos} {T id : String} {r : V → List V → Hp → VK → Prop}
theorem pe_bm (pa : PlainAttrs T) (slot : Slot T name id) (hty : typeOf (.builtin id) = pure (.type "method_descriptor")) (hm : MtR X id r) (ho : PE X o to) (ha : PA X (e :: es) t)
    (hbase : attributeBase o name X.env (eval o X.env) = eval o X.env := by rfl)
    (hfew : ((backTo cpos (starEach (e :: es) X.env)).all (fun x => !x.1) && (backToKw cpos (keywordEach [] X.env)).all (fun x => x.1.isSome)
      && decide ((e :: es).length + ([] : List Keyword).length + (if ([] : List Keyword).isEmpty then 0 else 1) < 30)) = true := by rfl)
    (hline : (apos.endLine == cpos.line) = true := by rfl) (hs : starEach (e :: es) X.env = (false, eval e X.env) :: starEach es X.env := by rfl) (hplain : (backTo cpos (starEach es X.env)).any (·.1) = false := by rfl) :
    PE X (.Call (.Attribute o name apos) (e :: es) [] cpos) (tBM X.K T r to t) := by
  intro pins s σ H Q I h
  refine wpAny_Call_method_late hbase hfew hline rfl (thn (ho pins s σ H _ I h) fun v s1 ⟨x, H1, I1, r1, ty, q1⟩ => ?_)
  obtain ⟨h1, h2⟩ := tyV_is I1 r1 ty
  refine ⟨T, id, pa, slot, hty, h1, h2, ?_⟩
  have hA := ha cpos pins s1 σ H1 _ I1 q1
  rw [hs] at hA ⊢
  refine Calls.callWith_builtin (by show (false || (backTo cpos (starEach es X.env)).any (·.1)) = false; rw [hplain] <;> rfl) (Calls.evalArgs_plain ?_)
  exact thn hA fun us s2 ⟨vs, H2, I2, r2, q2⟩ => hm pins s2 σ H2 x vs v us Q I2 r1 r2 q2
end
end L2

namespace L2
open PySem PySem.Spec PyProof.Rows

def MtM (X : Cx) (id : String) (r : V → List V → Hp → VK → Prop) : Prop :=
  ∀ (pins : List (Addr × Obj)) (s : Shared) (σ : St) (H : Hp) (x : V) (xs : List V) (v : Value) (us : List Value) (Q : VK), Inv X pins σ H s → RelV x v → Vals xs us → r x xs H Q →
    wpAny (model X.prog X.w) X.A (call (.builtin id) (v :: us)) (EP X pins σ Q) X.xe s

theorem Vals.one : ∀ {x : V} {us : List Value}, Vals [x] us → ∃ u, us = [u] ∧ RelV x u
  | _, _, .cons r .nil => ⟨_, rfl, r⟩
theorem Vals.rep {xs : List V} {us : List Value} (h : Vals xs us) : ∀ k : Nat, Vals (List.replicate k xs).flatten (List.replicate k us).flatten
  | 0 => .nil
  | k + 1 => by
    rw [List.replicate_succ, List.replicate_succ, List.flatten_cons, List.flatten_cons]
    exact Vals.append h (Vals.rep h k)
theorem foldl_rep (its : List Value) : ∀ (k : Nat) (acc : List Value),
    List.foldl (fun x1 x2 => x1 ++ x2) acc.toArray (List.replicate k its.toArray) = (acc ++ (List.replicate k its).flatten).toArray
  | 0, acc => by simp
  | k + 1, acc => by
    have e : acc.toArray ++ its.toArray = (acc ++ its).toArray := by simp
    have e2 : (acc ++ its) ++ (List.replicate k its).flatten = acc ++ (List.replicate (k + 1) its).flatten := by
      rw [List.replicate_succ, List.flatten_cons, List.append_assoc]
    rw [← e2, ← foldl_rep its k (acc ++ its), ← e, List.replicate_succ, List.foldl_cons]

section
variable {X : Cx} {pins : List (Addr × Obj)} {σ : St} {H : Hp} {s : Shared} {l b : Addr} {xs ys zs : List V}

theorem Inv.lset {its its' : List Value} {n : Nat} {f : Array Value → Array Value} {t' : Nat} (I : Inv X pins σ H s) (hH : H l = some (.lst xs))
    (e : s.heap.get? l = some { cls := .type "list", data := .seq its.toArray n }) (hf : f its.toArray = its'.toArray) (hv : Vals ys its') (hz : ys.length ≤ sizeLine) :
    Inv X pins σ (upd H l (.lst ys)) { s with heap := s.heap.update l (Obj.mapSeq f), toks := t' } := by
  have q := PySem.IsL.update e f
  rw [hf] at q
  refine I.write (x := l) (e := l) (by rw [hH]; exact trivial) (.inl rfl) (fun b' u hb hu => (Heap.get?_update_other s.heap (Obj.mapSeq f) (Ne.symm hb)).trans hu) ⟨_, q⟩ ?_
  exact ⟨hz, its', _, hv, q⟩
theorem Inv.lnew {its : List Value} {t' : Nat} (I : Inv X pins σ H s) (hv : Vals ys its) (hz : ys.length ≤ sizeLine) :
    Inv X pins σ (upd H s.heap.objs.size (.lst ys)) { s with heap := s.heap.push { cls := .type "list", data := .seq its.toArray }, toks := t' } :=
  I.laid (fun _ _ q => Heap.get?_push_of_some _ q) (Nat.le_refl _) ⟨hz, its, 0, hv, Heap.get?_push_size _ rfl⟩
theorem Inv.fresh (I : Inv X pins σ H s) : H s.heap.objs.size = none := I.hok.fresh (Nat.le_refl _)
theorem Inv.lstM (I : Inv X pins σ H s) (hH : H l = some (.lst xs)) : xs.length ≤ sizeLine ∧ ∃ (its : List Value) (n : Nat), Vals xs its ∧ xs.length = its.length ∧ s.heap.get? l = some { cls := .type "list", data := .seq its.toArray n } := by
  obtain ⟨z, its, n, r, e⟩ := I.hok l _ hH
  exact ⟨z, its, n, r, r.length, e⟩

theorem notLongL {n : Nat} (h : n ≤ sizeLine) : Builtin.List.listTooLong n = false := by
  unfold Builtin.List.listTooLong
  exact decide_eq_false (by omega)
end

section
variable {X : Cx}

def rAppend : V → List V → Hp → VK → Prop := fun x vs H Q => ∃ l xs y, x = .ref l ∧ vs = [y] ∧ H l = some (.lst xs) ∧ xs.length < sizeLine ∧ Q .non (upd H l (.lst (xs ++ [y])))
theorem mt_append : MtM X "list.append" rAppend := by
  intro pins s σ H x vs v us Q I rx rv h
  obtain ⟨l, xs, y, rfl, rfl, hH, hz, q⟩ := h
  cases rx
  obtain ⟨u, rfl, ru⟩ := rv.one
  obtain ⟨z, its, n, r, hl, e⟩ := I.lstM hH
  refine call_meets F.slot_list_append ⟨_, e, rfl⟩ F.entry_list_append (F.args_list_append_2 _ _) (PySem.list_append l its.toArray n u (by rw [List.size_toArray]; omega)) ⟨e, ?_⟩
  refine ⟨.non, _, I.lset (its' := its ++ [u]) hH e (by simp) (r.append (.cons ru .nil)) ?_, rfl, q⟩
  rw [List.length_append, List.length_singleton]
  omega

def rCat : R2 := fun x y H Q => ∃ l b xs zs, x = .ref l ∧ y = .ref b ∧ H l = some (.lst xs) ∧ H b = some (.lst zs) ∧ xs.length + zs.length ≤ sizeLine ∧ ∀ p, H p = none → Q (.ref p) (upd H p (.lst (xs ++ zs)))
theorem op_cat : OpR X (binaryOp .Add) rCat := by
  intro pins s σ H x y v u Q I rx ry h
  obtain ⟨l, b, xs, zs, rfl, rfl, hH, hB, hz, q⟩ := h
  cases rx
  cases ry
  obtain ⟨z, its, n, r, hl, e⟩ := I.lstM hH
  obtain ⟨z2, its2, n2, r2, hl2, e2⟩ := I.lstM hB
  refine PySem.P.add_list e e2 ?_ (by rw [List.size_toArray, List.size_toArray]; omega)
  have ea : its.toArray ++ its2.toArray = (its ++ its2).toArray := by simp
  rw [ea]
  exact ⟨.ref _, _, I.lnew (t' := s.toks) (r.append r2) (by rw [List.length_append]; omega), rfl, q _ I.fresh⟩
/-- a list times an int (a negative one is nothing) -/
def rRep : R2 := fun x y H Q => ∃ l k xs, x = .ref l ∧ y = .int k ∧ H l = some (.lst xs) ∧ -(2 ^ 63) ≤ k ∧ k < 2 ^ 63 ∧ xs.length * k.toNat ≤ sizeLine ∧
  ∀ p, H p = none → Q (.ref p) (upd H p (.lst (List.replicate k.toNat xs).flatten))
theorem len_rep {α : Type} (xs : List α) (k : Nat) : (List.replicate k xs).flatten.length = k * xs.length := by
  induction k with
  | zero => simp
  | succ k ih => rw [List.replicate_succ, List.flatten_cons, List.length_append, ih, Nat.succ_mul, Nat.add_comm]
theorem op_rep : OpR X (binaryOp .Mult) rRep := by
  intro pins s σ H x y v u Q I rx ry h
  obtain ⟨l, k, xs, rfl, rfl, hH, h1, h2, hz, q⟩ := h
  cases rx
  obtain ⟨t, rfl⟩ := ry
  obtain ⟨z, its, n, r, hl, e⟩ := I.lstM hH
  have hlen : its.toArray.size * k.toNat ≤ sizeLine := by rw [List.size_toArray, ← hl]; exact hz
  have hcap : ¬ its.toArray.size * k.toNat > (2 ^ 63 - 1) / 8 := by
    have : (sizeLine : Nat) ≤ (2 ^ 63 - 1) / 8 := by decide
    omega
  have hfit : ¬ (!Builtin.List.listFitsIndex k) = true := by
    rw [fitsIndex_both h1 h2]
    exact Bool.false_ne_true
  have hlong : ¬ Builtin.List.listTooLong (its.toArray.size * k.toNat) = true := by
    rw [notLongL hlen]
    exact Bool.false_ne_true
  have hnew : List.foldl (fun x1 x2 => x1 ++ x2) #[] (List.replicate (if its.toArray.isEmpty = true then 0 else k.toNat) its.toArray) = (List.replicate k.toNat its).flatten.toArray := by
    have f0 : ∀ m : Nat, List.foldl (fun x1 x2 => x1 ++ x2) #[] (List.replicate m its.toArray) = (List.replicate m its).flatten.toArray := fun m => by
      have := foldl_rep its m []
      rw [List.nil_append] at this
      exact this
    rw [f0]
    cases its with
    | nil => simp
    | cons a r' => rw [if_neg (by simp)]
  refine wpAny_binaryOp_repeat_ref (T := "list") (U := "int") (by decide) ⟨_, e, rfl⟩ (fun s' => typeIs_int s' k t) noFill_list_mul F.fills_int_mul F.slot_int_rmul repeat_list F.slot_int_index.lookup
    (call_meets F.slot_int_rmul (typeIs_int s k t) F.entry_int_rmul (F.args_int_rmul_2 _ _) (int___rmul___int_list k t l its.toArray n)
      ⟨e, rfl, ⟨_, e, rfl⟩, call_meets F.slot_list_mul ⟨_, e, rfl⟩ F.entry_list_mul (F.args_list_mul_2 _ _) (AutoListH.list___mul___list_int_3 l its.toArray n k t hfit hcap hlong) ⟨e, ?_⟩⟩)
  rw [hnew]
  exact ⟨.ref _, _, I.lnew (t' := s.toks) (r.rep k.toNat) (by rw [len_rep, Nat.mul_comm]; exact hz), rfl, q _ I.fresh⟩

end

section
variable {prog : Program} {w : World} {A : Around} {E : Value → Shared → Prop} {s : Shared}
end

section
variable {X : Cx}
end
end L2

namespace L2
open PySem PySem.Spec PyProof.Rows

theorem Vals.ints : ∀ {ns : List Int} {us : List Value}, Vals (ns.map V.int) us → IntsAre us ns
  | [], us, h => by
    rw [List.map_nil] at h
    cases h
    exact IntsAre.nil
  | n :: ns, us, h => by
    rw [List.map_cons] at h
    cases h with
    | cons r t =>
      obtain ⟨k, rfl⟩ := r
      exact IntsAre.cons n k (Vals.ints t)
theorem Vals.ref1 {a : Addr} {us : List Value} (r : Vals [V.ref a] us) : us = [Value.ref a] := by
  cases r with
  | cons r t =>
    cases t
    cases r
    rfl
theorem Vals.int2 {i j : Int} {us : List Value} (r : Vals [V.int i, V.int j] us) : ∃ t u, us = [Value.int i t, Value.int j u] := by
  cases r with
  | cons r t =>
    cases t with
    | cons r2 t2 =>
      cases t2
      obtain ⟨t, rfl⟩ := r
      obtain ⟨u, rfl⟩ := r2
      exact ⟨t, u, rfl⟩

section
variable {prog : Program} {w : World} {A : Around} {E : Value → Shared → Prop} {s : Shared} {l : Addr} {its : List Value} {ns : List Int} {Q : Value → Shared → Prop}
theorem min_raw (hh : A.handled = none) (hl : s.heap.IsList l its.toArray) (hi : IntsAre its ns) (hne : 0 < ns.length)
    (h : ∀ h' tk M t', (∀ b o, s.heap.get? b = some o → h'.get? b = some o) → M ∈ ns → (∀ a, a ∈ ns → M ≤ a) → Q (.int M t') { s with heap := h', toks := tk }) : wpAny (model prog w) A (call (.builtin "min") [.ref l]) Q E s := by
  obtain ⟨xs, e⟩ := hi.allInts.items
  have hn : numsOf (intItems xs).toList = ns := by rw [← e]; exact hi.numsOf
  rw [nums_intItems] at hn
  subst hn
  rw [e] at hl
  have hsz : 0 < xs.size := by simpa using hne
  refine PySem.min_intList hh hl hsz fun v h' tk hv hk => ?_
  obtain ⟨t, rfl⟩ := intItems_at hv
  obtain ⟨h1, h2⟩ := argBest_lt (numAt xs) (xs.size - 1)
  refine h h' tk _ t hk ?_ fun a ha => ?_
  · rw [numAt_eq]; exact PySem.getD_mem (by rw [List.length_map, Array.length_toList]; omega)
  · obtain ⟨j, hj, rfl⟩ := mem_getD ha
    rw [List.length_map, Array.length_toList] at hj
    rw [← numAt_eq]; exact h2 j (by omega)
end

section
variable {X : Cx}
def rMin (K : PySem.W.Frag) : List V → Hp → VK → Prop := fun vs H Q => ∃ (a : Addr) (ns : List Int), vs = [V.ref a] ∧ SqL K H a (ns.map V.int) ∧ 0 < ns.length ∧ ∀ m, m ∈ ns → (∀ y, y ∈ ns → m ≤ y) → Q (.int m) H
theorem cr_min (hc : X.calm = true) : CallR X (.builtin "min") (rMin X.K) := by
  intro pins s σ H vs us Q I r h
  obtain ⟨a, ns, rfl, hs, hne, q⟩ := h
  obtain ⟨its, rv, hl, _⟩ := I.list hs
  rw [Vals.ref1 r]
  exact min_raw (I.ok.hd hc) hl.isList rv.ints hne fun h' tk m t' hk h1 h2 => ⟨.int _, H, I.kept hk, ⟨_, rfl⟩, q m h1 h2⟩

end

section
variable {X : Cx}
end

section
variable {X : Cx}
end

section
variable {X : Cx}
end

section
variable {X : Cx} {pins : List (Addr × Obj)} {σ : St} {H : Hp} {s : Shared}
end
section
variable {X : Cx}
end
end L2

namespace L2
open PySem PySem.Spec PyProof.Rows
abbrev CellAt (h : Heap) (c : Addr) (v : Option Value) : Prop := h.IsCell c v
def relS (scope sc : Scope) : Scope :=
  { scope with names := scope.names.map fun (n, k) => if (k == .free && sc.kind == .function && sc.names.lookup n == some .cell) then (n, .cell) else (n, k) }

def cloFrom (cells : List (Str × Addr)) : List (Str × NameKind) → List (Str × Addr) → List (Str × Addr)
  | [], acc => acc
  | (n, k) :: r, acc => if k == .free then cloFrom cells r ((n, (cells.lookup n).getD 0) :: acc) else cloFrom cells r acc

theorem closure_loop (env : Env) (f : Str × NameKind → List (Str × Addr) → Sem (ForInStep (List (Str × Addr))))
    (hf : ∀ n k c, f (n, k) c = if k == .free then (do let a ← cellOf env n; pure (.yield ((n, a) :: c))) else pure (.yield c)) :
    ∀ (names : List (Str × NameKind)) (acc : List (Str × Addr)), (∀ y ∈ names, y.2 = .free → ∃ c, env.cells.lookup y.1 = some c) → forIn names acc f = pure (cloFrom env.cells names acc)
  | [], acc, _ => by rw [List.forIn_nil]; rfl
  | (n, k) :: r, acc, h => by
    rw [List.forIn_cons, hf]
    have ih := fun acc => closure_loop env f hf r acc fun y hy => h y (List.mem_cons_of_mem _ hy)
    unfold cloFrom
    by_cases hk : (k == NameKind.free) = true
    · rw [if_pos hk, if_pos hk]
      obtain ⟨c, hc⟩ := h (n, k) List.mem_cons_self (by simpa using hk)
      have e : cellOf env n = pure c := by unfold cellOf; rw [hc]
      rw [e]
      have e2 : (env.cells.lookup n).getD 0 = c := by rw [hc]; rfl
      rw [e2]
      exact ih _
    · rw [if_neg hk, if_neg hk]
      exact ih _
theorem closure_ok {scope : Scope} {env : Env} (h : ∀ y ∈ scope.names, y.2 = .free → ∃ c, env.cells.lookup y.1 = some c) : closureFor scope env = pure (cloFrom env.cells scope.names []) := by
  simp only [closureFor]
  rw [closure_loop env _ (fun n k c => rfl) scope.names [] h]
  rfl

theorem mem_lookup {α : Type} : ∀ {l : List (Str × α)} {n : Str} {c : α}, (n, c) ∈ l → ∃ c', l.lookup n = some c'
  | (k, v) :: r, n, c, h => by
    rw [List.lookup_cons]
    cases hb : n == k with
    | true => exact ⟨_, rfl⟩
    | false =>
      rcases List.mem_cons.mp h with e | h
      · cases e; simp at hb
      · exact mem_lookup h

theorem cloFrom_mem {cells : List (Str × Addr)} : ∀ {names : List (Str × NameKind)} {acc : List (Str × Addr)} {n : Str} {c : Addr}, (n, c) ∈ cloFrom cells names acc → (n, c) ∈ acc ∨ ((n, .free) ∈ names ∧ c = (cells.lookup n).getD 0)
  | [], _, _, _, h => .inl h
  | (m, k) :: r, acc, n, c, h => by
    unfold cloFrom at h
    split at h
    · rename_i hk
      have hk : k = .free := by simpa using hk
      rcases cloFrom_mem h with h | ⟨h1, h2⟩
      · rcases List.mem_cons.mp h with e | h
        · cases e; exact .inr ⟨hk ▸ List.mem_cons_self, rfl⟩
        · exact .inl h
      · exact .inr ⟨List.mem_cons_of_mem _ h1, h2⟩
    · rcases cloFrom_mem h with h | ⟨h1, h2⟩
      · exact .inl h
      · exact .inr ⟨List.mem_cons_of_mem _ h1, h2⟩
theorem cloFrom_acc {cells : List (Str × Addr)} : ∀ {names : List (Str × NameKind)} {acc : List (Str × Addr)} {p : Str × Addr}, p ∈ acc → p ∈ cloFrom cells names acc
  | [], _, _, h => h
  | (m, k) :: r, acc, p, h => by
    unfold cloFrom
    split
    · exact cloFrom_acc (List.mem_cons_of_mem _ h)
    · exact cloFrom_acc h
theorem cloFrom_has {cells : List (Str × Addr)} : ∀ {names : List (Str × NameKind)} {acc : List (Str × Addr)} {n : Str}, (n, .free) ∈ names → (n, (cells.lookup n).getD 0) ∈ cloFrom cells names acc
  | (m, k) :: r, acc, n, h => by
    unfold cloFrom
    rcases List.mem_cons.mp h with e | h
    · cases e
      exact cloFrom_acc List.mem_cons_self
    · split
      · exact cloFrom_has h
      · exact cloFrom_has h

theorem cells_mem : ∀ {names : List (Str × NameKind)} {h : Heap} {acc : List (Str × Addr)} {x : Str} {c : Addr}, (x, c) ∈ cellsFrom h.objs.size names acc →
    (x, c) ∈ acc ∨ ((x, .cell) ∈ names ∧ h.objs.size ≤ c ∧ CellAt (pushCells h names) c none)
  | [], _, _, _, _, h => .inl h
  | (n, k) :: r, h, acc, x, c, hm => by
    unfold cellsFrom at hm
    unfold pushCells
    split at hm
    · rename_i hk
      rw [if_pos hk]
      have hk : k = .cell := by simpa using hk
      rw [← Heap.size_push h { cls := .type "cell", data := .cell none }] at hm
      rcases cells_mem hm with hm | ⟨h1, h2, h3⟩
      · rcases List.mem_cons.mp hm with e | hm
        · cases e
          exact .inr ⟨hk ▸ List.mem_cons_self, Nat.le_refl _, _, pushCells_keeps r _ _ _ (Heap.get?_push_size _ rfl), rfl⟩
        · exact .inl hm
      · rw [Heap.size_push] at h2
        exact .inr ⟨List.mem_cons_of_mem _ h1, Nat.le_of_succ_le h2, h3⟩
    · rename_i hk
      rw [if_neg hk]
      rcases cells_mem hm with hm | ⟨h1, h2, h3⟩
      · exact .inl hm
      · exact .inr ⟨List.mem_cons_of_mem _ h1, h2, h3⟩
theorem cells_acc : ∀ {names : List (Str × NameKind)} {n : Nat} {acc : List (Str × Addr)} {p : Str × Addr}, p ∈ acc → p ∈ cellsFrom n names acc
  | [], _, _, _, h => h
  | (m, k) :: r, n, acc, p, h => by
    unfold cellsFrom
    split
    · exact cells_acc (List.mem_cons_of_mem _ h)
    · exact cells_acc h
theorem cells_has : ∀ {names : List (Str × NameKind)} {n : Nat} {acc : List (Str × Addr)} {x : Str}, (x, .cell) ∈ names → ∃ c, (x, c) ∈ cellsFrom n names acc
  | (m, k) :: r, n, acc, x, h => by
    unfold cellsFrom
    rcases List.mem_cons.mp h with e | h
    · cases e
      exact ⟨n, cells_acc List.mem_cons_self⟩
    · split
      · exact cells_has h
      · exact cells_has h
theorem cells_inj : ∀ {names : List (Str × NameKind)} {h : Heap} {acc : List (Str × Addr)} {x y : Str} {c : Addr}, (∀ p ∈ acc, p.2 < h.objs.size) → (∀ x y c, (x, c) ∈ acc → (y, c) ∈ acc → x = y) →
    (x, c) ∈ cellsFrom h.objs.size names acc → (y, c) ∈ cellsFrom h.objs.size names acc → x = y
  | [], _, _, _, _, _, _, hi, h1, h2 => hi _ _ _ h1 h2
  | (n, k) :: r, h, acc, x, y, c, hl, hi, h1, h2 => by
    unfold cellsFrom at h1 h2
    split at h1
    · rename_i hk
      rw [if_pos hk] at h2
      rw [← Heap.size_push h { cls := .type "cell", data := .cell none }] at h1 h2
      refine cells_inj (h := h.push _) (fun p hp => ?_) (fun x y c a b => ?_) h1 h2
      · rw [Heap.size_push]
        rcases List.mem_cons.mp hp with rfl | hp
        · exact Nat.lt_succ_self _
        · exact Nat.lt_succ_of_lt (hl p hp)
      · rcases List.mem_cons.mp a with e | a <;> rcases List.mem_cons.mp b with e' | b
        · cases e; cases e'; rfl
        · cases e; exact absurd (hl _ b) (Nat.lt_irrefl _)
        · cases e'; exact absurd (hl _ a) (Nat.lt_irrefl _)
        · exact hi _ _ _ a b
    · rename_i hk
      rw [if_neg hk] at h2
      exact cells_inj hl hi h1 h2

theorem newEnv_comp {M : Model} {A : Around} {E : Value → Shared → Prop} {s : Shared} {scope : Scope} {globals : Addr} {closure : List (Str × Addr)} {qual : Str} {func : Option Addr} {code : Value} {around : Env} {builtins : Addr} {Q : Env → Shared → Prop}
    (h : Q (newEnv scope s.heap.objs.size globals (cellsFrom (s.heap.objs.size + 1) scope.names closure) qual func code (some around) builtins)
      { s with heap := pushCells (s.heap.push { cls := .type "dict", data := .dict #[] }) scope.names }) :
    wpAny M A (newFunctionEnv scope globals closure [] qual func code (some around) builtins) Q E s := by
  simp only [newFunctionEnv, Option.isSome_some, if_true]
  refine wpAny_bind (wpAny_alloc ?_)
  refine wpAny_bind (wpAny_layCells _ (fun n k c => rfl) scope.names closure _ _ ?_)
  rw [show ({ s with heap := s.heap.push { cls := .type "dict", data := .dict #[] } } : Shared).heap.objs.size = s.heap.objs.size + 1 from Heap.size_push ..]
  rw [List.forIn_nil]
  exact wpAny_bind (wpAny_pure (wpAny_pure h))

/-- every name of the written scope, in the scope that runs -/
theorem lookup_relS {sc : Scope} : ∀ {names : List (Str × NameKind)} {x : Str} {k : NameKind},
    (names.map fun (n, k) => if (k == NameKind.free && sc.kind == .function && sc.names.lookup n == some .cell) then (n, NameKind.cell) else (n, k)).lookup x = some k →
    ∃ k', names.lookup x = some k' ∧ (k = k' ∨ (k' = .free ∧ k = .cell))
  | [], _, _, h => by simp at h
  | (n, k₀) :: r, x, k, h => by
    have ih := @lookup_relS sc r x k
    have h' : List.lookup x ((if (k₀ == NameKind.free && sc.kind == .function && sc.names.lookup n == some .cell) = true then (n, NameKind.cell) else (n, k₀)) :: (r.map _)) = some k := h
    cases hx : x == n with
    | true =>
      simp only [List.lookup_cons, hx]
      by_cases hc : (k₀ == NameKind.free && sc.kind == .function && sc.names.lookup n == some .cell) = true
      · rw [if_pos hc] at h'
        simp only [List.lookup_cons, hx] at h'
        cases h'
        simp only [Bool.and_eq_true, beq_iff_eq] at hc
        exact ⟨k₀, rfl, .inr ⟨hc.1.1, rfl⟩⟩
      · rw [if_neg hc] at h'
        simp only [List.lookup_cons, hx] at h'
        cases h'
        exact ⟨_, rfl, .inl rfl⟩
    | false =>
      simp only [List.lookup_cons, hx]
      by_cases hc : (k₀ == NameKind.free && sc.kind == .function && sc.names.lookup n == some .cell) = true
      · rw [if_pos hc] at h'
        simp only [List.lookup_cons, hx] at h'
        exact ih h'
      · rw [if_neg hc] at h'
        simp only [List.lookup_cons, hx] at h'
        exact ih h'
/-- the names of a comprehension's block: its own (with their places in N), or captured -/
structure BlkOk (N : List Str) (sc scope : Scope) (own : List (Str × Nat)) : Prop where
  kind : scope.kind = .function
  uniq : ∀ y ∈ scope.names, scope.names.lookup y.1 = some y.2
  ix : ∀ p ∈ own, N[p.2]? = some p.1
  free : ∀ y ∈ scope.names, y.2 = .free → sc.names.lookup y.1 = some .cell ∨ sc.names.lookup y.1 = some .free
  own : ∀ y ∈ scope.names, y.2 = .local ∨ y.2 = .cell → y.1 ∈ own.map (·.1) ∨ y.1 ∉ N
/-- the slots of the block's own names forgotten -/
def wipe (σ : St) : List Nat → St
  | [] => σ
  | v :: vs => (wipe σ vs).set v none
theorem wipe_length (σ : St) : ∀ vs : List Nat, (wipe σ vs).length = σ.length
  | [] => rfl
  | v :: vs => by unfold wipe; rw [List.length_set, wipe_length σ vs]
theorem wipe_some {σ : St} {i : Nat} {x : V} : ∀ {vs : List Nat}, (wipe σ vs)[i]? = some (some x) → σ[i]? = some (some x) ∧ i ∉ vs
  | [], h => ⟨h, by simp⟩
  | v :: vs, h => by
    unfold wipe at h
    by_cases hi : v = i
    · subst hi
      by_cases hv : v < (wipe σ vs).length
      · rw [List.getElem?_set_self hv] at h; cases h
      · rw [List.getElem?_eq_none (by simpa using hv)] at h; cases h
    · rw [List.getElem?_set_ne hi] at h
      obtain ⟨h1, h2⟩ := wipe_some h
      exact ⟨h1, by simp only [List.mem_cons, not_or]; exact ⟨fun e => hi e.symm, h2⟩⟩

/-- the context of a block that starts at s, its iterator's objects at fp -/
abbrev Cx.blk (X : Cx) (s : Shared) (H : Hp) (scope : Scope) (cenv : Env) (fp : List Addr) : Cx := { X with s_0 := s, H_0 := H, env := cenv, outer := X.stack, ex := fp, fn := fun x => scope.names.lookup x == some .cell, pn := [], xe := fun _ _ => False }
section
variable {X : Cx} {pins : List (Addr × Obj)} {σ : St} {H : Hp} {s : Shared}
theorem block_start {scope : Scope} {own : List (Str × Nat)} {fp : List Addr} (I : Inv X pins σ H s) (ok : BlkOk X.N X.env.scope scope own) (hN : X.N.Nodup) (hfp : ∀ b ∈ fp, FpOk X pins H b ∧ b < s.heap.objs.size) :
    Inv (X.blk s H scope (compEnvC scope (cellsFrom (s.heap.objs.size + 1) scope.names (cloFrom X.env.cells scope.names [])) s.heap.objs.size X.env) fp) [] (wipe σ (own.map (·.2))) H { s with heap := pushCells (s.heap.push { cls := .type "dict", data := .dict #[] }) scope.names } := by
  have hfree : ∀ y ∈ scope.names, y.2 = .free → ∃ c, X.env.cells.lookup y.1 = some c := fun y hy e => by
    rcases ok.free y hy e with k | k
    · exact I.ok.has _ (.inl k)
    · exact I.ok.has _ (.inr k)
  generalize hcenv : compEnvC scope (cellsFrom (s.heap.objs.size + 1) scope.names (cloFrom X.env.cells scope.names [])) s.heap.objs.size X.env = cenv
  have kp : ∀ b o, s.heap.get? b = some o → (pushCells (s.heap.push { cls := .type "dict", data := .dict #[] }) scope.names).get? b = some o := fun b o e => pushCells_keeps _ _ _ _ (Heap.get?_push_of_some _ e)
  have hL : cenv.locals = s.heap.objs.size := by rw [← hcenv]; rfl
  have hcl : cenv.cells = cellsFrom (s.heap.objs.size + 1) scope.names (cloFrom X.env.cells scope.names []) := by rw [← hcenv]; rfl
  have hsc : cenv.scope = relS scope X.env.scope := by rw [← hcenv]; rfl
  rw [← Heap.size_push s.heap { cls := .type "dict", data := .dict #[] }] at hcl
  have cm : ∀ {y c}, (y, c) ∈ cloFrom X.env.cells scope.names [] → X.env.cells.lookup y = some c ∧ c < s.heap.objs.size := fun {y c} hm => by
    rcases cloFrom_mem hm with hm | ⟨h1, rfl⟩
    · cases hm
    · obtain ⟨c, hc⟩ := hfree _ h1 rfl
      rw [hc]
      obtain ⟨w, z⟩ := I.cell _ _ hc
      exact ⟨rfl, z.lt⟩
  have mem : ∀ {y c}, cenv.cells.lookup y = some c → (X.env.cells.lookup y = some c ∧ c < s.heap.objs.size) ∨ (s.heap.objs.size + 1 ≤ c ∧ CellAt (pushCells (s.heap.push { cls := .type "dict", data := .dict #[] }) scope.names) c none) := fun {y c} e => by
    rw [hcl] at e
    rcases cells_mem (PySem.mem_of_lookup e) with hm | ⟨_, h2, h3⟩
    · exact .inl (cm hm)
    · rw [Heap.size_push] at h2; exact .inr ⟨h2, h3⟩
  have look : ∀ {y}, scope.names.lookup y = some .free → ∃ c, cenv.cells.lookup y = some c ∧ X.env.cells.lookup y = some c := fun {y} hl => by
    have hy : (y, NameKind.free) ∈ scope.names := PySem.mem_of_lookup hl
    obtain ⟨c', e'⟩ := mem_lookup (cells_acc (names := scope.names) (n := (s.heap.push { cls := .type "dict", data := .dict #[] }).objs.size) (cloFrom_has (cells := X.env.cells) (acc := []) hy))
    rw [← hcl] at e'
    refine ⟨c', e', ?_⟩
    rw [hcl] at e'
    rcases cells_mem (PySem.mem_of_lookup e') with hm | ⟨h1, _, _⟩
    · exact (cm hm).1
    · have := ok.uniq _ h1
      rw [hl] at this; cases this
  have okB : (X.blk s H scope cenv fp).Ok := by
    refine ⟨I.ok.mod, by show cenv.scope.kind = _; rw [hsc]; exact ok.kind, by show cenv.globals = _; rw [← hcenv]; exact I.ok.glob, by show cenv.builtins = _; rw [← hcenv]; exact I.ok.blt, by show s.heap.objs.size ≤ cenv.locals; rw [hL]; exact Nat.le_refl _,
      fun y z c e1 e2 => ?_, fun y hy => ?_, fun y c z e => ?_, I.ok.hd, I.ok.frames, .inl rfl, fun b hb => ⟨?_, fun y c e z => ?_⟩, I.bs, Nat.le_trans I.ok.bsz I.sz, fun b o e hb => ?_, fun b hb z => ?_, I.stack, I.stkFree⟩
    · have e1 : cenv.cells.lookup y = some c := e1
      have e2 : cenv.cells.lookup z = some c := e2
      rw [hcl] at e1 e2
      refine cells_inj (fun p hp => ?_) (fun y z c a b => I.ok.inj y z c (cm a).1 (cm b).1) (PySem.mem_of_lookup e1) (PySem.mem_of_lookup e2)
      rw [Heap.size_push]
      exact Nat.lt_succ_of_lt (cm (y := p.1) (c := p.2) hp).2
    · show ∃ c, cenv.cells.lookup y = some c
      have key : ∀ k, cenv.kindOf y = some k → (k = .cell ∨ k = .free) → ∃ c, cenv.cells.lookup y = some c := fun k hk hk' => by
        unfold Env.kindOf at hk
        rw [hsc] at hk
        obtain ⟨k', e, r⟩ := lookup_relS hk
        have : k' = .cell ∨ k' = .free := by
          rcases r with rfl | ⟨rfl, _⟩
          · exact hk'
          · exact .inr rfl
        rcases this with rfl | rfl
        · obtain ⟨c, hm⟩ := cells_has (n := (s.heap.push { cls := .type "dict", data := .dict #[] }).objs.size) (acc := cloFrom X.env.cells scope.names []) (PySem.mem_of_lookup e)
          obtain ⟨c', e'⟩ := mem_lookup hm
          exact ⟨c', by rw [hcl]; exact e'⟩
        · obtain ⟨c, h1, _⟩ := look e
          exact ⟨c, h1⟩
      rcases hy with hy | hy
      · exact key _ hy (.inl rfl)
      · exact key _ hy (.inr rfl)
    · have z : (scope.names.lookup y == some NameKind.cell) = true := z
      have z : scope.names.lookup y = some .cell := by simpa using z
      have e : cenv.cells.lookup y = some c := e
      rw [hcl] at e
      rcases cells_mem (PySem.mem_of_lookup e) with hm | ⟨_, h2, _⟩
      · rcases cloFrom_mem hm with hm | ⟨h1, _⟩
        · cases hm
        · have q := ok.uniq _ h1
          rw [z] at q; cases q
      · rw [Heap.size_push] at h2
        exact Nat.le_of_succ_le h2
    · show b ≠ cenv.locals
      rw [hL]; exact Nat.ne_of_lt (hfp b hb).2
    · have e : cenv.cells.lookup y = some c := e
      rcases mem e with ⟨h1, _⟩ | ⟨h1, _⟩
      · exact (hfp b hb).1.2.2.2.2.1 y c h1 z
      · have h2 : s.heap.objs.size + 1 ≤ b := by rw [← z]; exact h1
        exact absurd (Nat.lt_of_lt_of_le (hfp b hb).2 (Nat.le_of_succ_le h2)) (Nat.lt_irrefl _)
    · rcases (hfp b hb).1.2.2.2.1 with z | z
      · exact I.ok.noex b o e z
      · exact absurd (Nat.lt_of_lt_of_le (Heap.lt_size e) (Nat.le_trans I.ok.bsz z)) (Nat.lt_irrefl _)
    · rcases List.mem_cons.mp (I.stkSub b z) with z | z
      · exact (hfp b hb).1.2.1 z
      · exact (hfp b hb).1.2.2.1 z
  refine ⟨okB, rfl, I.bare, Un.kept kp, ⟨fun _ => none, ?_, fun i y av e1 e2 e3 => ?_⟩, fun y c e => ?_, ?_, fun y c e => ?_, fun p hp => ?_, I.hok.kept kp, by rw [wipe_length]; exact I.len⟩
  · show Heap.Ns _ cenv.locals _
    rw [hL]
    exact Heap.Ns.keeps (Heap.Ns.new ..) fun b o e => pushCells_keeps _ _ _ _ e
  · obtain ⟨e2, hne⟩ := wipe_some e2
    have hfr : scope.names.lookup y = some .free ∧ (cenv.kindOf y = some .cell ∨ cenv.kindOf y = some .free) := by
      have key : ∀ k, cenv.scope.names.lookup y = some k → k = .local ∨ k = .cell ∨ k = .free → scope.names.lookup y = some .free ∧ (cenv.kindOf y = some .cell ∨ cenv.kindOf y = some .free) := fun k hk hk' => by
        have hk0 := hk
        rw [hsc] at hk
        obtain ⟨k', e, r⟩ := lookup_relS hk
        have no : ¬ (k' = .local ∨ k' = .cell) := fun hh => by
          rcases ok.own _ (PySem.mem_of_lookup e) hh with e' | e'
          · obtain ⟨p, hp, hpy⟩ := List.mem_map.mp e'
            have e3 := ok.ix p hp
            have : p.1 = y := hpy
            rw [this] at e3
            exact hne (List.mem_map.mpr ⟨p, hp, nodup_ix hN e3 e1⟩)
          · exact e' (List.mem_of_getElem? e1)
        rcases r with rfl | ⟨rfl, rfl⟩
        · rcases hk' with rfl | rfl | rfl
          · exact absurd (.inl rfl) no
          · exact absurd (.inr rfl) no
          · exact ⟨e, .inr hk0⟩
        · exact ⟨e, .inl hk0⟩
      have e3 : Vis cenv.scope y := e3
      rcases e3 with e3 | e3 | e3
      · exact key _ e3 (.inl rfl)
      · exact key _ e3 (.inr (.inl rfl))
      · exact key _ e3 (.inr (.inr rfl))
    obtain ⟨m, hn, hl⟩ := I.loc
    have hvis : Vis X.env.scope y := (ok.free _ (PySem.mem_of_lookup hfr.1) rfl).elim (fun k => .inr (.inl k)) (fun k => .inr (.inr k))
    obtain ⟨w, r, q⟩ := hl i y av e1 e2 hvis
    refine ⟨w, r, .inr ⟨hfr.2, ?_⟩⟩
    obtain ⟨c, h1, h2⟩ := look hfr.1
    rcases q with ⟨k, _⟩ | ⟨_, c', e', z⟩
    · have k : X.env.scope.names.lookup y = some .local := k
      rcases ok.free _ (PySem.mem_of_lookup hfr.1) rfl with k' | k' <;> rw [show X.env.scope.names.lookup y = _ from k'] at k <;> cases k
    · rw [h2] at e'; cases e'
      exact ⟨c, h1, z.keeps kp⟩
  · have e : cenv.cells.lookup y = some c := e
    rcases mem e with ⟨h1, _⟩ | ⟨_, z⟩
    · obtain ⟨w, z⟩ := I.cell y c h1
      exact ⟨w, z.keeps kp⟩
    · exact ⟨_, z⟩
  · show H cenv.locals = none
    rw [hL]; exact I.hok.fresh (Nat.le_refl _)
  · have e : cenv.cells.lookup y = some c := e
    rcases mem e with ⟨h1, _⟩ | ⟨h1, _⟩
    · exact I.freeC y c h1
    · exact I.hok.fresh (Nat.le_of_succ_le h1)
  · exact absurd (show p ∈ ([] : List (Addr × Obj)) ++ [] from hp) (by simp)

/-- an item appended to a tracked list -/
theorem app_ok {E : Value → Shared → Prop} {D : Addr} {xs : List V} {y : V} {v : Value} {Q : Value → Shared → Prop} (I : Inv X pins σ H s) (hD : H D = some (.lst xs)) (hz : xs.length < sizeLine) (r : RelV y v)
    (h : ∀ s', Inv X pins σ (upd H D (.lst (xs ++ [y]))) s' → Q .none s') : wpAny (model X.prog X.w) X.A (call (.builtin "list.append") [.ref D, v]) Q E s := by
  obtain ⟨hz', its, n, ri, e⟩ := I.hok D _ hD
  have hl := ri.length
  refine append_at (hsz := by rw [List.size_toArray]; omega) e fun h' sb ho' => ?_
  refine h { s with heap := h' } (I.write (t' := s.toks) (by rw [hD]; trivial) (.inl rfl) (fun b u hb q => (sb.2 b hb).trans q) ⟨_, ho'⟩ ⟨by rw [List.length_append]; exact hz, its ++ [v], n + 1, ri.append (.cons r .nil), ?_⟩)
  rw [ho']
  simp

/-- a clause's tests -/
def PTs (X : Cx) (ifs : List Expr) (t : TT) : Prop :=
  ∀ (pins : List (Addr × Obj)) (s : Shared) (σ : St) (H : Hp) (Q : Bool → Hp → Prop), Inv X pins σ H s → t σ H Q →
    wpAny (model X.prog X.w) X.A (forIn ifs true fun c r => if r = true then do let ok ← isTrue c X.env (eval c X.env); pure (ForInStep.yield ok) else pure (ForInStep.yield r)) (TP X pins σ Q) X.xe s
def tYes : TT := fun _ H Q => Q true H
theorem pts_nil : PTs X [] tYes := fun _ _ _ H _ I h => wpAny_tests_nil ⟨H, I, h⟩
end

theorem thnF {α : Type} {t : Sem α} {Q Q' : α → Shared → Prop} {M : Model} {A : Around} {E : Value → Shared → Prop} {s : Shared} (h : wpAny M A t Q (fun _ _ => False) s) (hQ : ∀ a s, Q a s → Q' a s) : wpAny M A t Q' E s := wpAny_mono h hQ fun _ _ z => False.elim z

/-- the loop of a list comprehension's block, the target of any form (codeAny_compLoop_tests asks a target that no tuple goes to; statement and proof follow it, PyProof/CompMap.lean:41-61, with the step letOwnedTupleGo kept) -/
theorem compLoop_any {prog : Program} {w : World} {A : Around} {R : Result → Shared → Prop} {s : Shared} {elt target iter : Expr} {ifs : List Expr} {scope : Scope} {pos : Pos} {it acc : Value} {env : Env} (I : Nat → Shared → Prop)
    (turn : ∀ n s, I n s → wpAny (model prog w) A (pyNext it) (fun r s₁ => match r with
      | none => R (.ok .next) s₁
      | some v => wpAny (model prog w) A (letOwnedTupleGo target it v) (fun _ s₁' => wpAny (model prog w) A (assign target env v) (fun _ s₂ =>
          wpAny (model prog w) A (forIn ifs true fun c r => if r = true then do let ok ← isTrue c env (eval c env); pure (ForInStep.yield ok) else pure (ForInStep.yield r)) (fun ok s₃ =>
            if ok = true then wpAny (model prog w) A (eval elt env) (fun x s₄ =>
              wpAny (model prog w) A (call (.builtin "list.append") [acc, x]) (fun _ s₅ => ∃ m, m < n ∧ I m s₅) (notedBy (model prog w) A env fun e s' => R (.error e) s') s₄) (notedBy (model prog w) A env fun e s' => R (.error e) s') s₃
            else ∃ m, m < n ∧ I m s₃) (notedBy (model prog w) A env fun e s' => R (.error e) s') s₂) (notedBy (model prog w) A env fun e s' => R (.error e) s') s₁') (notedBy (model prog w) A env fun e s' => R (.error e) s') s₁) (notedBy (model prog w) A env fun e s' => R (.error e) s') s)
    (n : Nat) (h : I n s) :
    codeAny (model prog w) A (.compLoop (.ListComp elt [⟨target, iter, ifs, 0⟩] scope pos) 0 it acc env) R s := by
  refine codeAny_loop rfl I (fun n s hI => ?_) n h
  show wpAny _ A ((compTurn (.ListComp elt [⟨target, iter, ifs, 0⟩] scope pos) 0 it acc env).onRaise (fun x => do noteFrame x env; theTreesLotGoes x)) _ _ s
  refine wpAny_noted ?_
  rw [compTurn_list]
  refine wpAny_bind (wpAny_standAt (wpAny_bind (wpAny_mono (turn n s hI) (fun r s₁ h₁ => ?_) fun _ _ h' => h')))
  cases r with
  | none => exact wpAny_pure h₁
  | some v =>
    refine wpAny_bind (wpAny_mono h₁ (fun _ s₁' h₁' => ?_) fun _ _ h' => h')
    refine wpAny_bind (wpAny_mono h₁' (fun _ s₂ h₂ => wpAny_bind (wpAny_mono h₂ (fun ok s₃ h₃ => ?_) fun _ _ h' => h')) fun _ _ h' => h')
    cases ok with
    | false => exact wpAny_pure ⟨rfl, h₃⟩
    | true =>
      exact wpAny_bind (wpAny_bind (wpAny_mono h₃ (fun x s₄ h₄ => wpAny_bind (wpAny_mono h₄ (fun _ s₅ h₅ => wpAny_pure (wpAny_pure ⟨rfl, h₅⟩)) fun _ _ h' => h')) fun _ _ h' => h'))

section
variable {X : Cx}
/-- [elt for target in iter if ..]: D the new list; W by the turn and a measure, Nx what a turn is to reach -/
def tLc (wi : TI) (g : TG) (tt : TT) (te : TE) (vs : List Nat) : TE := fun σ H Q => wi σ H fun J H1 => ∀ D, H1 D = none → ∃ W : Nat → Nat → Hp → Prop, (∃ m, W 0 m (upd H1 D (.lst []))) ∧ ∀ i m H, W i m H →
  (J.stop i H ∧ Q (.ref D) H) ∨ (J.go i H ∧ ∃ Nx : Hp → Prop, (∀ H', Nx H' → ∃ m', m' < m ∧ W (i + 1) m' H') ∧ ∀ x H', J.yld i H x H' → g x (wipe σ vs) H' fun σ2 H2 => wipe σ2 vs = wipe σ vs ∧ tt σ2 H2 fun b H3 =>
    if b = true then te σ2 H3 fun y H4 => ∃ acc, H4 D = some (.lst acc) ∧ acc.length < sizeLine ∧ Nx (upd H4 D (.lst (acc ++ [y]))) else Nx H3)
theorem lc_core {pins : List (Addr × Obj)} {s : Shared} {σ : St} {H : Hp} {Q : VK} {elt tg iter : Expr} {ifs : List Expr} {scope : Scope} {own : List (Str × Nat)} {pos pos' : Pos} {wi : TI} {g : TG} {tt : TT} {te : TE} {use : Option (Value → Sem Unit)} {Qf : Value → Shared → Prop}
    (hc : X.calm = true) (hN : X.N.Nodup) (I : Inv X pins σ H s) (hi : PI X tg iter wi) (ok : BlkOk X.N X.env.scope scope own)
    (hg : ∀ (s : Shared) (H : Hp) (C : Addr) (cl : List (Str × Addr)) (fp : List Addr), PG (X.blk s H scope (compEnvC scope cl C X.env) fp) tg g) (ht : ∀ (s : Shared) (H : Hp) (C : Addr) (cl : List (Str × Addr)) (fp : List Addr), PTs (X.blk s H scope (compEnvC scope cl C X.env) fp) ifs tt)
    (he : ∀ (s : Shared) (H : Hp) (C : Addr) (cl : List (Str × Addr)) (fp : List Addr), PE (X.blk s H scope (compEnvC scope cl C X.env) fp) elt te) (hs : ∀ x, foldedSetIterable iter X.env x = pure x)
    (h : tLc wi g tt te (own.map (·.2)) σ H Q)
    (hRR : ∀ D C s' m H', Inv X pins σ H' s' → Q (.ref D) H' → s'.heap.Ns C m → FpOk X pins H' C → compPost (model X.prog X.w) X.A X.xe use Qf (.ref D) C (.ok .next) s') :
    wpAny (model X.prog X.w) X.A (comprehension (.ListComp elt [⟨tg, iter, ifs, 0⟩] scope pos) scope X.env pos' (newList []) false (eval iter X.env) use) Qf X.xe s := by
  have hfree : ∀ y ∈ scope.names, y.2 = .free → ∃ c, X.env.cells.lookup y.1 = some c := fun y hy e => by
    rcases ok.free y hy e with k | k
    · exact I.ok.has _ (.inl k)
    · exact I.ok.has _ (.inr k)
  refine wpAny_comprehension_free (use := use) rfl hs (closure_ok hfree) ok.kind (fun y hy e => by rw [ok.uniq y hy, e])
    (thn (hi pins s σ H _ I h) fun xv s1 hx => thn hx fun itv s2 h2 => ?_)
  obtain ⟨it, fp, tn, J, H2, e, I2, T, st2, f2, q⟩ := h2
  subst e
  refine wpAny_newObj_type (newEnv_comp ?_) (by show 0 ≤ sizeLine; decide)
  generalize hD : s2.heap.objs.size = D
  have hDn : H2 D = none := I2.hok.fresh (Nat.le_of_eq hD)
  obtain ⟨W, ⟨m0, w0⟩, turn⟩ := q D hDn
  -- the new list
  generalize hs3 : ({ s2 with heap := s2.heap.push { cls := .type "list", data := .seq ([] : List Value).toArray } } : Shared) = s3
  have I3 : Inv X pins σ (upd H2 D (.lst [])) s3 := by
    rw [← hs3]
    refine I2.laid (t' := s2.toks) (fun b o e => Heap.get?_push_of_some _ e) (Nat.le_of_eq hD) ⟨Nat.zero_le _, [], 0, .nil, ?_⟩
    rw [← hD]
    exact Heap.get?_push_size _ rfl
  have h3 : s3.heap = s2.heap.push { cls := .type "list", data := .seq ([] : List Value).toArray } := by rw [← hs3]
  have sz : ∀ b ∈ fp, b < s2.heap.objs.size := fun b hb => by
    obtain ⟨o, e, _⟩ := T.obj _ _ st2 b hb
    exact Heap.lt_size e
  have f3 : ∀ b ∈ fp, FpOk X pins (upd H2 D (.lst [])) b ∧ b < s3.heap.objs.size := fun b hb => by
    have hlt := sz b hb
    refine ⟨⟨?_, (f2 b hb).2⟩, by rw [h3, Heap.size_push]; exact Nat.lt_succ_of_lt hlt⟩
    rw [upd_ne (by rw [← hD]; exact Nat.ne_of_lt hlt)]
    exact (f2 b hb).1
  have st3 : tn 0 s3.heap := T.keep _ _ _ st2 fun b _ o e => by rw [h3]; exact Heap.get?_push_of_some _ e
  have I4 := block_start I3 ok hN f3
  have pg := hg s3 (upd H2 D (.lst [])) s3.heap.objs.size (cellsFrom (s3.heap.objs.size + 1) scope.names (cloFrom X.env.cells scope.names [])) fp
  have pt := ht s3 (upd H2 D (.lst [])) s3.heap.objs.size (cellsFrom (s3.heap.objs.size + 1) scope.names (cloFrom X.env.cells scope.names [])) fp
  have pe := he s3 (upd H2 D (.lst [])) s3.heap.objs.size (cellsFrom (s3.heap.objs.size + 1) scope.names (cloFrom X.env.cells scope.names [])) fp
  show codeAny _ _ (.compStart (.ListComp elt [⟨tg, iter, ifs, 0⟩] scope pos) 0 (.ref it) (.ref D) (compEnvC scope (cellsFrom (s3.heap.objs.size + 1) scope.names (cloFrom X.env.cells scope.names [])) s3.heap.objs.size X.env)) (compPost (model X.prog X.w) X.A X.xe use Qf (.ref D) s3.heap.objs.size) { s3 with heap := pushCells (s3.heap.push { cls := .type "dict", data := .dict #[] }) scope.names }
  have nfp : ∀ b ∈ fp, (upd H2 D (.lst [])) b = none := fun b hb => (f3 b hb).1.1
  generalize hce : compEnvC scope (cellsFrom (s3.heap.objs.size + 1) scope.names (cloFrom X.env.cells scope.names [])) s3.heap.objs.size X.env = ce at I4 pg pt pe ⊢
  have cL : ce.locals = s3.heap.objs.size := by subst hce; rfl
  generalize hH3 : upd H2 D (.lst []) = H3 at I3 I4 pg pt pe w0 nfp f3
  generalize hs4 : ({ s3 with heap := pushCells (s3.heap.push { cls := .type "dict", data := .dict #[] }) scope.names } : Shared) = s4 at I4 ⊢
  have st4 : tn 0 s4.heap := T.keep _ _ _ st3 fun b _ o e => by rw [← hs4]; exact pushCells_keeps _ _ _ _ (Heap.get?_push_of_some _ e)
  have stat : ∀ {σ' : St} {H' : Hp} {s' : Shared}, Inv (X.blk s3 H3 scope ce fp) [] σ' H' s' → (∀ b ∈ fp, H' b = none) → ∀ b ∈ fp, FpOk (X.blk s3 H3 scope ce fp) [] H' b := fun {σ' H' s'} I' hn b hb =>
    ⟨hn b hb, (I'.ok.exf b hb).1, I'.ok.exfs b hb, .inl hb, fun x c e => (I'.ok.exf b hb).2 x c e, fun p hp => absurd (show p ∈ ([] : List (Addr × Obj)) ++ [] from hp) (by simp)⟩
  have loop : codeAny (model X.prog X.w) X.A (.compLoop (.ListComp elt [⟨tg, iter, ifs, 0⟩] scope pos) 0 (.ref it) (.ref D) ce) (compPost (model X.prog X.w) X.A X.xe use Qf (.ref D) s3.heap.objs.size) s4 := by
    refine compLoop_any (fun n s' => ∃ i H', Inv (X.blk s3 H3 scope ce fp) [] (wipe σ (own.map (·.2))) H' s' ∧ tn i s'.heap ∧ (∀ b ∈ fp, H' b = none) ∧ W i n H') ?_ m0 ⟨0, H3, I4, st4, nfp, w0⟩
    rintro n s5 ⟨i, H5, I5, st5, n5, w5⟩
    rcases turn i n H5 w5 with ⟨stop, qq⟩ | ⟨go, Nx, hNx, step⟩
    · have td := T.done (X.blk s3 H3 scope ce fp) rfl rfl rfl hc i [] s5 _ H5 (fun _ _ => False) I5 (stat I5 n5) st5 stop
      refine thnF td fun r s6 ⟨hr, I6⟩ => ?_
      subst hr
      -- back in the def's context
      have I7 : Inv X pins σ H5 s6 := I3.call' (ch := fp) I6.os I6.base I6.hok I6.bare fun b hb => ⟨(f3 b hb).1.2.2.2.1, (f3 b hb).1.2.1, (f3 b hb).1.2.2.2.2.1, (f3 b hb).1.2.2.2.2.2⟩
      have nC : H5 s3.heap.objs.size = none := by
        have z : H5 ce.locals = none := I6.free
        rw [cL] at z
        exact z
      obtain ⟨m, hn, _⟩ := I6.loc
      have hn : s6.heap.Ns ce.locals m := hn
      rw [cL] at hn
      exact hRR D s3.heap.objs.size s6 m H5 I7 qq hn (I3.fpOk (Nat.le_refl _) nC)
    · have ti := T.item (X.blk s3 H3 scope ce fp) rfl rfl rfl hc i [] s5 _ H5 (fun _ _ => False) I5 (stat I5 n5) st5 go
      refine thnF ti fun r s6 ⟨u, hr, h6⟩ => ?_
      subst hr
      refine thnF h6 fun _ s7 ⟨x, H7, I7, r7, y7, st7, n7⟩ => ?_
      have I7' := I7.pinned (stat I7 n7) (T.obj _ _ st7)
      refine thnF (pg _ s7 _ H7 x u _ I7' r7 (step x H7 y7)) fun _ s8 ⟨σ8, H8, I8, hw8, q8⟩ => ?_
      refine thnF (pt _ s8 σ8 H8 _ I8 q8) fun b s9 ⟨H9, I9, q9⟩ => ?_
      -- the turn's end
      have fin : ∀ {s' : Shared} {H' : Hp}, Inv (X.blk s3 H3 scope ce fp) ([] ++ pinsAt fp s7.heap) σ8 H' s' → Nx H' → ∃ m, m < n ∧ ∃ i H', Inv (X.blk s3 H3 scope ce fp) [] (wipe σ (own.map (·.2))) H' s' ∧ tn i s'.heap ∧ (∀ b ∈ fp, H' b = none) ∧ W i m H' := fun {s' H'} I' nx => by
        obtain ⟨m', hm, w'⟩ := hNx H' nx
        have pin' : ∀ b ∈ fp, ∀ o, s7.heap.get? b = some o → s'.heap.get? b = some o ∧ H' b = none := fun b hb o e =>
          let z := I'.pin (b, o) (List.mem_append_right _ (List.mem_append_right _ (mem_pinsAt hb e)))
          ⟨z.1, z.2.1⟩
        have hl : (wipe σ (own.map (·.2))).length = σ8.length := by rw [← hw8, wipe_length]
        refine ⟨m', hm, i + 1, H', (I'.unpinned (pins := [])).weak hl (fun j v e => ?_), T.keep _ _ _ st7 fun b hb o e => (pin' b hb o e).1, fun b hb => ?_, w'⟩
        · rw [← hw8] at e
          exact (wipe_some e).1
        · obtain ⟨o, e, _⟩ := T.obj _ _ st7 b hb
          exact (pin' b hb o e).2
      cases b with
      | false =>
        simp only [Bool.false_eq_true, if_false] at q9 ⊢
        exact fin I9 q9
      | true =>
        simp only [if_true] at q9 ⊢
        refine thnF (pe _ s9 σ8 H9 _ I9 q9) fun z s10 ⟨yv, H10, I10, r10, acc, hD10, hz10, nx⟩ => ?_
        exact app_ok (X := X.blk s3 H3 scope ce fp) I10 hD10 hz10 r10 fun s11 I11 => fin I11 nx
  exact codeAny_compStart_list loop (T.self X.A 0 _ _ _ st4 loop)
/-- as a value -/
theorem pe_lc {elt tg iter : Expr} {ifs : List Expr} {scope : Scope} {own : List (Str × Nat)} {pos : Pos} {wi : TI} {g : TG} {tt : TT} {te : TE} (hc : X.calm = true) (hN : X.N.Nodup) (hi : PI X tg iter wi) (ok : BlkOk X.N X.env.scope scope own)
    (hg : ∀ (s : Shared) (H : Hp) (C : Addr) (cl : List (Str × Addr)) (fp : List Addr), PG (X.blk s H scope (compEnvC scope cl C X.env) fp) tg g) (ht : ∀ (s : Shared) (H : Hp) (C : Addr) (cl : List (Str × Addr)) (fp : List Addr), PTs (X.blk s H scope (compEnvC scope cl C X.env) fp) ifs tt)
    (he : ∀ (s : Shared) (H : Hp) (C : Addr) (cl : List (Str × Addr)) (fp : List Addr), PE (X.blk s H scope (compEnvC scope cl C X.env) fp) elt te) (hs : ∀ x, foldedSetIterable iter X.env x = pure x := by intro _; rfl) :
    PE X (.ListComp elt [⟨tg, iter, ifs, 0⟩] scope pos) (tLc wi g tt te (own.map (·.2))) := by
  intro pins s σ H Q I h
  rw [eval_ListComp]
  refine lc_core hc hN I hi ok hg ht he hs h fun D C s' m H' I' q hn f => ⟨m, hn, fun h'' sb => ?_⟩
  obtain ⟨f0, f1, f2, f3, f4, f5⟩ := f
  exact ⟨.ref D, H', I'.turned (t' := s'.toks) (fun b o hb e => (sb.2 b hb).trans e) f0 f1 f3 f4 f5, rfl, q⟩
end

/-- over a range: Pv by the turn and the heap (the new list at D within) -/
theorem lc_range {lo : Int} {n : Nat} {g : TG} {tt : TT} {te : TE} {vs : List Nat} {σ : St} {H1 : Hp} {D : Addr} {Qd : Hp → Prop} (Pv : Nat → Hp → Prop) (h0 : Pv 0 (upd H1 D (.lst [])))
    (hs : ∀ i H, i < n → Pv i H → g (.int (lo + i)) (wipe σ vs) H fun σ2 H2 => wipe σ2 vs = wipe σ vs ∧ tt σ2 H2 fun b H3 =>
      if b = true then te σ2 H3 fun y H4 => ∃ acc, H4 D = some (.lst acc) ∧ acc.length < sizeLine ∧ Pv (i + 1) (upd H4 D (.lst (acc ++ [y]))) else Pv (i + 1) H3) (hd : ∀ H, Pv n H → Qd H) :
    ∃ W : Nat → Nat → Hp → Prop, (∃ m, W 0 m (upd H1 D (.lst []))) ∧ ∀ i m H, W i m H →
      ((Itr lo n).stop i H ∧ Qd H) ∨ ((Itr lo n).go i H ∧ ∃ Nx : Hp → Prop, (∀ H', Nx H' → ∃ m', m' < m ∧ W (i + 1) m' H') ∧ ∀ x H', (Itr lo n).yld i H x H' → g x (wipe σ vs) H' fun σ2 H2 => wipe σ2 vs = wipe σ vs ∧ tt σ2 H2 fun b H3 =>
        if b = true then te σ2 H3 fun y H4 => ∃ acc, H4 D = some (.lst acc) ∧ acc.length < sizeLine ∧ Nx (upd H4 D (.lst (acc ++ [y]))) else Nx H3) := by
  refine ⟨fun i m H => m = n - i ∧ i ≤ n ∧ Pv i H, ⟨n, by simp, Nat.zero_le _, h0⟩, ?_⟩
  rintro i m H ⟨rfl, hi, p⟩
  by_cases hlt : i < n
  · refine .inr ⟨hlt, Pv (i + 1), fun H' p' => ⟨n - (i + 1), by omega, rfl, hlt, p'⟩, fun x H' y => ?_⟩
    obtain ⟨e, y⟩ := y
    subst e y
    exact hs i _ hlt p
  · have e : i = n := by omega
    subst e
    exact .inl ⟨Nat.le_refl _, hd H p⟩
/-- over a list that the block leaves as it is -/
theorem lc_list {K : PySem.W.Frag} {a : Addr} {xs : List V} {g : TG} {tt : TT} {te : TE} {vs : List Nat} {σ : St} {H1 : Hp} {D : Addr} {Qd : Hp → Prop} (Pv : Nat → Hp → Prop) (h0 : Pv 0 (upd H1 D (.lst []))) (hl : ∀ i H, i ≤ xs.length → Pv i H → SqL K H a xs)
    (hs : ∀ i x H, xs[i]? = some x → Pv i H → g x (wipe σ vs) H fun σ2 H2 => wipe σ2 vs = wipe σ vs ∧ tt σ2 H2 fun b H3 =>
      if b = true then te σ2 H3 fun y H4 => ∃ acc, H4 D = some (.lst acc) ∧ acc.length < sizeLine ∧ Pv (i + 1) (upd H4 D (.lst (acc ++ [y]))) else Pv (i + 1) H3) (hd : ∀ H, Pv xs.length H → Qd H) :
    ∃ W : Nat → Nat → Hp → Prop, (∃ m, W 0 m (upd H1 D (.lst []))) ∧ ∀ i m H, W i m H →
      ((Itl K a).stop i H ∧ Qd H) ∨ ((Itl K a).go i H ∧ ∃ Nx : Hp → Prop, (∀ H', Nx H' → ∃ m', m' < m ∧ W (i + 1) m' H') ∧ ∀ x H', (Itl K a).yld i H x H' → g x (wipe σ vs) H' fun σ2 H2 => wipe σ2 vs = wipe σ vs ∧ tt σ2 H2 fun b H3 =>
        if b = true then te σ2 H3 fun y H4 => ∃ acc, H4 D = some (.lst acc) ∧ acc.length < sizeLine ∧ Nx (upd H4 D (.lst (acc ++ [y]))) else Nx H3) := by
  refine ⟨fun i m H => m = xs.length - i ∧ i ≤ xs.length ∧ Pv i H, ⟨xs.length, by simp, Nat.zero_le _, h0⟩, ?_⟩
  rintro i m H ⟨rfl, hi, p⟩
  have q := hl i H hi p
  by_cases hlt : i < xs.length
  · refine .inr ⟨⟨xs, xs[i], q, by simp [hlt]⟩, Pv (i + 1), fun H' p' => ⟨xs.length - (i + 1), by omega, rfl, hlt, p'⟩, fun x H' y => ?_⟩
    obtain ⟨e, y⟩ := y
    subst e
    exact hs i x _ (y xs q) p
  · have e : i = xs.length := by omega
    subst e
    exact .inl ⟨⟨xs, q, Nat.le_refl _⟩, hd H p⟩
def blkC (N : List Str) (sc scope : Scope) (own : List (Str × Nat)) : Bool :=
  (match scope.kind with | .function => true | _ => false) && (scope.names.all fun y => decide (scope.names.lookup y.1 = some y.2)) && (own.all fun p => decide (N[p.2]? = some p.1)) &&
    (scope.names.all fun y => match y.2 with
      | .free => (match sc.names.lookup y.1 with | some .cell => true | some .free => true | _ => false)
      | .local => decide (y.1 ∈ own.map (·.1)) || decide (y.1 ∉ N)
      | .cell => decide (y.1 ∈ own.map (·.1)) || decide (y.1 ∉ N)
      | _ => true)
theorem blkOk_by {N : List Str} {sc scope : Scope} {own : List (Str × Nat)} (h : blkC N sc scope own = true) : BlkOk N sc scope own := by
  unfold blkC at h
  simp only [Bool.and_eq_true, List.all_eq_true, decide_eq_true_eq] at h
  obtain ⟨⟨⟨h1, h2⟩, h3⟩, h4⟩ := h
  refine ⟨?_, h2, h3, fun y hy e => ?_, fun y hy e => ?_⟩
  · split at h1
    · assumption
    · cases h1
  · have q := h4 y hy
    simp only [e] at q
    split at q <;> first | exact .inl (by assumption) | exact .inr (by assumption) | cases q
  · have q := h4 y hy
    rcases e with e | e <;> (simp only [e, Bool.or_eq_true, decide_eq_true_eq] at q; exact q)
end L2

namespace L2
open PySem PySem.Spec PyProof.Rows

section
variable {prog : Program} {w : World} {A : Around} {R : Result → Shared → Prop} {s : Shared} {elt t0 i0 t1 i1 : Expr} {ifs0 ifs1 : List Expr} {scope : Scope} {pos : Pos} {it acc : Value} {env : Env}
end

section
variable {X : Cx}
end
end L2

namespace L2
open PySem PySem.Spec PyProof.Rows

section
variable {κ : Type} [DecidableEq κ]
end


section
variable {P : Program} {w : World} {H : Hp} {h : Heap} {a : Addr}
end

section
variable {X : Cx} {pins : List (Addr × Obj)} {σ : St} {H : Hp} {s : Shared} {a : Addr} {y v : V} {u r : Value} {o : Option V} {A : Around} {E : Value → Shared → Prop}

end

section
variable {X : Cx} {pins : List (Addr × Obj)} {σ : St} {H : Hp} {s : Shared} {a : Addr} {kvs : List (Key × V)} {k : Key} {u : Value} {A : Around} {E : Value → Shared → Prop}
end


section
variable {X : Cx} {o i e value : Expr} {pos pos' tpos : Pos} {td ty tv : TE}
end


section
variable {X : Cx} {pos : Pos}
end

section
variable {X : Cx} {pins : List (Addr × Obj)} {σ : St} {H : Hp} {s : Shared} {a : Addr} {y d : V} {u r : Value} {o : Option V} {A : Around} {E : Value → Shared → Prop}
end

section
variable {X : Cx} {o e f : Expr} {apos cpos : Pos} {td ty tx : TE}
end

section
variable {X : Cx} {pins : List (Addr × Obj)} {σ : St} {H : Hp} {s : Shared} {a : Addr} {kvs : List (Key × V)} {A : Around} {E : Value → Shared → Prop}
end


section
variable {X : Cx} {pins : List (Addr × Obj)} {σ : St} {H : Hp} {s : Shared} {a : Addr} {y : V} {u : Value} {A : Around} {E : Value → Shared → Prop}
end
end L2

namespace L2
open PySem PySem.Spec PyProof.Rows

section
variable {prog : Program} {w : World} {A : Around} {E : Value → Shared → Prop}
end

section
variable {X : Cx}
end
end L2

namespace L2
open PySem PySem.Spec PyProof.Rows

section
variable {X : Cx} {pins : List (Addr × Obj)} {σ : St} {H : Hp} {s : Shared} {h' : Heap}
/-- .. and one new object is laid -/
theorem Inv.turnedNew {t' : Nat} {ch : List Addr} {T : Addr} {ob : HO} (I : Inv X pins σ H s) (k : ∀ b o, b ∉ ch → s.heap.get? b = some o → h'.get? b = some o) (hf : ∀ b ∈ ch, FpOk X pins H b) (hT : s.heap.objs.size ≤ T)
    (new : ObjOk X.prog X.w (upd H T ob) h' T ob) : Inv X pins σ (upd H T ob) { s with heap := h', toks := t' } := by
  have hn : H T = none := I.hok.fresh hT
  have nit : ∀ b u, H b = some u → b ∉ ch := fun b u e z => by
    have q := (hf b z).1
    rw [q] at e; cases e
  refine I.step (g' := s.gens) (d' := s.drawn) (ch := ch) (fun b hb => ⟨(hf b hb).2.2.2.1, (hf b hb).2.1, (hf b hb).2.2.2.2.1, (hf b hb).2.2.2.2.2⟩) (fun b o _ _ hc e _ => k b o hc e) (fun b o _ _ hc e _ => ⟨o.slots, k b o hc e⟩)
    (fun b o _ e n => ?_) (fun b o hc e => ⟨o, k b o hc e⟩) (fun b xs e => ?_) (fun b o u e => ?_) (fun b ps e => ⟨#[], ?_⟩) (fun m hm => ?_) (fun b u e => ?_) I.bare
  · rw [upd_ne (Nat.ne_of_lt (Nat.lt_of_lt_of_le (Heap.lt_size e) hT))]; exact n
  · rw [upd_ne (ne_of_none e hn)]; exact e
  · rw [upd_ne (ne_of_none e hn)]; exact e
  · rw [upd_ne (ne_of_none e hn), e]; simp
  · obtain ⟨o, es, ep, ho, r⟩ := hm
    exact ⟨o, es, ep, k _ o (fun z => (hf _ z).2.1 rfl) ho, r⟩
  · by_cases hb : b = T
    · subst hb
      rw [upd_same] at e
      cases e
      exact new
    · rw [upd_ne hb] at e
      refine (I.hok b u e).stay (fun c v hc q => k c v ?_ q) (fun c q => by rw [upd_ne (ne_of_none q hn)]; exact q) fun c xs q => by rw [upd_ne (ne_of_none q hn)]; exact q
      rcases hc with z | z
      · rw [z]; exact nit b u e
      · exact nit c _ z

end
section
variable {X : Cx}
theorem pi_one {tg : Expr} {pins : List (Addr × Obj)} {σ : St} {H : Hp} {s : Shared} {R : It → Hp → Prop} {J : It} {tn : Nat → Heap → Prop} {tk : Nat} (I : Inv X pins σ H s) (o : Obj)
    (T : Turn X.prog X.w X.K tg J [s.heap.objs.size] s.heap.objs.size tn) (st : tn 0 (s.heap.push o)) (q : R J H) : PIE X pins σ tg R (.ref s.heap.objs.size) { s with heap := s.heap.push o, toks := tk } := by
  refine ⟨s.heap.objs.size, [s.heap.objs.size], tn, J, H, rfl, I.kept fun b ob e => Heap.get?_push_of_some _ e, T, st, fun b hb => ?_, q⟩
  have e : b = s.heap.objs.size := by simpa using hb
  subst e
  exact I.fpOk (Nat.le_refl _) (I.hok.fresh (Nat.le_refl _))
end

/-- lo, lo + c, .. (n of them) -/
def Itc (lo c : Int) (n : Nat) : It := ⟨fun i _ => i < n, fun i H x H' => H' = H ∧ x = .int (lo + (i : Nat) * c), fun i _ => n ≤ i⟩
theorem turn_rangeC {P : Program} {w : World} {K : PySem.W.Frag} {tg : Expr} (it : Addr) (lo c : Int) (n : Nat) : Turn P w K tg (Itc lo c n) [it] it (fun i h => IsRangeIter h it (lo + (i : Nat) * c) ((n : Int) - (i : Nat)) c) where
  mem := by simp
  obj := fun i h st b hb => by
    have e : b = it := by simpa using hb
    subst e
    exact ⟨_, st, fun v z => nomatch z⟩
  keep := fun i h h' st k => k it (by simp) _ st
  item := by
    intro X hP hw hK hc i pins s σ H E I hf st hg
    subst hP hw hK
    obtain ⟨f0, f1, f2, f3, f4, f5⟩ := hf it (by simp)
    have W := Walks.range (prog := X.prog) (w := X.w) (I.ok.hd hc) it lo c n
    refine W.item i s _ _ hg st fun v h' tk hv st' kk => ?_
    obtain ⟨t, rfl⟩ := hv
    have I1 : Inv X pins σ H { s with heap := h', toks := tk } := I.turned (fun b o hb e => kk b o (by simpa using hb) e) f0 f1 f3 f4 f5
    exact ⟨_, rfl, go_of (s := { s with heap := h', toks := tk }) (n := "range_iterator") st' rfl rfl (by decide) ⟨.int (lo + (i : Nat) * c), H, I1, ⟨t, rfl⟩, ⟨rfl, rfl⟩, st', fun b hb => (hf b hb).1⟩⟩
  done := by
    intro X hP hw hK hc i pins s σ H E I hf st hg
    subst hP hw hK
    obtain ⟨f0, f1, f2, f3, f4, f5⟩ := hf it (by simp)
    exact wpAny_pyNext_range_end (I.ok.hd hc) st (by have : n ≤ i := hg; omega) fun h' eb => ⟨rfl, I.turned (t' := s.toks) (fun b o hb e => eb b o hb e) f0 f1 f3 f4 f5⟩
  self := fun A i s Q E st h => wpAny_pyIter_rangeiter st h
/-- range(i, j, c): small bounds, n items -/
def RgC (i j c : Int) (n : Nat) : Prop := c ≠ 0 ∧ c.natAbs < 1073741824 ∧ Builtin.Range.small i j c = true ∧ Builtin.Range.rangeSize i j c = n
def iRng3 (ta : TA) : TI := fun σ H R => ta σ H fun vs H1 => ∃ (i j c : Int) (n : Nat), vs = [.int i, .int j, .int c] ∧ RgC i j c n ∧ R (Itc i c n) H1
section
variable {X : Cx} {tg : Expr}
theorem pi_range3 {a b c : Expr} {ta : TA} {p pos : Pos} (hg : Gl X "range") (hm : X.mg "range" = none) (ha : PA X [a, b, c] ta)
    (hs : starEach [a, b, c] X.env = (false, eval a X.env) :: starEach [b, c] X.env := by rfl) (hpl : (backTo pos (starEach [b, c] X.env)).any (·.1) = false := by rfl) :
    PI X tg (.Call (.Name "range" p) [a, b, c] [] pos) (iRng3 ta) := by
  intro pins s σ H R I h
  refine Call_ (ld_blt I hg hm boot_range (PyProof.Rows.callWith_type1 (thn (ha pos pins s σ H _ I h) fun us s1 ⟨vs, H1, I1, r1, q1⟩ => ?_) hs hpl))
  obtain ⟨i, j, k, n, e, ⟨c0, c1, c2, c3⟩, q⟩ := q1
  subst e
  cases r1 with
  | cons r rr =>
    cases rr with
    | cons r' rr =>
      cases rr with
      | cons r'' rr =>
        cases rr
        obtain ⟨t, rfl⟩ := r
        obtain ⟨t', rfl⟩ := r'
        obtain ⟨t'', rfl⟩ := r''
        refine call_range_3 c0 ?_ (.inl (PyProof.noPylong_small c1))
        refine wpAny_pyIter_range (IsRange.new ..) c2 ?_
        have I2 : Inv X pins σ H1 { s1 with heap := s1.heap.push { cls := .type "range", data := .fields #[.int i t, .int j t', .int k t''] } } := I1.kept (t' := s1.toks) fun b o e => Heap.get?_push_of_some _ e
        refine pi_one (tk := s1.toks) I2 _ (turn_rangeC _ i k n) ?_ q
        have e1 : i + ((0 : Nat) : Int) * k = i := by simp
        have e2 : (n : Int) - ((0 : Nat) : Int) = Builtin.Range.rangeSize i j k := by rw [c3]; simp
        show IsRangeIter _ _ (i + ((0 : Nat) : Int) * k) ((n : Int) - ((0 : Nat) : Int)) k
        rw [e1, e2]
        exact Heap.get?_push_size _ rfl
end
/-- the turns of a step range, for the for loop -/
theorem for_rangeC {lo c : Int} {n : Nat} {g : TG} {tb : TS} {D : Ends} {σ : St} {H : Hp} (Pv : Nat → St → Hp → Prop) (h0 : Pv 0 σ H)
    (hs : ∀ i σ H, i < n → Pv i σ H → g (.int (lo + (i : Nat) * c)) σ H fun σ2 H2 => tb { D with nx := Pv (i + 1), ct := Pv (i + 1), bk := D.nx } σ2 H2) (hd : ∀ σ H, Pv n σ H → D.nx σ H) :
    ∃ W : Nat → Nat → St → Hp → Prop, (∃ m, W 0 m σ H) ∧ ∀ i m σ H, W i m σ H →
      ((Itc lo c n).stop i H ∧ D.nx σ H) ∨ ((Itc lo c n).go i H ∧ ∃ N : St → Hp → Prop, (∀ σ' H', N σ' H' → ∃ m', m' < m ∧ W (i + 1) m' σ' H') ∧ ∀ x H', (Itc lo c n).yld i H x H' → g x σ H' fun σ2 H2 => tb { D with nx := N, ct := N, bk := D.nx } σ2 H2) := by
  refine ⟨fun i m σ H => m = n - i ∧ i ≤ n ∧ Pv i σ H, ⟨n, by simp, Nat.zero_le _, h0⟩, ?_⟩
  rintro i m σ H ⟨rfl, hi, p⟩
  by_cases hlt : i < n
  · refine .inr ⟨hlt, Pv (i + 1), fun σ' H' p' => ⟨n - (i + 1), by omega, rfl, hlt, p'⟩, fun x H' y => ?_⟩
    obtain ⟨e, y⟩ := y
    subst e y
    exact hs i σ _ hlt p
  · have e : i = n := by omega
    subst e
    exact .inl ⟨Nat.le_refl _, hd σ H p⟩

section
variable {X : Cx} {tg : Expr}
end

section
variable {prog : Program} {w : World} {A : Around} {E : Value → Shared → Prop} {s : Shared}
end

section
variable {X : Cx} {pins : List (Addr × Obj)} {σ : St} {H : Hp} {s : Shared} {d : Addr} {o : Obj}
end

section
variable {P : Program} {w : World} {K : PySem.W.Frag} {tg : Expr} {d : Addr} {o : Obj} {es : Array DictEntry} {ep : Nat}
end

section
variable {X : Cx} {tg e : Expr} {td : TE} {apos cpos : Pos}
end

/-- the list at a as it stands at each turn, each item in a new pair -/
def Ite (K : PySem.W.Frag) (a : Addr) : It :=
  ⟨fun i H => ∃ (xs : List V) (x : V), SqL K H a xs ∧ xs[i]? = some x, fun i H v H' => ∃ T x, v = .ref T ∧ H T = none ∧ H' = upd H T (.tup [.int (i : Nat), x]) ∧ ∀ xs, SqL K H a xs → xs[i]? = some x, fun i H => ∃ xs : List V, SqL K H a xs ∧ xs.length ≤ i⟩
theorem turn_enum {P : Program} {w : World} {K : PySem.W.Frag} {elts : List Expr} {kk : Nat} {tpos : Pos} (a e it : Addr) :
    Turn P w K (.Tuple elts kk tpos) (Ite K a) [e, it] e (fun i h => (∃ old, IsEnum h e it ((i : Nat) : Int) old) ∧ h.IsListIter it a i ∧ e ≠ it) where
  mem := by simp
  obj := fun i h st b hb => by
    obtain ⟨⟨old, he⟩, ⟨o, ho, hc, hd⟩, _⟩ := st
    have e' : b = e ∨ b = it := by simpa using hb
    rcases e' with z | z
    · rw [z]; exact ⟨_, he, fun v q => nomatch q⟩
    · rw [z]; exact ⟨o, ho, fun v q => by rw [hd] at q; cases q⟩
  keep := fun i h h' st k => let ⟨⟨old, he⟩, hi, hne⟩ := st; ⟨⟨old, k e (by simp) _ he⟩, hi.at fun o q => k it (by simp) o q, hne⟩
  item := by
    intro X hP hw hK hc i pins s σ H E I hf st hg
    subst hP hw hK
    obtain ⟨⟨old, he⟩, hit, hne⟩ := st
    obtain ⟨xs, x, hq, hx⟩ := hg
    obtain ⟨its, rv, p, hz⟩ := I.list hq
    obtain ⟨u, hu, ru⟩ := rv.get hx
    have hel : e < s.heap.objs.size := Heap.lt_size he
    have hil : it < s.heap.objs.size := by obtain ⟨_, q, _⟩ := hit; exact Heap.lt_size q
    refine wpAny_pyNext_enum_item he hit p.isList (x := u) (by simpa using hu) hne fun h' ho hit' hT hsz hk => ?_
    refine ⟨_, rfl, wpAny_letOwnedTupleGo_enum (s := { s with heap := h', toks := s.toks + 1 }) ho fun h'' he' sb => ?_⟩
    have hT2 : h''.get? s.heap.objs.size = some { cls := .type "tuple", data := .seq #[.int i s.toks, u] } := (sb.2 _ (Nat.ne_of_gt hel)).trans hT
    have new : ObjOk X.prog X.w (upd H s.heap.objs.size (.tup [.int (i : Nat), x])) h'' s.heap.objs.size (.tup [.int (i : Nat), x]) :=
      ⟨by show 2 ≤ sizeLine; decide, [.int i s.toks, u], .cons ⟨_, rfl⟩ (.cons ru .nil), ⟨_, hT2, rfl, _, rfl⟩⟩
    have I1 : Inv X pins σ (upd H s.heap.objs.size (.tup [.int (i : Nat), x])) { s with heap := h'', toks := s.toks + 1 } :=
      I.turnedNew (ch := [e, it]) (fun b ob hb q => (sb.2 b (fun z => hb (by simp [z]))).trans (hk b ob (fun z => hb (by simp [z])) (fun z => hb (by simp [z])) q)) hf (Nat.le_refl _) new
    refine ⟨.ref s.heap.objs.size, _, I1, rfl, ⟨_, x, rfl, I.hok.fresh (Nat.le_refl _), rfl, fun ys hy => by rw [I.list_inj hy hq]; exact hx⟩, ⟨⟨u, ?_⟩, hit'.at fun o q => (sb.2 it (Ne.symm hne)).trans q, hne⟩, fun b hb => ?_⟩
    · have e1 : ((i + 1 : Nat) : Int) = (i : Int) + 1 := by omega
      rw [e1]; exact he'
    · have hb' : b < s.heap.objs.size := by
        have e' : b = e ∨ b = it := by simpa using hb
        rcases e' with z | z
        · rw [z]; exact hel
        · rw [z]; exact hil
      rw [upd_ne (Nat.ne_of_lt hb')]
      exact (hf b hb).1
  done := by
    intro X hP hw hK hc i pins s σ H E I hf st hg
    subst hP hw hK
    obtain ⟨⟨old, he⟩, hit, hne⟩ := st
    obtain ⟨xs, hq, hx⟩ := hg
    obtain ⟨its, rv, p, hz⟩ := I.list hq
    obtain ⟨f0, f1, f2, f3, f4, f5⟩ := hf it (by simp)
    have hl := rv.length
    exact wpAny_pyNext_enum_end (I.ok.hd hc) he hit p.isList (by simp; omega) fun h' eb => ⟨rfl, I.turned (t' := s.toks) (fun b o hb q => eb b o hb q) f0 f1 f3 f4 f5⟩
  self := fun A i s Q E st h => let ⟨⟨_, he⟩, _⟩ := st; wpAny_pyIter_enum he h
def iEnum (K : PySem.W.Frag) (ta : TA) : TI := fun σ H R => ta σ H fun vs H1 => ∃ a xs, vs = [.ref a] ∧ SqL K H1 a xs ∧ R (Ite K a) H1
theorem pi_enum {X : Cx} {e : Expr} {ta : TA} {p pos tpos : Pos} {elts : List Expr} {kk : Nat} (hg : Gl X "enumerate") (hm : X.mg "enumerate" = none) (ha : PA X [e] ta) (hs : starEach [e] X.env = [(false, eval e X.env)] := by rfl) :
    PI X (.Tuple elts kk tpos) (.Call (.Name "enumerate" p) [e] [] pos) (iEnum X.K ta) := by
  intro pins s σ H R I h
  refine Call_ (ld_blt I hg hm boot_enumerate (PyProof.Rows.callWith_type1 (thn (ha pos pins s σ H _ I h) fun us s1 ⟨vs, H1, I1, r1, q1⟩ => ?_) hs rfl))
  obtain ⟨a, xs, ex, hq, q⟩ := q1
  subst ex
  cases r1 with
  | cons r rr =>
    cases rr
    cases r
    obtain ⟨its, rv, p', hz⟩ := I1.list hq
    refine call_enumerate_list p'.isList fun h' he hit hsz hk => wpAny_pyIter_enum he ?_
    have I2 : Inv X pins σ H1 { s1 with heap := h' } := I1.kept (t' := s1.toks) hk
    refine ⟨s1.heap.objs.size + 1, [s1.heap.objs.size + 1, s1.heap.objs.size], _, _, H1, rfl, I2, turn_enum a (s1.heap.objs.size + 1) s1.heap.objs.size, ⟨⟨.none, he⟩, hit, Nat.succ_ne_self _⟩, fun b hb => ?_, q⟩
    have e' : b = s1.heap.objs.size + 1 ∨ b = s1.heap.objs.size := by simpa using hb
    have hle : s1.heap.objs.size ≤ b := by
      rcases e' with z | z
      · rw [z]; exact Nat.le_add_right _ _
      · rw [z]; exact Nat.le_refl _
    exact I1.fpOk hle (I1.hok.fresh hle)
end L2

section 
namespace Bits
open PySem PyProof.Rows

theorem bitOr_pp {x y : Int} (hx : 0 ≤ x) (hy : 0 ≤ y) : Builtin.bitOr x y = ((x.toNat ||| y.toNat : Nat) : Int) := by
  have e := nat_or_add_and x.toNat y.toNat
  rw [bitOr_and, bitAnd_pp hx hy]
  omega
end Bits
end 

section 
namespace TL
open PySem PySem.Builtin PySem.Builtin.Str PySem.StrLaws

end TL
end 

namespace L2
open PySem PySem.Spec PyProof.Rows

section
variable {X : Cx} {pins : List (Addr × Obj)} {σ : St} {H : Hp} {s : Shared} {Q : VK}
end

section
variable {X : Cx}

end

section
variable {X : Cx} {o e : Expr} {to te : TE}
end
end L2

namespace L2
open PySem PySem.Spec PyProof.Rows

section
variable {X : Cx}
end

end L2

namespace Att
open PySem PySem.W PySem.Calls PyProof.Rows

section
variable {prog : Program} {w : World} {A : Around} {E : Value → Shared → Prop} {s : Shared} {K : Frag}

end
end Att

namespace L2
open PySem PySem.Spec PyProof.Rows

end L2

namespace L2
open PySem PySem.Spec PyProof.Rows

end L2

namespace L2
open PySem PySem.Spec PyProof.Rows

/-- the j-th statement of a class's body -/
def inClass (s : Stmt) (j : Nat) : Stmt := match s with
  | .ClassDef _ _ _ body _ _ _ _ _ _ _ => body.getD j (.Pass ⟨0, 0, 0, 0⟩)
  | _ => .Pass ⟨0, 0, 0, 0⟩
def defArgs (s : Stmt) : Arguments := match s with
  | .FunctionDef _ a _ _ _ _ _ _ _ _ => a
  | _ => { posonlyargs := [], args := [], vararg := none, kwonlyargs := [], kw_defaults := [], kwarg := none, defaults := [] }
def defBody (s : Stmt) : List Stmt := match s with
  | .FunctionDef _ _ b _ _ _ _ _ _ _ => b
  | _ => []
def defScope (s : Stmt) : Scope := match s with
  | .FunctionDef _ _ _ _ _ _ sc _ _ _ => sc
  | _ => { kind := .function, names := [], isGenerator := false, isCoroutine := false }

abbrev CX0 : CXT := fun _ _ _ _ _ _ => False
abbrev E0 : XK := fun _ _ _ => False
theorem pass0 {X : Cx} : Passes CX0 X E0 := fun _ _ _ _ _ _ _ h => h.elim

structure Fun (K : PySem.W.Frag) (x qual : Str) (st : Stmt) (f : Addr) (fd : FuncData) : Prop where
  ex : ∃ (oc : Value) (od : Option Addr) (kV doc pm : Value) (an : Option Addr) (cdv ct : Value) (osl : Array (Option Value)),
    fd = PySem.W.fnOf x qual (defArgs st) (defBody st) (defScope st) .none kV doc pm an cdv ct ∧ K.lookup f = some ⟨oc, od, .func fd, osl⟩ ∧ PySem.W.codeIn K cdv qual = true
  kp : PySem.W.keepIn K (.ref f) = true
section
variable {P : Program} {w : World} {K : PySem.W.Frag} {mg : Str → Option Value} {base : Heap}
/-- THE RULE for a def: its body as a term of rules, and the reading of that term -/
theorem Fun.ok {x qual : Str} {st : Stmt} {f : Addr} {fd : FuncData} {N ps : List Str} {k : Nat} {sp : Sp} (F : Fun K x qual st f fd) (S : FnScope N ps (defScope st)) (len : ∀ vs H Q E, sp vs H Q E → vs.length = ps.length)
    (hbody : ∀ (cdv : Value) (A : Around) (outer : List Env) (s : Shared) (H : Hp) (vs : List V) (Q : VK) (E : XK), Room k (A.deeper (envOfC qual (defScope st) s.heap.objs.size f cdv)) → sp vs H Q E →
      ∃ t, PSs (cxOf CX0 P w K mg base N qual (defScope st) f cdv A outer s H E).nox (defBody st) t ∧ t { nx := fun _ H' => Q .non H', rt := Q } (start N vs) H) : FnOk P w K mg base CX0 (k + 1) f fd ps sp := by
  obtain ⟨oc, od, kV, doc, pm, an, cdv, ct, osl, rfl, lk, hcd⟩ := F.ex
  refine fn_of lk hcd S len fun A outer s H vs Q E hr hsp => ?_
  obtain ⟨t, h, q⟩ := hbody cdv A outer s H vs Q E hr hsp
  exact ⟨t, h.nox, q⟩
/-- how its arguments bind (no defaults): h is «fun _ _ _ _ _ _ us hl => match us, hl with | [_, _], _ => rfl», one _ a parameter -/
theorem Fun.binds {x qual : Str} {st : Stmt} {f : Addr} {fd : FuncData} {ps : List Str} (F : Fun K x qual st f fd)
    (h : ∀ (kV doc pm : Value) (an : Option Addr) (cdv ct : Value) (us : List Value), us.length = ps.length → bindArgs (PySem.W.fnOf x qual (defArgs st) (defBody st) (defScope st) .none kV doc pm an cdv ct) ⟨us, []⟩ = pure (ps.zip us)) : Binds K fd ps [] := by
  obtain ⟨oc, od, kV, doc, pm, an, cdv, ct, osl, rfl, lk, hcd⟩ := F.ex
  exact .all (h kV doc pm an cdv ct)
theorem fun_mk {x qual : Str} {st : Stmt} {f : Addr} {oc : Value} {od an : Option Addr} {osl : Array (Option Value)} {kV doc pm cdv ct : Value} (l : K.lookup f = some ⟨oc, od, .func (PySem.W.fnOf x qual (defArgs st) (defBody st) (defScope st) .none kV doc pm an cdv ct), osl⟩)
    (c : PySem.W.codeIn K cdv qual = true) (k : PySem.W.keepIn K (.ref f) = true) : Fun K x qual st f (PySem.W.fnOf x qual (defArgs st) (defBody st) (defScope st) .none kV doc pm an cdv ct) := ⟨⟨oc, od, kV, doc, pm, an, cdv, ct, osl, rfl, l, c⟩, k⟩
end
section
variable {X : Cx}
theorem pv (i : Nat) {x : Str} {pos : Pos} (hN : X.N[i]? = some x := by rfl) (hv : Vis X.env.scope x := by first | exact Or.inl rfl | exact Or.inr (Or.inl rfl) | exact Or.inr (Or.inr rfl)) (hd : (x == ("__debug__" : Str)) = false := by decide)
    (hcd : (x == ("__classdict__" : Str)) = false := by decide) : PE X (.Name x pos) (tVar i) := pe_var hN hv hd hcd
end

theorem iteF {A B : Prop} (h : B) : if false = true then A else B := by
  rw [if_neg Bool.false_ne_true]
  exact h
theorem iteT {A B : Prop} (h : A) : if true = true then A else B := by
  rw [if_pos rfl]
  exact h
theorem ite2 {c A B : Prop} [Decidable c] (h1 : c → A) (h2 : ¬ c → B) : if c then A else B := by
  by_cases h : c
  · rw [if_pos h]
    exact h1 h
  · rw [if_neg h]
    exact h2 h
/-- all that was tracked is as it was -/
def Same (H H' : Hp) : Prop := ∀ b o, H b = some o → H' b = some o
theorem Same.refl (H : Hp) : Same H H := fun _ _ h => h
theorem Same.trans {H H1 H2 : Hp} (a : Same H H1) (b : Same H1 H2) : Same H H2 := fun c o h => b c o (a c o h)
theorem Same.seq {K : PySem.W.Frag} {H H' : Hp} {a : Addr} {xs : List V} (e : Same H H') (h : SqL K H a xs) : SqL K H' a xs := by
  rcases h with (h | ⟨o, h⟩) | h
  · exact .inl (.inl (e _ _ h))
  · exact .inl (.inr ⟨o, e _ _ h⟩)
  · exact .inr h

section
variable {κ : Type} [DecidableEq κ]
end
theorem at_of {xs : List V} {z : Int} {j : Nat} {v : V} (e : z = (j : Int)) (h : xs[j]? = some v) : atI xs z = some v := by
  rw [e]
  exact atI_nat h
/-- a new instance and its __init__ leave all that was tracked as it was -/
theorem Same.made {H H1 : Hp} {x dx C : Addr} (nx : H x = Option.none) (nd : H dx = Option.none) (k : ∀ b o, (upd (upd H dx (.own x)) x (.ins C dx [])) b = some o → b ≠ x → H1 b = some o) : Same H H1 := fun b o e =>
  k b o (by rw [upd_ne (ne_of_none e nx), upd_ne (ne_of_none e nd)]; exact e) (ne_of_none e nx)
end L2


section
set_option Elab.async false
set_option linter.all false
set_option maxRecDepth 100000
set_option maxHeartbeats 2000000
namespace L2
open PySem PySem.Spec PyProof.Rows
open PySem.W (WData Codec OpenSpec Well WellAll ReadsW ReadsAllW)
mutual
/-- x stands for the datum d, lists and tuples all the way -/
inductive Dw (K : PySem.W.Frag) (H : Hp) : V → WData → Prop
  | non : Dw K H .non .none
  | bl (b : Bool) : Dw K H (.bl b) (.bool b)
  | int (i : Int) : Dw K H (.int i) (.int i)
  | str (x : Str) : Dw K H (.str x) (.str x)
  | byt (b : Array UInt8) : Dw K H (.byt b) (.bytes b.toList)
  | lst {a : Addr} {xs : List V} {ds : List WData} : SqL K H a xs → DwAll K H xs ds → Dw K H (.ref a) (.list ds)
  | tup {a : Addr} {xs : List V} {ds : List WData} : SqT K H a xs → DwAll K H xs ds → Dw K H (.ref a) (.tuple ds)
inductive DwAll (K : PySem.W.Frag) (H : Hp) : List V → List WData → Prop
  | nil : DwAll K H [] []
  | cons {v : V} {vs : List V} {d : WData} {ds : List WData} : Dw K H v d → DwAll K H vs ds → DwAll K H (v :: vs) (d :: ds)
end
theorem dw_ints {K : PySem.W.Frag} {H : Hp} : ∀ ns : List Int, DwAll K H (ns.map V.int) (ns.map WData.int)
  | [] => .nil
  | n :: r => .cons (.int n) (dw_ints r)
theorem ints_dw {K : PySem.W.Frag} {H : Hp} : ∀ (ns : List Int) (xs : List V), DwAll K H xs (ns.map WData.int) → xs = ns.map V.int
  | [], xs, h => by
    cases h
    rfl
  | n :: r, xs, h => by
    cases h with
    | cons h1 h2 =>
      cases h1
      rw [ints_dw r _ h2] <;> rfl
section
variable {P : Program} {w : World} {K : PySem.W.Frag} {H : Hp} {h : Heap} {R : PySem.W.WRecords} {cl : Str → Option Addr}
theorem sqL_at {a : Addr} {xs : List V} (hok : HOk P w H h) (KX : K.In h) (q : SqL K H a xs) : ∃ (its : List Value) (o : Obj) (n : Nat), Vals xs its ∧ h.get? a = some o ∧ o.cls = .type "list" ∧ o.data = .seq its.toArray n := by
  rcases q with q | ⟨o, its, n, e, hc, _, hd, _, hv⟩
  · obtain ⟨_, its, n, hv, e⟩ := (show ObjOk P w H h a (.lst xs) from q.ok hok)
    exact ⟨its, _, n, hv, e, rfl, rfl⟩
  · exact ⟨its.toList, o, n, hv, KX _ _ e, hc, by simp [hd]⟩
theorem sqT_at {a : Addr} {xs : List V} (hok : HOk P w H h) (KX : K.In h) (q : SqT K H a xs) : ∃ (its : List Value) (o : Obj) (n : Nat), Vals xs its ∧ h.get? a = some o ∧ o.cls = .type "tuple" ∧ o.data = .seq its.toArray n := by
  rcases q with q | ⟨o, its, n, e, hc, hd, _, hv⟩
  · obtain ⟨_, its, hv, o, e, hc, n, hd⟩ := (show ObjOk P w H h a (.tup xs) from q.ok hok)
    exact ⟨its, o, n, hv, e, hc, hd⟩
  · exact ⟨its.toList, o, n, hv, KX _ _ e, hc, by simp [hd]⟩
mutual
theorem Dw.reads (hok : HOk P w H h) (KX : K.In h) : ∀ (d : WData) (v : V) (u : Value), Dw K H v d → RelV v u → ∃ as, ReadsW R cl h u d as
  | .none, _, _, x, r => by
    cases x
    cases r
    exact ⟨_, ReadsW.none⟩
  | .bool b, _, _, x, r => by
    cases x
    cases r
    exact ⟨_, ReadsW.bool b⟩
  | .int i, _, _, x, r => by
    cases x
    obtain ⟨t, rfl⟩ := r
    exact ⟨_, ReadsW.int i t⟩
  | .str s, _, _, x, r => by
    cases x
    obtain ⟨t, rfl⟩ := r
    exact ⟨_, ReadsW.str s t⟩
  | .bytes b, _, _, x, r => by
    cases x
    obtain ⟨t, rfl⟩ := r
    exact ⟨_, ReadsW.bytes _ t⟩
  | .list ds, _, _, x, r => by
    cases x with
    | lst hs ha =>
      cases r
      obtain ⟨its, o, n, rv, ho, hc, hd⟩ := sqL_at hok KX hs
      obtain ⟨as, hr⟩ := Dw.readsAll hok KX ds _ its ha rv
      exact ⟨_, ReadsW.list ho hc hd hr⟩
  | .tuple ds, _, _, x, r => by
    cases x with
    | tup hs ha =>
      cases r
      obtain ⟨its, o, n, rv, ho, hc, hd⟩ := sqT_at hok KX hs
      obtain ⟨as, hr⟩ := Dw.readsAll hok KX ds _ its ha rv
      exact ⟨_, ReadsW.tuple ho hc hd hr⟩
  | .float _, _, _, x, _ => by cases x
  | .dict _, _, _, x, _ => by cases x
  | .bytearray _, _, _, x, _ => by cases x
  | .set _, _, _, x, _ => by cases x
  | .frozenset _, _, _, x, _ => by cases x
  | .obj _ _, _, _, x, _ => by cases x
theorem Dw.readsAll (hok : HOk P w H h) (KX : K.In h) : ∀ (ds : List WData) (vs : List V) (us : List Value), DwAll K H vs ds → Vals vs us → ∃ as, ReadsAllW R cl h us ds as
  | [], _, _, x, r => by
    cases x
    cases r
    exact ⟨_, ReadsAllW.nil⟩
  | d :: ds, _, _, x, r => by
    cases x with
    | cons h1 h2 =>
      cases r with
      | cons r1 r2 =>
        obtain ⟨as, q1⟩ := Dw.reads hok KX d _ _ h1 r1
        obtain ⟨bs, q2⟩ := Dw.readsAll hok KX ds _ _ h2 r2
        exact ⟨_, ReadsAllW.cons q1 q2⟩
end
end
mutual
/-- data that a codec tells -/
def plW : WData → Bool
  | .none => true
  | .bool _ => true
  | .int _ => true
  | .str _ => true
  | .bytes _ => true
  | .list xs => plWs xs
  | .tuple xs => plWs xs
  | _ => false
def plWs : List WData → Bool
  | [] => true
  | x :: r => plW x && plWs r
end
theorem plWs_map {α : Type} {f : α → WData} (h : ∀ a, plW (f a) = true) : ∀ l : List α, plWs (l.map f) = true
  | [] => rfl
  | x :: r => by
    show (plW (f x) && plWs (r.map f)) = true
    rw [h x, plWs_map h r] <;> rfl
theorem pl_enc : ∀ (c : Codec) (a : c.denote), plW (c.enc a) = true
  | .unit, _ => rfl
  | .bool, _ => rfl
  | .int _ _, _ => rfl
  | .nat _ _, _ => rfl
  | .u8, _ => rfl
  | .bytes _ _, _ => rfl
  | .text _ _ _ _, _ => rfl
  | .list _ _ c, a => plWs_map (fun x => pl_enc c x) a
  | .pair c d, a => by
    show (plW (c.enc a.1) && (plW (d.enc a.2) && true)) = true
    rw [pl_enc c a.1, pl_enc d a.2] <;> rfl
  | .triple c d e, a => by
    show (plW (c.enc a.1) && (plW (d.enc a.2.1) && (plW (e.enc a.2.2) && true))) = true
    rw [pl_enc c a.1, pl_enc d a.2.1, pl_enc e a.2.2] <;> rfl
  | .option c, none => rfl
  | .option c, some x => pl_enc c x
theorem pl_encAll : ∀ (cs : List Codec) (a : Codec.denoteAll cs), plWs (Codec.encAll cs a) = true
  | [], _ => rfl
  | c :: cs, a => by
    show (plW (c.enc a.1) && plWs (Codec.encAll cs a.2)) = true
    rw [pl_enc c a.1, pl_encAll cs a.2] <;> rfl
theorem weight_mem : ∀ {xs : List WData} {d : WData}, d ∈ xs → d.weight ≤ WData.weightAll xs
  | [], d, h => absurd h (by simp)
  | x :: r, d, h => by
    show d.weight ≤ x.weight + 1 + WData.weightAll r
    rcases List.mem_cons.mp h with e | m
    · rw [e]
      omega
    · have z := weight_mem m
      omega
def toV : Value → V
  | .none => .non
  | .bool b => .bl b
  | .int i _ => .int i
  | .str x _ => .str x
  | .bytes b _ => .byt b
  | .ref a => .ref a
  | _ => .non
/-- a value of the arguments, its objects among A -/
def OkU (A : List Addr) : Value → Prop
  | .none => True
  | .bool _ => True
  | .int _ _ => True
  | .str _ _ => True
  | .bytes _ _ => True
  | .ref a => a ∈ A
  | _ => False
theorem OkU.mono {A B : List Addr} (h : ∀ a ∈ A, a ∈ B) : ∀ {u : Value}, OkU A u → OkU B u := fun {u} x => by
  cases u with
  | ref a => exact h a x
  | none => trivial
  | bool b => trivial
  | int i t => trivial
  | str s t => trivial
  | bytes b t => trivial
  | _ => exact False.elim x
theorem relV_toV {A : List Addr} {u : Value} (x : OkU A u) : RelV (toV u) u := by
  cases u with
  | ref a => rfl
  | none => rfl
  | bool b => rfl
  | int i t => exact ⟨t, rfl⟩
  | str s t => exact ⟨t, rfl⟩
  | bytes b t => exact ⟨t, rfl⟩
  | _ => exact False.elim x
theorem vals_toV {A : List Addr} : ∀ {vs : List Value}, (∀ u ∈ vs, OkU A u) → Vals (vs.map toV) vs
  | [], _ => .nil
  | u :: r, h => .cons (relV_toV (h u (List.mem_cons_self ..))) (vals_toV fun x hx => h x (List.mem_cons_of_mem _ hx))
/-- an object of the arguments -/
def ArgOb (h : Heap) (A : List Addr) (a : Addr) : Prop := ∃ vs : List Value, vs.length ≤ sizeLine ∧ (∀ u ∈ vs, OkU A u) ∧
  (h.get? a = some { cls := .type "list", data := .seq vs.toArray } ∨ h.get? a = some { cls := .type "tuple", data := .seq vs.toArray })
theorem ArgOb.mono {h : Heap} {A B : List Addr} {a : Addr} (k : ∀ a ∈ A, a ∈ B) (x : ArgOb h A a) : ArgOb h B a := by
  obtain ⟨vs, h1, h2, h3⟩ := x
  exact ⟨vs, h1, fun u hu => (h2 u hu).mono k, h3⟩
theorem wellAll_len {P : Params} {h : Heap} : ∀ {vs : List Value} {ds : List WData}, WellAll P h vs ds → vs.length = ds.length
  | _, _, .nil => rfl
  | _, _, .cons _ b => by
    show _ + 1 = _ + 1
    rw [wellAll_len b]
theorem well_list {P : Params} {h : Heap} {v : Value} {ds : List WData} (x : Well P h v (.list ds)) : ∃ (a : Addr) (vs : List Value), v = .ref a ∧ h.get? a = some { cls := .type "list", data := .seq vs.toArray } ∧ WellAll P h vs ds := by
  cases x with
  | list ho hall => exact ⟨_, _, rfl, ho, hall⟩
theorem well_tuple {P : Params} {h : Heap} {v : Value} {ds : List WData} (x : Well P h v (.tuple ds)) : ∃ (a : Addr) (vs : List Value), v = .ref a ∧ h.get? a = some { cls := .type "tuple", data := .seq vs.toArray } ∧ WellAll P h vs ds := by
  cases x with
  | tuple ho hall => exact ⟨_, _, rfl, ho, hall⟩
theorem well_cons {P : Params} {h : Heap} {us : List Value} {d : WData} {ds : List WData} (x : WellAll P h us (d :: ds)) : ∃ (v : Value) (vs : List Value), us = v :: vs ∧ Well P h v d ∧ WellAll P h vs ds := by
  cases x with
  | cons a b => exact ⟨_, _, rfl, a, b⟩
theorem line_of {n : Nat} (h : n ≤ 1048576) : n ≤ sizeLine := Nat.le_trans h (by decide)
section
variable {P : Params} {h : Heap}
mutual
theorem area_one : ∀ (d : WData) (v : Value), Well P h v d → plW d = true → d.weight ≤ 1048576 → ∃ A : List Addr, OkU A v ∧ ∀ a ∈ A, ArgOb h A a
  | .none, _, x, _, _ => by
    cases x
    exact ⟨[], trivial, fun a m => absurd m (by simp)⟩
  | .bool b, _, x, _, _ => by
    cases x
    exact ⟨[], trivial, fun a m => absurd m (by simp)⟩
  | .int i, _, x, _, _ => by
    cases x
    exact ⟨[], trivial, fun a m => absurd m (by simp)⟩
  | .str s, _, x, _, _ => by
    cases x
    exact ⟨[], trivial, fun a m => absurd m (by simp)⟩
  | .bytes b, _, x, _, _ => by
    cases x
    exact ⟨[], trivial, fun a m => absurd m (by simp)⟩
  | .list ds, _, x, p, z => by
    obtain ⟨a, vs, rfl, ho, hall⟩ := well_list x
    have z2 : WData.weightAll ds ≤ 1048576 := z
    obtain ⟨A, h1, h2⟩ := area_all ds _ hall p fun d hd => Nat.le_trans (weight_mem hd) z2
    have k : ∀ b ∈ A, b ∈ a :: A := fun b hb => List.mem_cons_of_mem _ hb
    refine ⟨a :: A, List.mem_cons_self .., fun b hb => ?_⟩
    rcases List.mem_cons.mp hb with e | m
    · rw [e]
      exact ⟨vs, line_of (by rw [wellAll_len hall]; exact Nat.le_trans (PySem.W.length_le_weightAllW ds) z2), fun u hu => (h1 u hu).mono k, .inl ho⟩
    · exact (h2 b m).mono k
  | .tuple ds, _, x, p, z => by
    obtain ⟨a, vs, rfl, ho, hall⟩ := well_tuple x
    have z2 : WData.weightAll ds ≤ 1048576 := z
    obtain ⟨A, h1, h2⟩ := area_all ds _ hall p fun d hd => Nat.le_trans (weight_mem hd) z2
    have k : ∀ b ∈ A, b ∈ a :: A := fun b hb => List.mem_cons_of_mem _ hb
    refine ⟨a :: A, List.mem_cons_self .., fun b hb => ?_⟩
    rcases List.mem_cons.mp hb with e | m
    · rw [e]
      exact ⟨vs, line_of (by rw [wellAll_len hall]; exact Nat.le_trans (PySem.W.length_le_weightAllW ds) z2), fun u hu => (h1 u hu).mono k, .inr ho⟩
    · exact (h2 b m).mono k
  | .float _, _, _, p, _ => Bool.noConfusion (show false = true from p)
  | .dict _, _, _, p, _ => Bool.noConfusion (show false = true from p)
  | .bytearray _, _, _, p, _ => Bool.noConfusion (show false = true from p)
  | .set _, _, _, p, _ => Bool.noConfusion (show false = true from p)
  | .frozenset _, _, _, p, _ => Bool.noConfusion (show false = true from p)
  | .obj _ _, _, _, p, _ => Bool.noConfusion (show false = true from p)
theorem area_all : ∀ (ds : List WData) (vs : List Value), WellAll P h vs ds → plWs ds = true → (∀ d ∈ ds, d.weight ≤ 1048576) → ∃ A : List Addr, (∀ u ∈ vs, OkU A u) ∧ ∀ a ∈ A, ArgOb h A a
  | [], _, x, _, _ => by
    cases x
    exact ⟨[], fun u m => absurd m (by simp), fun a m => absurd m (by simp)⟩
  | d :: ds, _, x, p, z => by
    obtain ⟨v, vs, rfl, x1, x2⟩ := well_cons x
    have q : plW d = true ∧ plWs ds = true := Bool.and_eq_true_iff.mp p
    obtain ⟨A, a1, a2⟩ := area_one d v x1 q.1 (z d (List.mem_cons_self ..))
    obtain ⟨B, b1, b2⟩ := area_all ds vs x2 q.2 fun e he => z e (List.mem_cons_of_mem _ he)
    have kA : ∀ b ∈ A, b ∈ A ++ B := fun b hb => List.mem_append.mpr (.inl hb)
    have kB : ∀ b ∈ B, b ∈ A ++ B := fun b hb => List.mem_append.mpr (.inr hb)
    refine ⟨A ++ B, fun u hu => ?_, fun b hb => ?_⟩
    · rcases List.mem_cons.mp hu with e | m
      · rw [e]
        exact a1.mono kA
      · exact (b1 u m).mono kB
    · rcases List.mem_append.mp hb with m | m
      · exact (a2 b m).mono kA
      · exact (b2 b m).mono kB
end
end
/-- what is tracked of an argument's object -/
def hoOf (o : Obj) : Option HO := match o.data with
  | .seq vs _ => if (o.cls == Value.type "list") = true then some (.frz o (.lst (vs.toList.map toV))) else some (.frz o (.tup (vs.toList.map toV)))
  | _ => none
def argH (K : PySem.W.Frag) (h : Heap) (A : List Addr) : Hp := fun b => if b ∈ A then (if (K.lookup b).isNone = true then (h.get? b).bind hoOf else none) else none
/-- nothing is tracked but what is known to the object -/
def OnlyF (H : Hp) : Prop := ∀ b, H b = none ∨ ∃ o u, H b = some (.frz o u)
theorem hoOf_lst (vs : List Value) : hoOf { cls := .type "list", data := .seq vs.toArray } = some (.frz { cls := .type "list", data := .seq vs.toArray } (.lst (vs.map toV))) := by
  show (if (Value.type "list" == Value.type "list") = true then some (HO.frz { cls := .type "list", data := .seq vs.toArray } (.lst (vs.toArray.toList.map toV))) else some (HO.frz { cls := .type "list", data := .seq vs.toArray } (.tup (vs.toArray.toList.map toV)))) = _
  rw [if_pos (beq_self_eq_true _)]
theorem hoOf_tup (vs : List Value) : hoOf { cls := .type "tuple", data := .seq vs.toArray } = some (.frz { cls := .type "tuple", data := .seq vs.toArray } (.tup (vs.map toV))) := by
  show (if (Value.type "tuple" == Value.type "list") = true then some (HO.frz { cls := .type "tuple", data := .seq vs.toArray } (.lst (vs.toArray.toList.map toV))) else some (HO.frz { cls := .type "tuple", data := .seq vs.toArray } (.tup (vs.toArray.toList.map toV)))) = _
  rw [if_neg (by decide)]
section
variable {P : Program} {w : World} {K : PySem.W.Frag} {h : Heap} {A : List Addr}
theorem argH_at {b : Addr} {o : Obj} (hb : b ∈ A) (hk : K.lookup b = none) (e : h.get? b = some o) : argH K h A b = hoOf o := by
  unfold argH
  rw [if_pos hb, hk, if_pos (show (none : Option Obj).isNone = true from rfl), e] <;> rfl
theorem of_argH {b : Addr} {u : HO} (q : argH K h A b = some u) : b ∈ A ∧ K.lookup b = none := by
  unfold argH at q
  by_cases hb : b ∈ A
  · rw [if_pos hb] at q
    cases hk : K.lookup b with
    | none => exact ⟨hb, rfl⟩
    | some o =>
      rw [hk, if_neg (by simp)] at q
      cases q
  · rw [if_neg hb] at q
    cases q
/-- what stands tracked -/
theorem argH_is (ar : ∀ a ∈ A, ArgOb h A a) {b : Addr} {u : HO} (q : argH K h A b = some u) : K.lookup b = none ∧ ∃ vs : List Value, vs.length ≤ sizeLine ∧ (∀ u ∈ vs, OkU A u) ∧
    ((h.get? b = some { cls := .type "list", data := .seq vs.toArray } ∧ u = .frz { cls := .type "list", data := .seq vs.toArray } (.lst (vs.map toV))) ∨
     (h.get? b = some { cls := .type "tuple", data := .seq vs.toArray } ∧ u = .frz { cls := .type "tuple", data := .seq vs.toArray } (.tup (vs.map toV)))) := by
  obtain ⟨hb, hk⟩ := of_argH q
  obtain ⟨vs, h1, h2, h3⟩ := ar b hb
  refine ⟨hk, vs, h1, h2, ?_⟩
  rcases h3 with e | e
  · rw [argH_at hb hk e, hoOf_lst] at q
    exact .inl ⟨e, (Option.some.inj q).symm⟩
  · rw [argH_at hb hk e, hoOf_tup] at q
    exact .inr ⟨e, (Option.some.inj q).symm⟩
theorem argH_only (ar : ∀ a ∈ A, ArgOb h A a) : OnlyF (argH K h A) := fun b => by
  cases q : argH K h A b with
  | none => exact .inl rfl
  | some u =>
    obtain ⟨_, vs, _, _, ⟨_, e⟩ | ⟨_, e⟩⟩ := argH_is ar q
    · exact .inr ⟨_, _, by rw [e]⟩
    · exact .inr ⟨_, _, by rw [e]⟩
theorem argH_ok (ar : ∀ a ∈ A, ArgOb h A a) : HOk P w (argH K h A) h := fun b u q => by
  obtain ⟨_, vs, h1, h2, ⟨e, rfl⟩ | ⟨e, rfl⟩⟩ := argH_is ar q
  · exact ⟨e, by rw [List.length_map]; exact h1, vs, _, vals_toV h2, e⟩
  · exact ⟨e, by rw [List.length_map]; exact h1, vs, vals_toV h2, _, e, rfl, _, rfl⟩
theorem seq_inj {c c' : Value} {vs us : List Value} (e : (some { cls := c, data := .seq vs.toArray } : Option Obj) = some { cls := c', data := .seq us.toArray }) : c = c' ∧ vs = us := by
  have e1 := Option.some.inj e
  have e2 : c = c' := congrArg Obj.cls e1
  have e3 : Data.seq vs.toArray = Data.seq us.toArray := congrArg Obj.data e1
  injection e3 with e4
  refine ⟨e2, ?_⟩
  have e5 := congrArg Array.toList e4
  simpa using e5
/-- a list argument -/
theorem argL (KX : K.In h) (ar : ∀ a ∈ A, ArgOb h A a) {a : Addr} {vs : List Value} (ha : a ∈ A) (e : h.get? a = some { cls := .type "list", data := .seq vs.toArray }) : (∀ u ∈ vs, OkU A u) ∧ SqL K (argH K h A) a (vs.map toV) := by
  obtain ⟨us, h1, h2, h3⟩ := ar a ha
  have hu : us = vs := by
    rcases h3 with q | q
    · rw [e] at q
      exact (seq_inj q).2.symm
    · rw [e] at q
      exact absurd (Value.type.inj (seq_inj q).1) (by decide)
  subst hu
  refine ⟨h2, ?_⟩
  cases hk : K.lookup a with
  | none => exact .inl (.inr ⟨_, by rw [argH_at ha hk e, hoOf_lst]⟩)
  | some o =>
    have e2 := KX a o hk
    rw [e] at e2
    obtain rfl := Option.some.inj e2
    exact .inr ⟨_, us.toArray, _, hk, rfl, rfl, rfl, by rw [List.size_toArray]; exact h1, by simpa using vals_toV h2⟩
theorem argT (KX : K.In h) (ar : ∀ a ∈ A, ArgOb h A a) {a : Addr} {vs : List Value} (ha : a ∈ A) (e : h.get? a = some { cls := .type "tuple", data := .seq vs.toArray }) : (∀ u ∈ vs, OkU A u) ∧ SqT K (argH K h A) a (vs.map toV) := by
  obtain ⟨us, h1, h2, h3⟩ := ar a ha
  have hu : us = vs := by
    rcases h3 with q | q
    · rw [e] at q
      exact absurd (Value.type.inj (seq_inj q).1) (by decide)
    · rw [e] at q
      exact (seq_inj q).2.symm
  subst hu
  refine ⟨h2, ?_⟩
  cases hk : K.lookup a with
  | none => exact .inl (.inr ⟨_, by rw [argH_at ha hk e, hoOf_tup]⟩)
  | some o =>
    have e2 := KX a o hk
    rw [e] at e2
    obtain rfl := Option.some.inj e2
    exact .inr ⟨_, us.toArray, _, hk, rfl, rfl, by rw [List.size_toArray]; exact h1, by simpa using vals_toV h2⟩
mutual
theorem dw_one {Pm : Params} (KX : K.In h) (ar : ∀ a ∈ A, ArgOb h A a) : ∀ (d : WData) (v : Value), Well Pm h v d → plW d = true → OkU A v → Dw K (argH K h A) (toV v) d
  | .none, _, x, _, _ => by
    cases x
    exact .non
  | .bool b, _, x, _, _ => by
    cases x
    exact .bl b
  | .int i, _, x, _, _ => by
    cases x
    exact .int i
  | .str s, _, x, _, _ => by
    cases x
    exact .str s
  | .bytes b, _, x, _, _ => by
    cases x
    have z := Dw.byt (K := K) (H := argH K h A) b.toArray
    exact z
  | .list ds, _, x, p, hu => by
    obtain ⟨a, vs, rfl, ho, hall⟩ := well_list x
    obtain ⟨h2, hs⟩ := argL KX ar hu ho
    exact .lst hs (dw_all KX ar ds _ hall p h2)
  | .tuple ds, _, x, p, hu => by
    obtain ⟨a, vs, rfl, ho, hall⟩ := well_tuple x
    obtain ⟨h2, hs⟩ := argT KX ar hu ho
    exact .tup hs (dw_all KX ar ds _ hall p h2)
  | .float _, _, _, p, _ => Bool.noConfusion (show false = true from p)
  | .dict _, _, _, p, _ => Bool.noConfusion (show false = true from p)
  | .bytearray _, _, _, p, _ => Bool.noConfusion (show false = true from p)
  | .set _, _, _, p, _ => Bool.noConfusion (show false = true from p)
  | .frozenset _, _, _, p, _ => Bool.noConfusion (show false = true from p)
  | .obj _ _, _, _, p, _ => Bool.noConfusion (show false = true from p)
theorem dw_all {Pm : Params} (KX : K.In h) (ar : ∀ a ∈ A, ArgOb h A a) : ∀ (ds : List WData) (vs : List Value), WellAll Pm h vs ds → plWs ds = true → (∀ u ∈ vs, OkU A u) → DwAll K (argH K h A) (vs.map toV) ds
  | [], _, x, _, _ => by
    cases x
    exact .nil
  | d :: ds, _, x, p, hu => by
    obtain ⟨v, vs, rfl, x1, x2⟩ := well_cons x
    have q : plW d = true ∧ plWs ds = true := Bool.and_eq_true_iff.mp p
    exact .cons (dw_one KX ar d v x1 q.1 (hu _ (List.mem_cons_self ..))) (dw_all KX ar ds vs x2 q.2 fun u m => hu u (List.mem_cons_of_mem _ m))
end
end
theorem spec_call {P : Program} {w : World} {K : PySem.W.Frag} {mg mb : Str → Option Value} {CX : CXT} {k : Nat} {fa : Addr} {fd : FuncData} {ps : List Str} {sp : Sp} {s₁ : Shared} {vals : List Value} {ds : List WData} {R : PySem.W.WRecords} {cl : Str → Option Addr} {d0 : WData}
    (KX : K.In s₁.heap) (hns : s₁.heap.Ns mainGlobals mg) (hb : s₁.heap.Ns builtinsNs mb) (hbb : ∀ x : Str, x ≠ "__name__" → mb x = bootBuiltins x) (hlim : s₁.heap.NoLimit) (hg : s₁.gens = #[])
    (hwl : WellAll w.params s₁.heap vals ds) (hpl : plWs ds = true) (hwt : ∀ d ∈ ds, d.weight ≤ 1048576) (hr : Room k callerA)
    (F : ∀ base : Heap, K.In base → base.Ns mainGlobals mg → FnOk P w K mg base CX k fa fd ps sp) (hbind : ∀ (s : Shared) (us : List Value), us.length = ps.length → BindsTo s fd ⟨us, []⟩ (ps.zip us)) (hlen : ds.length = ps.length)
    (hsp : ∀ (H : Hp) (xs : List V), OnlyF H → DwAll K H xs ds → sp xs H (fun v H' => Dw K H' v d0) fun _ _ _ => False)
    (hCX : ∀ H e s', CX [] H s₁ (fun _ _ _ => False) e s' → False) :
    codeAny (model P w) callerA (.call (.ref fa) ⟨vals, []⟩) (fun r s' => ∃ u as, r = .ok (.ret u) ∧ ReadsW R cl s'.heap u d0 as ∧ OldK s₁.heap s'.heap ∧ s'.os = s₁.os ∧ AllBare s'.gens) s₁ := by
  obtain ⟨A, ho, ar⟩ := area_all ds vals hwl hpl hwt
  have hO : OnlyF (argH K s₁.heap A) := argH_only ar
  have hok : HOk P w (argH K s₁.heap A) s₁.heap := argH_ok ar
  have hS := dw_all KX ar ds vals hwl hpl ho
  have hV := vals_toV ho
  have hK : ∀ b u, argH K s₁.heap A b = some u → K.lookup b = none := fun b u q => (argH_is ar q).1
  have noA : ∀ {b : Addr} {o : Obj} {es : Array DictEntry} {ep : Nat}, s₁.heap.get? b = some o → o.data = .dict es ep → argH K s₁.heap A b = none := fun {b o es ep} e d => by
    cases q : argH K s₁.heap A b with
    | none => rfl
    | some u =>
      obtain ⟨_, vs, _, _, ⟨e2, _⟩ | ⟨e2, _⟩⟩ := argH_is ar q
      · rw [e2] at e
        cases e
        have d' : Data.seq vs.toArray _ = Data.dict es ep := d
        cases d'
      · rw [e2] at e
        cases e
        have d' : Data.seq vs.toArray _ = Data.dict es ep := d
        cases d'
  generalize argH K s₁.heap A = H at hO hok hS hK noA
  have base_of : ∀ {b : Addr} {o : Obj}, s₁.heap.get? b = some o → H b = none → (hidT s₁.heap H).get? b = some o := fun e n => hidT_get e n
  have nsK : ∀ {b : Addr} {m : Str → Option Value}, s₁.heap.Ns b m → (hidT s₁.heap H).Ns b m := fun {b m} ⟨o, es, ep, e, d, r⟩ => ⟨o, es, ep, base_of e (noA e d), d, r⟩
  have nK : ∀ b o, K.lookup b = some o → H b = none := fun b o e => by
    cases q : H b with
    | none => rfl
    | some u =>
      rw [hK b u q] at e
      cases e
  have hKb : K.In (hidT s₁.heap H) := fun b o e => base_of (KX b o e) (nK b o e)
  have hM : Mod K mg (hidT s₁.heap H) := ⟨hKb, nsK hns, ⟨mb, nsK hb, hbb⟩, let ⟨mc, h1, h2⟩ := hlim; ⟨mc, nsK h1, h2⟩⟩
  have e0 : Env0 P w K mg (hidT s₁.heap H) callerA [] s₁ H := ⟨rfl, hM, fun b o e => of_hidT e, Nat.le_of_eq (hidT_size _ _), trivial, fun b hb => absurd (show b ∈ ([] : List Addr) from hb) (by simp), hok, .of_eq hg⟩
  have hl : vals.length = ps.length := by rw [wellAll_len hwl]; exact hlen
  refine codeAny_mono ((F _ hKb (nsK hns)).run callerA [] s₁ H ⟨vals, []⟩ vals (vals.map toV) _ _ hr e0 (hbind s₁ vals hl) hV (hsp H _ hO hS)) fun r s' x => ?_
  cases r with
  | error e => exact (hCX H e s' x).elim
  | ok fl =>
    cases fl with
    | next => exact False.elim x
    | brk => exact False.elim x
    | cont => exact False.elim x
    | ret u =>
      obtain ⟨v, H', os, bare, un, hok', r', q⟩ := x
      have kept : ∀ b o, s₁.heap.get? b = some o → s'.heap.get? b = some o := fun b o e => by
        cases q2 : H b with
        | none => exact un.keep b o e q2 (by intro z; exact absurd (show b ∈ ([] : List Addr) from z) (by simp)) (by simp)
        | some u2 =>
          rcases hO b with z | ⟨ob, u3, z⟩
          · rw [q2] at z
            cases z
          · have z2 := un.frzs b ob _ z
            obtain ⟨e1, _⟩ := hok b _ z
            obtain ⟨e2, _⟩ := hok' b _ z2
            rw [e] at e1
            cases e1
            exact e2
      have KX' : K.In s'.heap := fun b o e => kept b o (KX b o e)
      obtain ⟨as, hrd⟩ := Dw.reads (R := R) (cl := cl) hok' KX' d0 v u q r'
      exact ⟨u, as, rfl, hrd, OldK.of_keep kept, os, bare⟩
theorem layable_weight {ds : List WData} (h : WData.layableAll ds = true) : ∀ d ∈ ds, d.weight ≤ 1048576 := fun d hd =>
  (PySem.W.layableW_iff.mp (List.all_eq_true.mp h d hd)).2.2
theorem encAll_len : ∀ (cs : List Codec) (a : Codec.denoteAll cs), (Codec.encAll cs a).length = cs.length
  | [], _ => rfl
  | c :: cs, a => by
    show (Codec.encAll cs a.2).length + 1 = cs.length + 1
    rw [encAll_len cs a.2]
/-- the goal that k_headS leaves (case hc), from the promise of the row's def: whatever the arguments that the codecs let and the row asks for, the def gives what stands for enc (f ..) -/
theorem walk_spec {r : OpenSpec} {k : Nat} {q : Program} {loose : List Str} {XP : (Str → Option Value) → Heap → Prop} {YP : World → Heap → Prop} {d : DefRec} {K : Params → PySem.W.Frag} {CX : World → CXT} {ps : List Str} {sp : World → Sp}
    (hwell : r.wellSaid = true) (hdf : d.params.defaults = []) (hlen : r.args.length = ps.length) (hr : Room k callerA)
    (hY : ∀ (w : World) (h : Heap), YP w h → (K w.params).In h)
    (F : ∀ (w : World) (mg : Str → Option Value) (fa : Addr) (h : Heap), YP w h → (K w.params).In h → h.Ns mainGlobals mg → mg d.name = some (.ref fa) →
      ∃ fd : FuncData, (∀ (s : Shared) (us : List Value), us.length = ps.length → BindsTo s fd ⟨us, []⟩ (ps.zip us)) ∧
        ∀ base : Heap, (K w.params).In base → base.Ns mainGlobals mg → FnOk r.prog w (K w.params) mg base (CX w) k fa fd ps (sp w))
    (hsp : ∀ (w : World) (H : Hp) (xs : List V) (a : Codec.denoteAll r.args), OnlyF H → Codec.withinAll r.args a = true → Codec.app r.args r.asked a = true → DwAll (K w.params) H xs (Codec.encAll r.args a) →
      sp w xs H (fun v H' => Dw (K w.params) H' v (r.ret.enc (Codec.app r.args r.f a))) fun _ _ _ => False)
    (hCX : ∀ (w : World) (H : Hp) (s : Shared) (e : Value) (s' : Shared), CX w [] H s (fun _ _ _ => False) e s' → False) :
    PySem.W.WalkOS q loose XP YP r d [] (fun f vs => PySem.call f vs) := by
  intro w s_0 s₁ mg mb G Y fa o pm cd doc dV kV ho hd hcd hD hmg hg args vals as hpre hlay hrd hwl hlo
  obtain ⟨a, e1, e2⟩ := PySem.W.os_pre_some hpre
  obtain ⟨e3, hwi⟩ := Codec.encAll_of_decAll r.args args a e1
  subst e3
  have KX := hY w _ Y
  obtain ⟨fd, hb, hF⟩ := F w mg fa _ Y KX G.T.g hmg
  refine PySem.W.enter_call (codeAny_mono (spec_call (R := []) (cl := classAt s_0.heap) (d0 := r.ret.enc (Codec.app r.args r.f a)) KX G.T.g G.T.b G.T.builtins G.T.nolimit hg hwl (pl_encAll _ _) (layable_weight hlay) hr hF hb (by rw [encAll_len]; exact hlen)
    (fun H xs hO hS => hsp w H xs a hO hwi e2 hS) fun H e s' => hCX w H s₁ e s') fun r' s' hq => ?_)
  obtain ⟨u, as', rfl, h1, h2, h3, h4⟩ := hq
  exact ⟨.inl ⟨u, _, as', rfl, fun _ => rfl, h1, (OpenSpec.post_iff hwell hwi _ _).mpr rfl, fun z => Bool.noConfusion (show false = true from z)⟩, h2, h3, h4⟩
/-- the same where the promise hangs on the written part alone -/
theorem walk_specK {r : OpenSpec} {k : Nat} {q : Program} {loose : List Str} {XP : (Str → Option Value) → Heap → Prop} {YP : World → Heap → Prop} {d : DefRec} {K : Params → PySem.W.Frag} {CX : CXT} {ps : List Str} {sp : PySem.W.Frag → Sp}
    (hwell : r.wellSaid = true) (hdf : d.params.defaults = []) (hlen : r.args.length = ps.length) (hr : Room k callerA)
    (hY : ∀ (w : World) (h : Heap), YP w h → (K w.params).In h)
    (F : ∀ (w : World) (mg : Str → Option Value) (fa : Addr) (h : Heap), YP w h → (K w.params).In h → h.Ns mainGlobals mg → mg d.name = some (.ref fa) →
      ∃ fd : FuncData, (∀ (s : Shared) (us : List Value), us.length = ps.length → BindsTo s fd ⟨us, []⟩ (ps.zip us)) ∧
        ∀ base : Heap, (K w.params).In base → base.Ns mainGlobals mg → FnOk r.prog w (K w.params) mg base CX k fa fd ps (sp (K w.params)))
    (hsp : ∀ (K : PySem.W.Frag) (H : Hp) (xs : List V) (a : Codec.denoteAll r.args), OnlyF H → Codec.withinAll r.args a = true → Codec.app r.args r.asked a = true → DwAll K H xs (Codec.encAll r.args a) →
      sp K xs H (fun v H' => Dw K H' v (r.ret.enc (Codec.app r.args r.f a))) fun _ _ _ => False)
    (hCX : ∀ (H : Hp) (s : Shared) (e : Value) (s' : Shared), CX [] H s (fun _ _ _ => False) e s' → False) :
    PySem.W.WalkOS q loose XP YP r d [] (fun f vs => PySem.call f vs) :=
  walk_spec (K := K) (CX := fun _ => CX) (sp := fun w => sp (K w.params)) hwell hdf hlen hr hY F (fun w H xs a h1 h2 h3 h4 => hsp (K w.params) H xs a h1 h2 h3 h4) fun _ H s e s' => hCX H s e s'
end L2
end


set_option Elab.async false
namespace Pm
open Plate

def rowN : Nat → (Nat → Bool) → Nat
  | 0, _ => 0
  | n + 1, f => rowN n f + (if f n = true then 2 ^ n else 0)
theorem rowN_lt (n : Nat) (f : Nat → Bool) : rowN n f < 2 ^ n := by
  induction n with
  | zero => simp [rowN]
  | succ n ih =>
    rw [rowN, Nat.pow_succ]
    split <;> omega
theorem rowN_bit (n : Nat) (f : Nat → Bool) (x : Nat) : (rowN n f).testBit x = (decide (x < n) && f x) := by
  induction n with
  | zero => simp [rowN]
  | succ n ih =>
    rw [rowN]
    have hlt := rowN_lt n f
    by_cases hf : f n = true
    · rw [if_pos hf, Nat.add_comm]
      by_cases hx : x = n
      · subst hx
        rw [Nat.testBit_two_pow_add_eq, Nat.testBit_lt_two_pow hlt]
        simp [hf]
      · by_cases hl : x < n
        · rw [Nat.testBit_two_pow_add_gt hl, ih]
          have : x < n + 1 := by omega
          simp [hl, this]
        · have h2 : 2 ^ n + rowN n f < 2 ^ x := by
            have h3 : 2 ^ (n + 1) ≤ 2 ^ x := Nat.pow_le_pow_right (by decide) (by omega)
            rw [Nat.pow_succ] at h3
            omega
          rw [Nat.testBit_lt_two_pow h2]
          have : ¬ x < n + 1 := by omega
          simp [this]
    · rw [if_neg hf, Nat.add_zero, ih]
      by_cases hx : x = n
      · subst hx
        simp at hf
        simp [hf]
      · have : (x < n + 1) ↔ (x < n) := by omega
        simp [this]
theorem rowN_congr {n : Nat} {f g : Nat → Bool} (h : ∀ x, x < n → f x = g x) : rowN n f = rowN n g := by
  apply Nat.eq_of_testBit_eq
  intro x
  rw [rowN_bit, rowN_bit]
  by_cases hx : x < n
  · simp [hx, h x hx]
  · simp [hx]
theorem eq_rowN {r n : Nat} {f : Nat → Bool} (h : ∀ x, r.testBit x = (decide (x < n) && f x)) : r = rowN n f := by
  apply Nat.eq_of_testBit_eq
  intro x
  rw [rowN_bit, h x]
theorem rowN_more {n m : Nat} {f : Nat → Bool} (hnm : n ≤ m) (h : ∀ x, n ≤ x → x < m → f x = false) : rowN m f = rowN n f := by
  apply eq_rowN
  intro x
  rw [rowN_bit]
  by_cases hx : x < n
  · have : x < m := by omega
    simp [hx, this]
  · by_cases hm : x < m
    · simp [hx, h x (by omega) hm]
    · simp [hx, hm]
def rowsOf (s : Sheet) : List Nat := (List.range s.h).map fun (y : Nat) => rowN s.w fun (x : Nat) => s.at_ x y
theorem rowsOf_length (s : Sheet) : (rowsOf s).length = s.h := by simp [rowsOf]
theorem rowsOf_get {s : Sheet} {y : Nat} (h : y < s.h) : (rowsOf s)[y]? = some (rowN s.w fun (x : Nat) => s.at_ x y) := by
  simp [rowsOf, h]
theorem place_lt {w h x y : Nat} (hx : x < w) (hy : y < h) : y * w + x < w * h := by
  have h1 : (y + 1) * w ≤ h * w := Nat.mul_le_mul_right w hy
  rw [Nat.add_mul, Nat.one_mul] at h1
  rw [Nat.mul_comm w h]
  omega
theorem place_mod {w x y : Nat} (hx : x < w) : (y * w + x) % w = x := by
  rw [Nat.mul_comm, Nat.mul_add_mod]
  exact Nat.mod_eq_of_lt hx
theorem place_div {w x y : Nat} (hx : x < w) : (y * w + x) / w = y := by
  rw [Nat.mul_comm, Nat.mul_add_div (by omega), Nat.div_eq_of_lt hx, Nat.add_zero]
end Pm


set_option Elab.async false
set_option linter.unusedSimpArgs false
namespace Pm
open Plate

def errL (e : Fault) : List Nat := [e.kind, e.place]
/-- the fault of rows, or nothing -/
def rowsFault (w k p : Nat) (b : Bytes) : List Nat := match rowsIn w k p b with
  | .error e => errL e
  | .ok x => if x.2.1 = [] then [] else [4, x.2.2]
def sheetFault (b : Bytes) : List Nat := match readSheet b with
  | .error e => errL e
  | .ok _ => []
def topSet (w : Nat) (b : Bytes) : Bool := (List.range (8 * width w)).any fun (i : Nat) => decide (w ≤ i) && bitAt b i
theorem rowsFault_zero (w p : Nat) (b : Bytes) : rowsFault w 0 p b = if b = [] then [] else [4, p] := rfl
theorem rowsFault_succ (w k p : Nat) (b : Bytes) : rowsFault w (k + 1) p b =
    if b.length < width w then [1, p + b.length] else if topSet w b = true then [3, p + width w - 1] else rowsFault w k (p + width w) (b.drop (width w)) := by
  unfold rowsFault
  rw [rowsIn]
  by_cases c1 : b.length < width w
  · rw [if_pos c1, if_pos c1]
    rfl
  · rw [if_neg c1, if_neg c1]
    by_cases c2 : topSet w b = true
    · rw [if_pos c2, if_pos (show ((List.range (8 * width w)).any fun (i : Nat) => decide (w ≤ i) && bitAt b i) = true from c2)]
      rfl
    · rw [if_neg c2, if_neg (show ¬ ((List.range (8 * width w)).any fun (i : Nat) => decide (w ≤ i) && bitAt b i) = true from c2)]
      cases rowsIn w k (p + width w) (b.drop (width w)) <;> rfl
theorem width_pos {w : Nat} (h : 1 ≤ w) : 1 ≤ width w := by unfold width; omega
theorem width_le {w : Nat} (h : w ≤ 24) : width w ≤ 3 := by unfold width; omega
/-- the dots in the last byte -/
def lastBits (w : Nat) : Nat := w - 8 * (width w - 1)
theorem lastBits_le {w : Nat} (h : 1 ≤ w) : 1 ≤ lastBits w ∧ lastBits w ≤ 8 := by unfold lastBits width; omega
theorem testBit_hi {c r : Nat} (h : c < 2 ^ r) {i : Nat} (hi : r ≤ i) : c.testBit i = false :=
  Nat.testBit_lt_two_pow (Nat.lt_of_lt_of_le h (Nat.pow_le_pow_right (by decide) hi))
theorem lt_of_bits {c r : Nat} (h : ∀ i, r ≤ i → c.testBit i = false) : c < 2 ^ r := Nat.lt_pow_two_of_testBit c h
theorem topSet_iff {w : Nat} {b : Bytes} (hw : 1 ≤ w) : topSet w b = true ↔ ¬ (b.getD (width w - 1) 0).toNat < 2 ^ lastBits w := by
  have hp := width_pos hw
  have e : 8 * width w = 8 * (width w - 1) + 8 := by omega
  have hwl : w = 8 * (width w - 1) + lastBits w := by unfold lastBits width; omega
  unfold topSet
  rw [List.any_eq_true]
  constructor
  · rintro ⟨i, hi, h⟩ hlt
    rw [List.mem_range] at hi
    simp only [Bool.and_eq_true, decide_eq_true_eq] at h
    obtain ⟨h1, h2⟩ := h
    unfold bitAt at h2
    have e1 : i / 8 = width w - 1 := by omega
    rw [e1, testBit_hi hlt (by omega)] at h2
    cases h2
  · intro hn
    apply Classical.byContradiction
    intro hno
    apply hn
    apply lt_of_bits
    intro i hi
    apply Classical.byContradiction
    intro hb
    have hb : (b.getD (width w - 1) 0).toNat.testBit i = true := by simpa using hb
    have hi8 : i < 8 := by
      apply Classical.byContradiction
      intro h8
      have := testBit_hi (c := (b.getD (width w - 1) 0).toNat) (r := 8) (UInt8.toNat_lt _) (show 8 ≤ i by omega)
      rw [this] at hb
      cases hb
    apply hno
    refine ⟨8 * (width w - 1) + i, List.mem_range.mpr (by omega), ?_⟩
    simp only [Bool.and_eq_true, decide_eq_true_eq]
    refine ⟨by omega, ?_⟩
    unfold bitAt
    have e1 : (8 * (width w - 1) + i) / 8 = width w - 1 := by omega
    have e2 : (8 * (width w - 1) + i) % 8 = i := by omega
    rw [e1, e2]
    exact hb
theorem getD_drop (b : Bytes) (p i : Nat) : (b.drop p).getD i 0 = b.getD (p + i) 0 := by
  simp [List.getD_eq_getElem?_getD, List.getElem?_drop]
theorem rowsIn_ok {w : Nat} (hw : 1 ≤ w) : ∀ {k p : Nat} {b : Bytes} {x : List Bool × Bytes × Nat}, rowsIn w k p b = .ok x →
    x.1.length = k * w ∧ x.2.2 = p + k * width w ∧ x.2.1 = b.drop (k * width w) ∧ k * width w ≤ b.length ∧
      ∀ y, y < k → ∀ i, i < 8 * width w → bitAt (b.drop (y * width w)) i = (decide (i < w) && x.1.getD (y * w + i) false)
  | 0, p, b, x, h => by
    rw [rowsIn] at h
    cases h
    simp
  | k + 1, p, b, x, h => by
    rw [rowsIn] at h
    split at h
    · cases h
    · rename_i hl
      split at h
      · cases h
      · rename_i ht
        cases hr : rowsIn w k (p + width w) (b.drop (width w)) with
        | error e =>
          rw [hr] at h
          cases h
        | ok z =>
          rw [hr] at h
          have h : Except.ok ((List.range w).map (bitAt b) ++ z.1, z.2.1, z.2.2) = Except.ok x := h
          cases h
          obtain ⟨i1, i2, i3, i4, i5⟩ := rowsIn_ok hw hr
          have ew : 8 * width w ≥ w := by unfold width; omega
          refine ⟨?_, ?_, ?_, ?_, ?_⟩
          · show ((List.range w).map (bitAt b) ++ z.1).length = (k + 1) * w
            rw [List.length_append, List.length_map, List.length_range, i1, Nat.add_mul]
            omega
          · show z.2.2 = _
            rw [i2, Nat.add_mul]
            omega
          · show z.2.1 = _
            rw [i3, List.drop_drop, Nat.add_mul]
            congr 1
            omega
          · rw [List.length_drop] at i4
            rw [Nat.add_mul]
            omega
          · intro y hy i hi
            cases y with
            | zero =>
              rw [Nat.zero_mul, Nat.zero_mul, Nat.zero_add, List.drop_zero]
              by_cases hiw : i < w
              · have e : ((List.range w).map (bitAt b) ++ z.1).getD i false = bitAt b i := by
                  rw [List.getD_eq_getElem?_getD, List.getElem?_append_left (by simpa using hiw)]
                  simp [hiw]
                show _ = (decide (i < w) && ((List.range w).map (bitAt b) ++ z.1).getD i false)
                rw [e]
                simp [hiw]
              · have hb : bitAt b i = false := by
                  apply Classical.byContradiction
                  intro hb
                  have hb : bitAt b i = true := by simpa using hb
                  apply ht
                  rw [List.any_eq_true]
                  refine ⟨i, List.mem_range.mpr hi, ?_⟩
                  simp [hb]
                  omega
                rw [hb]
                simp [hiw]
            | succ y =>
              have e1 := i5 y (by omega) i hi
              rw [List.drop_drop] at e1
              have e2 : width w + y * width w = (y + 1) * width w := by rw [Nat.add_mul]; omega
              rw [e2] at e1
              rw [e1]
              by_cases hiw : i < w
              · have e : ((List.range w).map (bitAt b) ++ z.1).getD ((y + 1) * w + i) false = z.1.getD (y * w + i) false := by
                  rw [List.getD_eq_getElem?_getD, List.getD_eq_getElem?_getD, List.getElem?_append_right (by rw [List.length_map, List.length_range, Nat.add_mul]; omega)]
                  rw [List.length_map, List.length_range]
                  have : (y + 1) * w + i - w = y * w + i := by rw [Nat.add_mul]; omega
                  rw [this]
                show _ = (decide (i < w) && ((List.range w).map (bitAt b) ++ z.1).getD ((y + 1) * w + i) false)
                rw [e]
              · simp [hiw]
/-- bytes that tell a sheet -/
structure Fits (b : Bytes) (s : Sheet) : Prop where
  w1 : 1 ≤ s.w
  w2 : s.w ≤ 24
  h1 : 1 ≤ s.h
  h2 : s.h ≤ 24
  len : b.length = 4 + s.h * width s.w
  b0 : (b.getD 0 0).toNat = s.w
  b2 : (b.getD 2 0).toNat = s.h
  size : s.dots.size = s.w * s.h
  row : ∀ y, y < s.h → rowN (8 * width s.w) (fun (j : Nat) => (b.getD (4 + y * width s.w + j / 8) 0).toNat.testBit (j % 8)) = rowN s.w fun (x : Nat) => s.at_ x y
theorem sized_iff (n : Nat) : sized n = true ↔ 1 ≤ n ∧ n ≤ 24 := by
  show (decide (1 ≤ n) && decide (n ≤ 24)) = true ↔ _
  rw [Bool.and_eq_true, decide_eq_true_eq, decide_eq_true_eq]
theorem sizeIn_ok {b : Bytes} {z : Nat × Nat} (h : sizeIn b = .ok z) : z.1 = (b.getD 0 0).toNat ∧ z.2 = (b.getD 2 0).toNat ∧ 1 ≤ z.1 ∧ z.1 ≤ 24 ∧ 1 ≤ z.2 ∧ z.2 ≤ 24 ∧ 4 ≤ b.length := by
  unfold sizeIn at h
  split at h
  · cases h
  · split at h
    · cases h
    · split at h
      · cases h
      · split at h
        · cases h
        · rename_i h1 h2 h3 h4
          cases h
          have h2 : sized (numAt b 0) = true := by simpa using h2
          have h4 : sized (numAt b 2) = true := by simpa using h4
          rw [sized_iff] at h2 h4
          have e0 : numAt b 0 = (b.getD 0 0).toNat + 256 * (b.getD 1 0).toNat := rfl
          have e2 : numAt b 2 = (b.getD 2 0).toNat + 256 * (b.getD 3 0).toNat := rfl
          show numAt b 0 = _ ∧ numAt b 2 = _ ∧ 1 ≤ numAt b 0 ∧ numAt b 0 ≤ 24 ∧ 1 ≤ numAt b 2 ∧ numAt b 2 ≤ 24 ∧ 4 ≤ b.length
          omega
theorem readSheet_ok {b : Bytes} {s : Sheet} (h : readSheet b = .ok s) : Fits b s := by
  unfold readSheet at h
  cases hz : sizeIn b with
  | error e =>
    rw [hz] at h
    cases h
  | ok z =>
    rw [hz] at h
    obtain ⟨z0, z2, z3, z4, z5, z6, z7⟩ := sizeIn_ok hz
    cases hr : rowsIn z.1 z.2 4 (b.drop 4) with
    | error e =>
      have h : (match rowsIn z.1 z.2 4 (b.drop 4) with
        | .error e => .error e
        | .ok x => if x.2.1 = [] then .ok ⟨z.1, z.2, x.1.toArray⟩ else .error ⟨4, x.2.2⟩ : Except Fault Sheet) = .ok s := h
      rw [hr] at h
      cases h
    | ok x =>
      have h : (match rowsIn z.1 z.2 4 (b.drop 4) with
        | .error e => .error e
        | .ok x => if x.2.1 = [] then .ok ⟨z.1, z.2, x.1.toArray⟩ else .error ⟨4, x.2.2⟩ : Except Fault Sheet) = .ok s := h
      rw [hr] at h
      have h : (if x.2.1 = [] then .ok ⟨z.1, z.2, x.1.toArray⟩ else .error ⟨4, x.2.2⟩ : Except Fault Sheet) = .ok s := h
      split at h
      · rename_i hx
        cases h
        obtain ⟨i1, i2, i3, i4, i5⟩ := rowsIn_ok z3 hr
        rw [hx] at i3
        have hlen : (b.drop 4).length = z.2 * width z.1 := by
          have := congrArg List.length i3
          rw [List.length_drop, List.length_nil] at this
          omega
        rw [List.length_drop] at hlen
        refine ⟨z3, z4, z5, z6, ?_, z0.symm, z2.symm, ?_, ?_⟩
        · show b.length = 4 + z.2 * width z.1
          omega
        · show x.1.toArray.size = z.1 * z.2
          rw [List.size_toArray, i1, Nat.mul_comm]
        · intro y hy
          have hy : y < z.2 := hy
          show rowN (8 * width z.1) (fun (j : Nat) => (b.getD (4 + y * width z.1 + j / 8) 0).toNat.testBit (j % 8)) = rowN z.1 fun (u : Nat) => (decide (u < z.1) && (decide (y < z.2) && x.1.toArray.getD (y * z.1 + u) false))
          have ew : z.1 ≤ 8 * width z.1 := by unfold width; omega
          have key : ∀ j, j < 8 * width z.1 → (b.getD (4 + y * width z.1 + j / 8) 0).toNat.testBit (j % 8) = (decide (j < z.1) && x.1.getD (y * z.1 + j) false) := by
            intro j hj
            have := i5 y hy j hj
            rw [List.drop_drop] at this
            unfold bitAt at this
            rw [getD_drop] at this
            exact this
          rw [rowN_more ew]
          · apply rowN_congr
            intro u hu
            rw [key u (by omega)]
            simp [hu, hy]
          · intro u h1 h2
            rw [key u h2]
            have : ¬ u < z.1 := by omega
            simp [this]
      · cases h
/-- the fault, step by step -/
theorem sheetFault_eq (b : Bytes) : sheetFault b =
    if b.length < 2 then [1, b.length]
    else if (numAt b 0 = 0 ∨ 24 < numAt b 0) then [2, 0]
    else if b.length < 4 then [1, b.length]
    else if (numAt b 2 = 0 ∨ 24 < numAt b 2) then [2, 2]
    else rowsFault (numAt b 0) (numAt b 2) 4 (b.drop 4) := by
  have hs : ∀ n, sized n = false ↔ (n = 0 ∨ 24 < n) := by
    intro n
    have := sized_iff n
    cases h : sized n
    · simp [h] at this
      simp
      omega
    · simp [h] at this
      simp
      omega
  unfold sheetFault readSheet sizeIn
  by_cases c1 : b.length < 2
  · rw [if_pos c1, if_pos c1]
    rfl
  · rw [if_neg c1, if_neg c1]
    by_cases c2 : sized (numAt b 0) = false
    · rw [if_pos c2, if_pos ((hs _).mp c2)]
      rfl
    · rw [if_neg c2, if_neg (fun q => c2 ((hs _).mpr q))]
      by_cases c3 : b.length < 4
      · rw [if_pos c3, if_pos c3]
        rfl
      · rw [if_neg c3, if_neg c3]
        by_cases c4 : sized (numAt b 2) = false
        · rw [if_pos c4, if_pos ((hs _).mp c4)]
          rfl
        · rw [if_neg c4, if_neg (fun q => c4 ((hs _).mpr q))]
          unfold rowsFault
          show (match (match rowsIn (numAt b 0) (numAt b 2) 4 (b.drop 4) with
            | .error e => .error e
            | .ok x => if x.2.1 = [] then .ok ⟨numAt b 0, numAt b 2, x.1.toArray⟩ else .error ⟨4, x.2.2⟩ : Except Fault Sheet) with
            | .error e => errL e
            | .ok _ => []) = _
          cases rowsIn (numAt b 0) (numAt b 2) 4 (b.drop 4) with
          | error e => rfl
          | ok x =>
            by_cases hx : x.2.1 = []
            · simp [hx]
            · simp [hx, errL]
def b2n (b : Bool) : Nat := if b then 1 else 0
def dotsOf (w r : Nat) : List Nat := (List.range w).map fun x => b2n (r.testBit x)
end Pm


set_option Elab.async false
set_option linter.unusedSimpArgs false
set_option linter.unusedVariables false
namespace Pm
open Plate

structure Lat (s : Screen) : Prop where
  a1 : 1 ≤ s.a
  a2 : s.a ≤ 8
  b2 : s.b ≤ 8
  n2 : s.n ≤ 64
theorem lat_of {s : Screen} (h : latticed s.a s.b = true) : Lat s := by
  have h : (decide (1 ≤ s.a) && (decide (s.a ≤ 8) && (decide (s.b ≤ 8) && decide (s.a * s.a + s.b * s.b ≤ 64)))) = true := h
  simp only [Bool.and_eq_true, decide_eq_true_eq] at h
  exact ⟨h.1, h.2.1, h.2.2.1, h.2.2.2⟩
theorem Lat.of_fine {s : Screen} (h : s.fine = true) : Lat s := by
  unfold Screen.fine at h
  rw [Bool.and_eq_true] at h
  exact lat_of h.1
section
variable {s : Screen} (L : Lat s)
include L
theorem Lat.n1 : 1 ≤ s.n := by
  unfold Screen.n
  have := Nat.mul_le_mul L.a1 L.a1
  omega
theorem Lat.g1 : 1 ≤ s.g := Nat.gcd_pos_of_pos_left _ L.a1
omit L in
theorem g_dvd_n : s.g ∣ s.n := by
  unfold Screen.n Screen.g
  exact Nat.dvd_add (Nat.dvd_mul_right_of_dvd (Nat.gcd_dvd_left _ _) _) (Nat.dvd_mul_right_of_dvd (Nat.gcd_dvd_right _ _) _)
theorem Lat.pg : s.p * s.g = s.n := Nat.div_mul_cancel g_dvd_n
theorem Lat.p1 : 1 ≤ s.p := by
  have h := L.pg
  have := L.n1
  apply Classical.byContradiction
  intro q
  have : s.p = 0 := by omega
  rw [this] at h
  omega
theorem Lat.p_le : s.p ≤ s.n := by
  have h := L.pg
  have := Nat.mul_le_mul_left s.p L.g1
  omega
theorem Lat.g_le : s.g ≤ 8 := Nat.le_trans (Nat.gcd_le_left _ L.a1) L.a2
end
theorem on_iff {s : Screen} {x y : Int} : s.onLattice x y = true ↔ (s.n : Int) ∣ s.a * x + s.b * y ∧ (s.n : Int) ∣ s.a * y - s.b * x := by
  unfold Screen.onLattice
  rw [Bool.and_eq_true, beq_iff_eq, beq_iff_eq]
  constructor
  · rintro ⟨h1, h2⟩
    exact ⟨Int.dvd_of_emod_eq_zero h1, Int.dvd_of_emod_eq_zero h2⟩
  · rintro ⟨h1, h2⟩
    exact ⟨Int.emod_eq_zero_of_dvd h1, Int.emod_eq_zero_of_dvd h2⟩
theorem n_cast (s : Screen) : (s.n : Int) = (s.a : Int) * s.a + (s.b : Int) * s.b := by
  unfold Screen.n
  simp
theorem on_sub {s : Screen} {x y x' y' : Int} (h : s.onLattice x y = true) (h' : s.onLattice x' y' = true) : s.onLattice (x - x') (y - y') = true := by
  rw [on_iff] at h h' ⊢
  refine ⟨?_, ?_⟩
  · have := Int.dvd_sub h.1 h'.1
    have e : (s.a : Int) * (x - x') + s.b * (y - y') = (s.a * x + s.b * y) - (s.a * x' + s.b * y') := by grind
    rw [e]
    exact this
  · have := Int.dvd_sub h.2 h'.2
    have e : (s.a : Int) * (y - y') - s.b * (x - x') = (s.a * y - s.b * x) - (s.a * y' - s.b * x') := by grind
    rw [e]
    exact this
theorem on_neg {s : Screen} {x y : Int} (h : s.onLattice x y = true) : s.onLattice (-x) (-y) = true := by
  have h0 : s.onLattice 0 0 = true := by rw [on_iff]; simp
  have := on_sub h0 h
  simpa using this
theorem on_add {s : Screen} {x y x' y' : Int} (h : s.onLattice x y = true) (h' : s.onLattice x' y' = true) : s.onLattice (x + x') (y + y') = true := by
  have := on_sub h (on_neg h')
  simpa [Int.sub_neg] using this
theorem on_zero {s : Screen} (L : Lat s) {u v : Int} (hu : u.natAbs < s.p) (hv : v.natAbs < s.g) (h : s.onLattice u v = true) : u = 0 ∧ v = 0 := by
  have hn := L.n1
  rw [on_iff] at h
  obtain ⟨⟨t, ht⟩, ⟨r, hr⟩⟩ := h
  have hv0 : v = 0 := by
    have e : (s.n : Int) * v = s.n * (s.a * r + s.b * t) := by
      have := n_cast s
      grind
    have e2 : v = s.a * r + s.b * t := Int.eq_of_mul_eq_mul_left (by omega) e
    have d : (s.g : Int) ∣ v := by
      rw [e2]
      exact Int.dvd_add (Int.dvd_mul_of_dvd_left (Int.natCast_dvd_natCast.mpr (Nat.gcd_dvd_left _ _))) (Int.dvd_mul_of_dvd_left (Int.natCast_dvd_natCast.mpr (Nat.gcd_dvd_right _ _)))
    have d2 : s.g ∣ v.natAbs := Int.ofNat_dvd_left.mp d
    have := Nat.eq_zero_of_dvd_of_lt d2 hv
    omega
  subst hv0
  have d1 : s.n ∣ s.a * u.natAbs := by
    have : (s.n : Int) ∣ s.a * u := ⟨t, by omega⟩
    have := Int.ofNat_dvd_left.mp this
    rw [Int.natAbs_mul, Int.natAbs_natCast] at this
    exact this
  have d2 : s.n ∣ s.b * u.natAbs := by
    have : (s.n : Int) ∣ s.b * u := ⟨-r, by rw [Int.mul_neg]; omega⟩
    have := Int.ofNat_dvd_left.mp this
    rw [Int.natAbs_mul, Int.natAbs_natCast] at this
    exact this
  have d3 : s.n ∣ s.g * u.natAbs := by
    have := Nat.dvd_gcd d1 d2
    rw [Nat.gcd_mul_right] at this
    exact this
  rw [← L.pg, Nat.mul_comm s.p s.g] at d3
  have d4 : s.p ∣ u.natAbs := Nat.dvd_of_mul_dvd_mul_left L.g1 d3
  have := Nat.eq_zero_of_dvd_of_lt d4 hu
  exact ⟨by omega, rfl⟩
theorem bezout_all : ∀ a : Nat, a < 9 → ∀ b : Nat, b < 9 → ∃ i : Nat, i < 17 ∧ ∃ j : Nat, j < 17 ∧ (a : Int) * ((i : Int) - 8) + (b : Int) * ((j : Int) - 8) = (Nat.gcd a b : Nat) := by decide +kernel
theorem bezout {s : Screen} (L : Lat s) : ∃ i j : Int, (s.a : Int) * i + s.b * j = s.g := by
  have ha := L.a2
  have hb := L.b2
  obtain ⟨i, _, j, _, h⟩ := bezout_all s.a (by omega) s.b (by omega)
  exact ⟨_, _, h⟩
theorem on_p {s : Screen} (L : Lat s) (m : Int) : s.onLattice (s.p * m) 0 = true := by
  have hp := L.pg
  have hp' : (s.p : Int) * s.g = s.n := by rw [← hp]; simp
  obtain ⟨ka, ha⟩ : s.g ∣ s.a := Nat.gcd_dvd_left _ _
  obtain ⟨kb, hb⟩ : s.g ∣ s.b := Nat.gcd_dvd_right _ _
  have ha' : (s.a : Int) = s.g * ka := by rw [← Int.natCast_mul, ← ha]
  have hb' : (s.b : Int) = s.g * kb := by rw [← Int.natCast_mul, ← hb]
  rw [on_iff]
  refine ⟨⟨ka * m, ?_⟩, ⟨-(kb * m), ?_⟩⟩
  · grind
  · grind
theorem class_ex {s : Screen} (L : Lat s) (x y : Int) : ∃ c, c < s.n ∧ s.onLattice (x - ((c % s.p : Nat) : Int)) (y - ((c / s.p : Nat) : Int)) = true := by
  obtain ⟨i, j, hb⟩ := bezout L
  have hp1 := L.p1
  have hg1 := L.g1
  have hpg := L.pg
  have hy0 : 0 ≤ y % s.g := Int.emod_nonneg _ (by omega)
  have hy1 : y % s.g < s.g := Int.emod_lt_of_pos _ (by omega)
  have hye := Int.mul_ediv_add_emod y s.g
  generalize hk : y / (s.g : Int) = k at hye
  generalize hv : y % (s.g : Int) = v at hye hy0 hy1
  generalize hX : x - k * (j * s.a - i * s.b) = x'
  have hx0 : 0 ≤ x' % s.p := Int.emod_nonneg _ (by omega)
  have hx1 : x' % s.p < s.p := Int.emod_lt_of_pos _ (by omega)
  have hxe := Int.mul_ediv_add_emod x' s.p
  generalize hm : x' / (s.p : Int) = m at hxe
  generalize hu : x' % (s.p : Int) = u at hxe hx0 hx1
  have hc1 : (v.toNat * s.p + u.toNat) % s.p = u.toNat := place_mod (by omega)
  have hc2 : (v.toNat * s.p + u.toNat) / s.p = v.toNat := place_div (by omega)
  refine ⟨v.toNat * s.p + u.toNat, ?_, ?_⟩
  · have h := place_lt (w := s.p) (h := s.g) (x := u.toNat) (y := v.toNat) (by omega) (by omega)
    rw [hpg] at h
    exact h
  · rw [hc1, hc2]
    have e1 : ((u.toNat : Nat) : Int) = u := by omega
    have e2 : ((v.toNat : Nat) : Int) = v := by omega
    rw [e1, e2]
    have h1 : s.onLattice (k * (j * s.a - i * s.b)) (k * s.g) = true := by
      rw [on_iff]
      have hn := n_cast s
      refine ⟨⟨k * j, ?_⟩, ⟨k * i, ?_⟩⟩
      · rw [← hb, hn]; grind
      · rw [← hb, hn]; grind
    have h2 := on_add h1 (on_p L m)
    have e3 : x - u = k * (j * s.a - i * s.b) + s.p * m := by omega
    have e4 : y - v = k * s.g + 0 := by
      have : (s.g : Int) * k = k * s.g := Int.mul_comm _ _
      omega
    rw [e3, e4]
    exact h2
theorem class_uniq {s : Screen} (L : Lat s) {x y : Int} {c d : Nat} (hc : c < s.n) (hd : d < s.n) (h1 : s.onLattice (x - ((c % s.p : Nat) : Int)) (y - ((c / s.p : Nat) : Int)) = true)
    (h2 : s.onLattice (x - ((d % s.p : Nat) : Int)) (y - ((d / s.p : Nat) : Int)) = true) : c = d := by
  have h := on_sub h1 h2
  have hp1 := L.p1
  have hpg := L.pg
  have m1 := Nat.mod_lt c (show s.p > 0 by omega)
  have m2 := Nat.mod_lt d (show s.p > 0 by omega)
  have d1 : c / s.p < s.g := by rw [Nat.div_lt_iff_lt_mul (by omega), Nat.mul_comm, hpg]; exact hc
  have d2 : d / s.p < s.g := by rw [Nat.div_lt_iff_lt_mul (by omega), Nat.mul_comm, hpg]; exact hd
  have hcc := Nat.div_add_mod c s.p
  have hdd := Nat.div_add_mod d s.p
  clear h1 h2 hc hd hpg
  generalize c / s.p = c1 at *
  generalize d / s.p = d3 at *
  generalize c % s.p = c2 at *
  generalize d % s.p = d4 at *
  have z := on_zero L (by omega) (by omega) h
  have e1 : c2 = d4 := by omega
  have e2 : c1 = d3 := by omega
  rw [← hcc, ← hdd, e1, e2]
theorem classOf_spec {s : Screen} (L : Lat s) (x y : Int) : s.classOf x y < s.n ∧ s.onLattice (x - ((s.classOf x y % s.p : Nat) : Int)) (y - ((s.classOf x y / s.p : Nat) : Int)) = true := by
  obtain ⟨c, hc, h⟩ := class_ex L x y
  unfold Screen.classOf
  cases hf : (List.range (s.p * s.g)).find? fun (c : Nat) => s.onLattice (x - ((c % s.p : Nat) : Int)) (y - ((c / s.p : Nat) : Int)) with
  | none =>
    have := List.find?_eq_none.mp hf c (List.mem_range.mpr (by rw [L.pg]; exact hc))
    exact absurd h this
  | some d =>
    have h1 := List.find?_some hf
    have h2 := List.mem_of_find?_eq_some hf
    rw [List.mem_range, L.pg] at h2
    exact ⟨h2, h1⟩
theorem classOf_eq {s : Screen} (L : Lat s) {x y : Int} {c : Nat} (hc : c < s.n) (h : s.onLattice (x - ((c % s.p : Nat) : Int)) (y - ((c / s.p : Nat) : Int)) = true) : s.classOf x y = c := by
  obtain ⟨h1, h2⟩ := classOf_spec L x y
  exact class_uniq L h1 hc h2 h
end Pm


set_option Elab.async false
set_option linter.unusedSimpArgs false
set_option linter.unusedVariables false
namespace Pm
open Plate

theorem foldl_min_le (l : List Nat) (m : Nat) : l.foldl min m ≤ m ∧ ∀ x ∈ l, l.foldl min m ≤ x := by
  induction l generalizing m with
  | nil => exact ⟨Nat.le_refl _, fun x h => by simp at h⟩
  | cons a l ih =>
    rw [List.foldl_cons]
    obtain ⟨h1, h2⟩ := ih (min m a)
    refine ⟨by omega, fun x hx => ?_⟩
    rcases List.mem_cons.mp hx with rfl | hx
    · omega
    · exact h2 x hx
theorem foldl_min_mem (l : List Nat) (m : Nat) : l.foldl min m = m ∨ l.foldl min m ∈ l := by
  induction l generalizing m with
  | nil => exact .inl rfl
  | cons a l ih =>
    rw [List.foldl_cons]
    rcases ih (min m a) with h | h
    · rw [h]
      by_cases c : m ≤ a
      · exact .inl (Nat.min_eq_left c)
      · exact .inr (by rw [Nat.min_eq_right (by omega)]; exact List.mem_cons_self ..)
    · exact .inr (List.mem_cons_of_mem _ h)
theorem least_le {l : List Nat} {x : Nat} (h : x ∈ l) : least l ≤ x := (foldl_min_le l _).2 x h
theorem least_mem {l : List Nat} (h : l ≠ []) : least l ∈ l := by
  unfold least
  cases l with
  | nil => exact absurd rfl h
  | cons a l =>
    rcases foldl_min_mem (a :: l) a with q | q
    · show (a :: l).foldl min a ∈ a :: l
      rw [q]
      exact List.mem_cons_self ..
    · exact q
theorem mem_around {k : Nat} {i : Int} : i ∈ around k ↔ -(k : Int) ≤ i ∧ i ≤ k := by
  unfold around
  rw [List.mem_map]
  constructor
  · rintro ⟨m, hm, rfl⟩
    rw [List.mem_range] at hm
    omega
  · rintro ⟨h1, h2⟩
    exact ⟨(i + k).toNat, List.mem_range.mpr (by omega), by omega⟩

/-- along (a, b), along (-b, a): n times how many steps -/
def alongA (s : Screen) (x y : Int) : Int := s.a * x + s.b * y
def alongB (s : Screen) (x y : Int) : Int := s.a * y - s.b * x
def sq (s : Screen) (x y i j : Int) : Nat := ((x - (s.step i j).1) * (x - (s.step i j).1) + (y - (s.step i j).2) * (y - (s.step i j).2)).natAbs
def li (s : Screen) (x y i j : Int) : Nat := (x - (s.step i j).1).natAbs + (y - (s.step i j).2).natAbs
def ln (s : Screen) (x y m : Int) : Nat := (s.a * y - s.b * x - s.n * m).natAbs
/-- d is how far the place is, of all places of the lattice -/
def IsFar (s : Screen) (x y : Int) (d : Nat) : Prop := match s.way with
  | 0 => (∃ i j, d = sq s x y i j) ∧ ∀ i j, d ≤ sq s x y i j
  | 1 => (∃ i j, d = li s x y i j) ∧ ∀ i j, d ≤ li s x y i j
  | _ => (∃ m, d = ln s x y m) ∧ ∀ m, d ≤ ln s x y m
theorem IsFar.uniq {s : Screen} {x y : Int} {d e : Nat} (h : IsFar s x y d) (h' : IsFar s x y e) : d = e := by
  unfold IsFar at h h'
  generalize s.way = k at h h'
  match k, h, h' with
  | 0, ⟨⟨i, j, h1⟩, h2⟩, ⟨⟨i', j', h3⟩, h4⟩ =>
    have := h2 i' j'
    have := h4 i j
    omega
  | 1, ⟨⟨i, j, h1⟩, h2⟩, ⟨⟨i', j', h3⟩, h4⟩ =>
    have := h2 i' j'
    have := h4 i j
    omega
  | k + 2, ⟨⟨i, h1⟩, h2⟩, ⟨⟨i', h3⟩, h4⟩ =>
    have := h2 i'
    have := h4 i
    omega
/-- the whole number nearest A / N -/
def near (A N : Int) : Int := (2 * A + N) / (2 * N)
theorem near_le {A N : Int} (hN : 0 < N) : -N ≤ 2 * (A - N * near A N) ∧ 2 * (A - N * near A N) ≤ N := by
  unfold near
  have h1 := Int.mul_ediv_add_emod (2 * A + N) (2 * N)
  have h2 := Int.emod_nonneg (2 * A + N) (show 2 * N ≠ 0 by omega)
  have h3 := Int.emod_lt_of_pos (2 * A + N) (show 0 < 2 * N by omega)
  generalize (2 * A + N) / (2 * N) = q at h1 ⊢
  generalize (2 * A + N) % (2 * N) = r at h1 h2 h3
  have e : 2 * N * q = 2 * (N * q) := by rw [Int.mul_assoc]
  rw [e] at h1
  generalize N * q = z at h1 ⊢
  omega
theorem abs_mul_ge {N d : Int} (hN : 0 < N) (hd : d ≠ 0) : N ≤ (N * d).natAbs := by
  rw [Int.natAbs_mul]
  have h1 : 1 ≤ d.natAbs := by omega
  have h2 := Nat.mul_le_mul_left N.natAbs h1
  omega
theorem near_best {A N : Int} (hN : 0 < N) (i : Int) : (A - N * near A N).natAbs ≤ (A - N * i).natAbs := by
  obtain ⟨h1, h2⟩ := near_le (A := A) hN
  generalize near A N = q at *
  by_cases e : q = i
  · rw [e]
    exact Nat.le_refl _
  · have h3 := abs_mul_ge hN (show q - i ≠ 0 by omega)
    have e2 : N * (q - i) = N * q - N * i := Int.mul_sub ..
    rw [e2] at h3
    generalize N * q = z at *
    generalize N * i = z' at *
    omega
theorem sq_mono {u v : Int} (h : u.natAbs ≤ v.natAbs) : u * u ≤ v * v := by
  have h1 := Nat.mul_le_mul h h
  rw [← Int.natAbs_mul, ← Int.natAbs_mul] at h1
  have h2 : 0 ≤ u * u := by
    rw [← Int.natAbs_mul_self]
    exact Int.natCast_nonneg _
  have h3 : 0 ≤ v * v := by
    rw [← Int.natAbs_mul_self]
    exact Int.natCast_nonneg _
  omega
theorem sq_nonneg (u : Int) : 0 ≤ u * u := by
  rw [← Int.natAbs_mul_self]
  exact Int.natCast_nonneg _
/-- n times a square of a distance is two squares -/
theorem sq_parts (s : Screen) (x y i j : Int) : (s.n : Int) * (sq s x y i j : Nat) = (alongA s x y - s.n * i) * (alongA s x y - s.n * i) + (alongB s x y - s.n * j) * (alongB s x y - s.n * j) := by
  have h0 : ((sq s x y i j : Nat) : Int) = (x - (s.step i j).1) * (x - (s.step i j).1) + (y - (s.step i j).2) * (y - (s.step i j).2) := by
    unfold sq
    have h1 := sq_nonneg (x - (s.step i j).1)
    have h2 := sq_nonneg (y - (s.step i j).2)
    omega
  rw [h0]
  unfold alongA alongB Screen.step
  have hn := n_cast s
  dsimp only
  rw [hn]
  grind
section
variable {s : Screen} (L : Lat s)
include L
theorem sq_best (x y i j : Int) : sq s x y (near (alongA s x y) s.n) (near (alongB s x y) s.n) ≤ sq s x y i j := by
  have hn := L.n1
  have hN : (0 : Int) < s.n := by omega
  have e1 := sq_parts s x y (near (alongA s x y) s.n) (near (alongB s x y) s.n)
  have e2 := sq_parts s x y i j
  have m1 := sq_mono (near_best (A := alongA s x y) hN i)
  have m2 := sq_mono (near_best (A := alongB s x y) hN j)
  have h : (s.n : Int) * (sq s x y (near (alongA s x y) s.n) (near (alongB s x y) s.n) : Nat) ≤ s.n * (sq s x y i j : Nat) := by omega
  have := Int.le_of_mul_le_mul_left h hN
  omega
theorem sq_half (x y : Int) : 2 * sq s x y (near (alongA s x y) s.n) (near (alongB s x y) s.n) ≤ s.n := by
  have hn := L.n1
  have hN : (0 : Int) < s.n := by omega
  have e1 := sq_parts s x y (near (alongA s x y) s.n) (near (alongB s x y) s.n)
  obtain ⟨a1, a2⟩ := near_le (A := alongA s x y) hN
  obtain ⟨b1, b2⟩ := near_le (A := alongB s x y) hN
  generalize alongA s x y - s.n * near (alongA s x y) s.n = u at *
  generalize alongB s x y - s.n * near (alongB s x y) s.n = v at *
  generalize sq s x y _ _ = d at *
  have m1 := sq_mono (u := 2 * u) (v := s.n) (by omega)
  have m2 := sq_mono (u := 2 * v) (v := s.n) (by omega)
  have f1 : 2 * u * (2 * u) = 4 * (u * u) := by grind
  have f2 : 2 * v * (2 * v) = 4 * (v * v) := by grind
  rw [f1] at m1
  rw [f2] at m2
  have h : (s.n : Int) * ((2 * d : Nat) : Int) ≤ s.n * s.n := by
    have : (s.n : Int) * ((2 * d : Nat) : Int) = 2 * (s.n * (d : Int)) := by
      rw [Int.natCast_mul]
      grind
    omega
  have := Int.le_of_mul_le_mul_left h hN
  omega
/-- a place of the lattice that is more than a step away, along or across, is farther than the square root of n -/
theorem sq_out {x y i j : Int} (h : s.n < (alongA s x y - s.n * i).natAbs ∨ s.n < (alongB s x y - s.n * j).natAbs) : s.n < sq s x y i j := by
  have hn := L.n1
  have hN : (0 : Int) < s.n := by omega
  have e1 := sq_parts s x y i j
  have q1 := sq_nonneg (alongA s x y - s.n * i)
  have q2 := sq_nonneg (alongB s x y - s.n * j)
  have big : ∀ u : Int, s.n < u.natAbs → (s.n : Int) * s.n < u * u := by
    intro u hu
    have h1 : (s.n + 1) * (s.n + 1) ≤ u.natAbs * u.natAbs := Nat.mul_le_mul hu hu
    rw [← Int.natAbs_mul] at h1
    have h2 := sq_nonneg u
    have h3 : (s.n + 1) * (s.n + 1) = s.n * s.n + 2 * s.n + 1 := by grind
    have h4 : (s.n : Int) * s.n = ((s.n * s.n : Nat) : Int) := by simp
    omega
  have h : (s.n : Int) * s.n < s.n * (sq s x y i j : Nat) := by
    rcases h with h | h
    · have := big _ h
      omega
    · have := big _ h
      omega
  have := Int.lt_of_mul_lt_mul_left h (by omega)
  omega
end
theorem li_sq (s : Screen) (x y i j : Int) : sq s x y i j ≤ li s x y i j * li s x y i j ∧ li s x y i j * li s x y i j ≤ 2 * sq s x y i j := by
  have h0 : sq s x y i j = (x - (s.step i j).1).natAbs * (x - (s.step i j).1).natAbs + (y - (s.step i j).2).natAbs * (y - (s.step i j).2).natAbs := by
    unfold sq
    have h1 := sq_nonneg (x - (s.step i j).1)
    have h2 := sq_nonneg (y - (s.step i j).2)
    rw [← Int.natAbs_mul, ← Int.natAbs_mul]
    omega
  rw [h0]
  unfold li
  generalize (x - (s.step i j).1).natAbs = u
  generalize (y - (s.step i j).2).natAbs = v
  have e : (u + v) * (u + v) = u * u + 2 * (u * v) + v * v := by grind
  have q : 2 * (u * v) ≤ u * u + v * v := by
    have h1 := sq_nonneg ((u : Int) - v)
    have h2 : ((u : Int) - v) * (u - v) = u * u - 2 * (u * v) + v * v := by grind
    have h3 : (u : Int) * u = ((u * u : Nat) : Int) := by simp
    have h4 : (u : Int) * v = ((u * v : Nat) : Int) := by simp
    have h5 : (v : Int) * v = ((v * v : Nat) : Int) := by simp
    omega
  rw [e]
  exact ⟨by omega, by omega⟩
theorem sqr_lt {m k : Nat} (h : m * m < k * k) : m < k := by
  apply Classical.byContradiction
  intro q
  have := Nat.mul_le_mul (show k ≤ m by omega) (show k ≤ m by omega)
  omega
/-- the places near by of the lattice: no more than a step away, along and across -/
def Near (s : Screen) (x y i j : Int) : Prop := (alongA s x y - s.n * i).natAbs ≤ s.n ∧ (alongB s x y - s.n * j).natAbs ≤ s.n
theorem near_near {s : Screen} (L : Lat s) (x y : Int) : Near s x y (near (alongA s x y) s.n) (near (alongB s x y) s.n) := by
  have hn := L.n1
  have hN : (0 : Int) < s.n := by omega
  obtain ⟨a1, a2⟩ := near_le (A := alongA s x y) hN
  obtain ⟨b1, b2⟩ := near_le (A := alongB s x y) hN
  unfold Near
  generalize alongA s x y - s.n * near (alongA s x y) s.n = u at *
  generalize alongB s x y - s.n * near (alongB s x y) s.n = v at *
  exact ⟨by omega, by omega⟩
theorem li_best {s : Screen} (L : Lat s) (x y i j : Int) : Near s x y i j ∨ li s x y (near (alongA s x y) s.n) (near (alongB s x y) s.n) ≤ li s x y i j := by
  by_cases h : Near s x y i j
  · exact .inl h
  · right
    have h : s.n < (alongA s x y - s.n * i).natAbs ∨ s.n < (alongB s x y - s.n * j).natAbs := by
      unfold Near at h
      omega
    have h1 := sq_out L h
    have h2 := sq_half L x y
    have h3 := (li_sq s x y i j).1
    have h4 := (li_sq s x y (near (alongA s x y) s.n) (near (alongB s x y) s.n)).2
    exact Nat.le_of_lt (sqr_lt (by omega))
theorem ln_best {s : Screen} (L : Lat s) (x y m : Int) : ln s x y (near (alongB s x y) s.n) ≤ ln s x y m := by
  have hn := L.n1
  exact near_best (A := alongB s x y) (show (0 : Int) < s.n by omega) m
/-- **any search that has all places near by finds how far it is** -/
theorem far_by {s : Screen} (L : Lat s) {x y : Int} (P : Int → Int → Prop) (hP : ∀ i j, Near s x y i j → P i j) {d : Nat}
    (h0 : s.way = 0 → (∃ i j, d = sq s x y i j) ∧ ∀ i j, P i j → d ≤ sq s x y i j)
    (h1 : s.way = 1 → (∃ i j, d = li s x y i j) ∧ ∀ i j, P i j → d ≤ li s x y i j)
    (h2 : s.way ≠ 0 → s.way ≠ 1 → (∃ m, d = ln s x y m) ∧ d ≤ ln s x y (near (alongB s x y) s.n)) : IsFar s x y d := by
  have hq := hP _ _ (near_near L x y)
  unfold IsFar
  split
  · rename_i e
    obtain ⟨e1, e2⟩ := h0 e
    exact ⟨e1, fun i j => Nat.le_trans (e2 _ _ hq) (sq_best L x y i j)⟩
  · rename_i e
    obtain ⟨e1, e2⟩ := h1 e
    refine ⟨e1, fun i j => ?_⟩
    rcases li_best L x y i j with c | c
    · exact e2 i j (hP i j c)
    · exact Nat.le_trans (e2 _ _ hq) c
  · rename_i e e'
    obtain ⟨e1, e2⟩ := h2 (fun q => e q) (fun q => e' q)
    exact ⟨e1, fun m => Nat.le_trans e2 (ln_best L x y m)⟩
/-- near by of a place within p by g: few steps -/
theorem near_few {s : Screen} (L : Lat s) {u v : Nat} (hu : u < s.p) (hv : v < s.g) {i j : Int} (h : Near s (u : Int) (v : Int) i j) : i ∈ around (s.a + s.b + 2) ∧ j ∈ around (s.a + s.b + 2) := by
  have hn := L.n1
  have hN : (0 : Int) < s.n := by omega
  have hp := L.p_le
  have hg : s.g ≤ s.a := Nat.gcd_le_left _ L.a1
  obtain ⟨h1, h2⟩ := h
  -- 0 ≤ a u + b v ≤ (a + b) n, - b n ≤ a v - b u ≤ a n
  have hvn : v ≤ s.n := by
    have : s.g ≤ s.n := Nat.le_of_dvd hn g_dvd_n
    omega
  have hun : u ≤ s.n := by omega
  have m1 : s.a * u ≤ s.a * s.n := Nat.mul_le_mul_left _ hun
  have m2 : s.b * v ≤ s.b * s.n := Nat.mul_le_mul_left _ hvn
  have m3 : s.a * v ≤ s.a * s.n := Nat.mul_le_mul_left _ hvn
  have m4 : s.b * u ≤ s.b * s.n := Nat.mul_le_mul_left _ hun
  have ea : alongA s u v = ((s.a * u + s.b * v : Nat) : Int) := by unfold alongA; simp
  have eb : alongB s u v = ((s.a * v : Nat) : Int) - ((s.b * u : Nat) : Int) := by unfold alongB; simp
  rw [ea] at h1
  rw [eb] at h2
  have key : ∀ i : Int, -(((s.a + s.b + 1) * s.n : Nat) : Int) ≤ s.n * i → s.n * i ≤ (((s.a + s.b + 1) * s.n : Nat) : Int) → i ∈ around (s.a + s.b + 2) := by
    intro i q1 q2
    have e : (((s.a + s.b + 1) * s.n : Nat) : Int) = s.n * ((s.a + s.b + 1 : Nat) : Int) := by
      rw [Int.natCast_mul, Int.mul_comm]
    rw [e] at q1 q2
    have r2 := Int.le_of_mul_le_mul_left q2 hN
    have q1' : (s.n : Int) * (-((s.a + s.b + 1 : Nat) : Int)) ≤ s.n * i := by rw [Int.mul_neg]; exact q1
    have r1 := Int.le_of_mul_le_mul_left q1' hN
    rw [mem_around]
    omega
  have ee : (s.a + s.b + 1) * s.n = s.a * s.n + s.b * s.n + s.n := by rw [Nat.add_mul, Nat.add_mul]; omega
  refine ⟨key i ?_ ?_, key j ?_ ?_⟩ <;> (rw [ee]; generalize s.a * s.n = z1 at *; generalize s.b * s.n = z2 at *; generalize (s.n : Int) * i = z3 at *; generalize (s.n : Int) * j = z4 at *; omega)
/-- how far the class numbered c is -/
theorem far_spec {s : Screen} (L : Lat s) {c : Nat} (hc : c < s.n) : IsFar s ((c % s.p : Nat) : Int) ((c / s.p : Nat) : Int) (s.far c) := by
  have hp1 := L.p1
  have hu := Nat.mod_lt c (show s.p > 0 by omega)
  have hv : c / s.p < s.g := by rw [Nat.div_lt_iff_lt_mul (by omega), Nat.mul_comm, L.pg]; exact hc
  generalize hx : c % s.p = u at *
  generalize hy : c / s.p = v at *
  have few := fun i j => near_few (i := i) (j := j) L hu hv
  unfold Screen.far
  rw [hx, hy]
  generalize hk : s.a + s.b + 2 = k at *
  have hz : (0 : Int) ∈ around k := mem_around.mpr (by omega)
  refine far_by L (fun i j => i ∈ around k ∧ j ∈ around k) few (fun e => ?_) (fun e => ?_) (fun e e' => ?_)
  · have ef : s.farIn k u v = least ((around k).flatMap fun (i : Int) => (around k).map fun (j : Int) => sq s u v i j) := by
      unfold Screen.farIn
      rw [e]
      rfl
    rw [ef]
    constructor
    · have hm := least_mem (l := (around k).flatMap fun (i : Int) => (around k).map fun (j : Int) => sq s u v i j) (by
        intro q
        have : sq s u v 0 0 ∈ (around k).flatMap fun (i : Int) => (around k).map fun (j : Int) => sq s u v i j := List.mem_flatMap.mpr ⟨0, hz, List.mem_map.mpr ⟨0, hz, rfl⟩⟩
        rw [q] at this
        simp at this)
      obtain ⟨i, _, hi⟩ := List.mem_flatMap.mp hm
      obtain ⟨j, _, hj⟩ := List.mem_map.mp hi
      exact ⟨i, j, hj.symm⟩
    · rintro i j ⟨hi, hj⟩
      exact least_le (List.mem_flatMap.mpr ⟨i, hi, List.mem_map.mpr ⟨j, hj, rfl⟩⟩)
  · have ef : s.farIn k u v = least ((around k).flatMap fun (i : Int) => (around k).map fun (j : Int) => li s u v i j) := by
      unfold Screen.farIn
      rw [e]
      rfl
    rw [ef]
    constructor
    · have hm := least_mem (l := (around k).flatMap fun (i : Int) => (around k).map fun (j : Int) => li s u v i j) (by
        intro q
        have : li s u v 0 0 ∈ (around k).flatMap fun (i : Int) => (around k).map fun (j : Int) => li s u v i j := List.mem_flatMap.mpr ⟨0, hz, List.mem_map.mpr ⟨0, hz, rfl⟩⟩
        rw [q] at this
        simp at this)
      obtain ⟨i, _, hi⟩ := List.mem_flatMap.mp hm
      obtain ⟨j, _, hj⟩ := List.mem_map.mp hi
      exact ⟨i, j, hj.symm⟩
    · rintro i j ⟨hi, hj⟩
      exact least_le (List.mem_flatMap.mpr ⟨i, hi, List.mem_map.mpr ⟨j, hj, rfl⟩⟩)
  · have ef : s.farIn k u v = least ((around k).map fun (m : Int) => ln s u v m) := by
      unfold Screen.farIn
      split
      · rename_i q
        exact absurd q e
      · rename_i q
        exact absurd q e'
      · rfl
    rw [ef]
    constructor
    · have hm := least_mem (l := (around k).map fun (m : Int) => ln s u v m) (by
        intro q
        have : ln s u v 0 ∈ (around k).map fun (m : Int) => ln s u v m := List.mem_map.mpr ⟨0, hz, rfl⟩
        rw [q] at this
        simp at this)
      obtain ⟨i, _, hi⟩ := List.mem_map.mp hm
      exact ⟨i, hi.symm⟩
    · exact least_le (List.mem_map.mpr ⟨_, (few _ _ (near_near L u v)).2, rfl⟩)
theorem steps_on {s : Screen} (i j : Int) : s.onLattice (s.step i j).1 (s.step i j).2 = true := by
  rw [on_iff]
  have hc := n_cast s
  unfold Screen.step
  dsimp only
  refine ⟨⟨i, ?_⟩, ⟨j, ?_⟩⟩
  · grind
  · grind
end Pm


set_option Elab.async false
set_option linter.unusedSimpArgs false
set_option linter.unusedVariables false
namespace Pm
open Plate

/-- the least x such that (x, g) is on the lattice -/
def slantOf (s : Screen) : Nat := ((List.range s.p).find? fun (x : Nat) => s.onLattice (x : Int) (s.g : Int)).getD 0
theorem slant_spec {s : Screen} (L : Lat s) : s.onLattice (slantOf s : Int) (s.g : Int) = true ∧ slantOf s < s.p ∧ ∀ x : Nat, x < slantOf s → s.onLattice (x : Int) (s.g : Int) = false := by
  have hp := L.p1
  have hg := L.g1
  -- the class of (0, -g) tells one
  obtain ⟨c, hc, ho⟩ := class_ex L 0 (-(s.g : Int))
  have hpg := L.pg
  have hr : c / s.p < s.g := Nat.div_lt_of_lt_mul (by rw [hpg]; exact hc)
  have hm : c % s.p < s.p := Nat.mod_lt _ hp
  -- some place (x, g) is on the lattice
  have ex : ∃ x : Nat, x < s.p ∧ s.onLattice (x : Int) (s.g : Int) = true := by
    obtain ⟨i, j, hb⟩ := bezout L
    have h1 : s.onLattice (s.step j i).1 (s.step j i).2 = true := steps_on j i
    have e1 : (s.step j i).2 = (s.g : Int) := by
      show j * (s.b : Int) + i * (s.a : Int) = _
      rw [← hb, Int.mul_comm j, Int.mul_comm i]
      omega
    rw [e1] at h1
    generalize (s.step j i).1 = z at h1
    refine ⟨(z % (s.p : Int)).toNat, ?_, ?_⟩
    · have := Int.emod_lt_of_pos z (show (0 : Int) < s.p by omega)
      have := Int.emod_nonneg z (show (s.p : Int) ≠ 0 by omega)
      omega
    · have q := Int.emod_nonneg z (show (s.p : Int) ≠ 0 by omega)
      have e2 : ((z % (s.p : Int)).toNat : Int) = z - s.p * (z / s.p) := by
        have := Int.emod_def z s.p
        omega
      rw [e2]
      have h2 := on_sub h1 (on_p L (z / s.p))
      rw [Int.sub_zero] at h2
      exact h2
  obtain ⟨x, hx, hxo⟩ := ex
  have hf : ∃ y, (List.range s.p).find? (fun (x : Nat) => s.onLattice (x : Int) (s.g : Int)) = some y := by
    rw [← Option.isSome_iff_exists, List.find?_isSome]
    exact ⟨x, List.mem_range.mpr hx, hxo⟩
  obtain ⟨y, hy⟩ := hf
  have e : slantOf s = y := by unfold slantOf; rw [hy]; rfl
  rw [e]
  have hy1 := List.find?_some hy
  have hy2 := List.mem_of_find?_eq_some hy
  refine ⟨hy1, List.mem_range.mp hy2, fun k hk => ?_⟩
  rw [List.find?_range_eq_some] at hy
  have := hy.2.2 k hk
  simpa using this
theorem on_mul {s : Screen} {x y : Int} (h : s.onLattice x y = true) (m : Int) : s.onLattice (m * x) (m * y) = true := by
  rw [on_iff] at h ⊢
  obtain ⟨h1, h2⟩ := h
  refine ⟨?_, ?_⟩
  · have e : (s.a : Int) * (m * x) + s.b * (m * y) = m * (s.a * x + s.b * y) := by grind
    rw [e]
    exact Int.dvd_mul_of_dvd_right h1
  · have e : (s.a : Int) * (m * y) - s.b * (m * x) = m * (s.a * y - s.b * x) := by grind
    rw [e]
    exact Int.dvd_mul_of_dvd_right h2
/-- the class by its slant -/
theorem class_code {s : Screen} (L : Lat s) (x y : Int) : y % (s.g : Int) * (s.p : Int) + (x - y / (s.g : Int) * (slantOf s : Int)) % (s.p : Int) = (s.classOf x y : Nat) := by
  have hp := L.p1
  have hg := L.g1
  obtain ⟨so, sl, _⟩ := slant_spec L
  have g0 : (0 : Int) < s.g := by omega
  have p0 : (0 : Int) < s.p := by omega
  have v1 := Int.emod_nonneg y (show (s.g : Int) ≠ 0 by omega)
  have v2 := Int.emod_lt_of_pos y g0
  have u1 := Int.emod_nonneg (x - y / (s.g : Int) * (slantOf s : Int)) (show (s.p : Int) ≠ 0 by omega)
  have u2 := Int.emod_lt_of_pos (x - y / (s.g : Int) * (slantOf s : Int)) p0
  obtain ⟨v, hv⟩ : ∃ v : Nat, y % (s.g : Int) = v := ⟨(y % (s.g : Int)).toNat, by omega⟩
  obtain ⟨u, hu⟩ : ∃ u : Nat, (x - y / (s.g : Int) * (slantOf s : Int)) % (s.p : Int) = u := ⟨((x - y / (s.g : Int) * (slantOf s : Int)) % (s.p : Int)).toNat, by omega⟩
  rw [hv, hu]
  rw [hv] at v2
  rw [hu] at u2
  have hul : u < s.p := by omega
  have hvl : v < s.g := by omega
  have hc : v * s.p + u < s.n := by
    rw [← L.pg]
    calc v * s.p + u < v * s.p + s.p := by omega
      _ = (v + 1) * s.p := by rw [Nat.add_mul, Nat.one_mul]
      _ ≤ s.g * s.p := Nat.mul_le_mul_right _ hvl
      _ = s.p * s.g := Nat.mul_comm ..
  have e1 : (v * s.p + u) % s.p = u := by rw [Nat.mul_comm, Nat.mul_add_mod, Nat.mod_eq_of_lt hul]
  have e2 : (v * s.p + u) / s.p = v := by rw [Nat.mul_comm, Nat.mul_add_div hp, Nat.div_eq_of_lt hul, Nat.add_zero]
  have key : s.classOf x y = v * s.p + u := by
    refine classOf_eq L hc ?_
    rw [e1, e2, ← hv, ← hu]
    have d1 := Int.emod_def y s.g
    have d2 := Int.emod_def (x - y / (s.g : Int) * (slantOf s : Int)) s.p
    have h1 := on_add (on_mul so (y / (s.g : Int))) (on_p L ((x - y / (s.g : Int) * (slantOf s : Int)) / s.p))
    have f1 : x - (x - y / (s.g : Int) * (slantOf s : Int)) % (s.p : Int) = y / (s.g : Int) * (slantOf s : Int) + s.p * ((x - y / (s.g : Int) * (slantOf s : Int)) / s.p) := by omega
    have f2 : y - y % (s.g : Int) = y / (s.g : Int) * s.g + 0 := by rw [Int.mul_comm (y / _)]; omega
    rw [f1, f2]
    exact h1
  rw [key]
  simp

def cornerAt (s : Screen) (x y : Int) : List (Int × Int) :=
  let i := alongA s x y / s.n
  let j := alongB s x y / s.n
  [(i, j), (i + 1, j), (i, j + 1), (i + 1, j + 1)]
def stepTo (s : Screen) (x y : Int) (c : Int × Int) : Int × Int := (((x - (s.step c.1 c.2).1).natAbs : Int), ((y - (s.step c.1 c.2).2).natAbs : Int))
def cornerSteps (s : Screen) (x y : Int) : List (Int × Int) := (cornerAt s x y).map (stepTo s x y)
theorem mem_corner {s : Screen} {x y i j : Int} : (i, j) ∈ cornerAt s x y ↔ (i = alongA s x y / s.n ∨ i = alongA s x y / s.n + 1) ∧ (j = alongB s x y / s.n ∨ j = alongB s x y / s.n + 1) := by
  unfold cornerAt
  simp only [List.mem_cons, Prod.mk.injEq, List.not_mem_nil, or_false]
  constructor
  · rintro (⟨a, b⟩ | ⟨a, b⟩ | ⟨a, b⟩ | ⟨a, b⟩)
    · exact ⟨.inl a, .inl b⟩
    · exact ⟨.inr a, .inl b⟩
    · exact ⟨.inl a, .inr b⟩
    · exact ⟨.inr a, .inr b⟩
  · rintro ⟨a | a, b | b⟩
    · exact .inl ⟨a, b⟩
    · exact .inr (.inr (.inl ⟨a, b⟩))
    · exact .inr (.inl ⟨a, b⟩)
    · exact .inr (.inr (.inr ⟨a, b⟩))
theorem near_floor {A N : Int} (hN : 0 < N) : near A N = A / N ∨ near A N = A / N + 1 := by
  obtain ⟨h1, h2⟩ := near_le (A := A) hN
  have d := Int.mul_ediv_add_emod A N
  have r1 := Int.emod_nonneg A (show N ≠ 0 by omega)
  have r2 := Int.emod_lt_of_pos A hN
  generalize near A N = k at *
  generalize A / N = q at *
  have e : A = N * q + A % N := by omega
  generalize A % N = r at *
  subst e
  have e2 : N * q + r - N * k = N * (q - k) + r := by rw [Int.mul_sub]; omega
  rw [e2] at h1 h2
  -- - N ≤ 2 (N (q - k) + r) ≤ N
  have a1 : q - k ≤ 0 := by
    apply Classical.byContradiction
    intro c
    have := Int.mul_le_mul_of_nonneg_left (show 1 ≤ q - k by omega) (show 0 ≤ N by omega)
    omega
  have a2 : -1 ≤ q - k := by
    apply Classical.byContradiction
    intro c
    have := Int.mul_le_mul_of_nonneg_left (show q - k ≤ -2 by omega) (show 0 ≤ N by omega)
    omega
  omega
theorem out_floor {A N i : Int} (hN : 0 < N) (h : ¬ (i = A / N ∨ i = A / N + 1)) : N ≤ ((A - N * i).natAbs : Int) := by
  have d := Int.mul_ediv_add_emod A N
  have r1 := Int.emod_nonneg A (show N ≠ 0 by omega)
  have r2 := Int.emod_lt_of_pos A hN
  generalize A / N = q at *
  have e : A = N * q + A % N := by omega
  generalize A % N = r at *
  subst e
  have e2 : N * q + r - N * i = N * (q - i) + r := by rw [Int.mul_sub]; omega
  rw [e2]
  by_cases c : 1 ≤ q - i
  · have := Int.mul_le_mul_of_nonneg_left c (show 0 ≤ N by omega)
    omega
  · have := Int.mul_le_mul_of_nonneg_left (show q - i ≤ -2 by omega) (show 0 ≤ N by omega)
    omega
theorem sq_out' {s : Screen} (L : Lat s) {x y i j : Int} (h : s.n ≤ (alongA s x y - s.n * i).natAbs ∨ s.n ≤ (alongB s x y - s.n * j).natAbs) : s.n ≤ sq s x y i j := by
  have hn := L.n1
  have e := sq_parts s x y i j
  have big : ∀ u : Int, s.n ≤ u.natAbs → (s.n : Int) * s.n ≤ u * u := by
    intro u hu
    exact sq_mono (u := (s.n : Int)) (v := u) (by omega)
  have p1 := sq_nonneg (alongA s x y - s.n * i)
  have p2 := sq_nonneg (alongB s x y - s.n * j)
  have h : (s.n : Int) * s.n ≤ s.n * (sq s x y i j : Nat) := by
    rcases h with h | h
    · have := big _ h
      omega
    · have := big _ h
      omega
  have := Int.le_of_mul_le_mul_left h (by omega)
  omega
theorem near_corner {s : Screen} (L : Lat s) (x y : Int) : (near (alongA s x y) s.n, near (alongB s x y) s.n) ∈ cornerAt s x y := by
  have hn := L.n1
  rw [mem_corner]
  exact ⟨near_floor (by omega), near_floor (by omega)⟩
theorem out_corner {s : Screen} (L : Lat s) {x y i j : Int} (h : ¬ (i, j) ∈ cornerAt s x y) : s.n ≤ sq s x y i j := by
  have hn := L.n1
  have hN : (0 : Int) < s.n := by omega
  apply sq_out' L
  rw [mem_corner] at h
  by_cases c : (i = alongA s x y / s.n ∨ i = alongA s x y / s.n + 1)
  · right
    have := out_floor (A := alongB s x y) (i := j) hN (fun q => h ⟨c, q⟩)
    omega
  · left
    have := out_floor (A := alongA s x y) (i := i) hN c
    omega
theorem sq_step (s : Screen) (x y i j : Int) : (stepTo s x y (i, j)).1 * (stepTo s x y (i, j)).1 + (stepTo s x y (i, j)).2 * (stepTo s x y (i, j)).2 = (sq s x y i j : Nat) := by
  unfold stepTo sq
  have h1 := sq_nonneg (x - (s.step i j).1)
  have h2 := sq_nonneg (y - (s.step i j).2)
  show ((x - (s.step i j).1).natAbs : Int) * ((x - (s.step i j).1).natAbs : Int) + ((y - (s.step i j).2).natAbs : Int) * ((y - (s.step i j).2).natAbs : Int) = _
  rw [Int.natAbs_mul_self', Int.natAbs_mul_self']
  omega
theorem li_step (s : Screen) (x y i j : Int) : (stepTo s x y (i, j)).1 + (stepTo s x y (i, j)).2 = (li s x y i j : Nat) := by
  unfold stepTo li
  simp
/-- way 0 -/
theorem far_corner0 {s : Screen} (L : Lat s) {x y m : Int} (h0 : s.way = 0) (hm : m ∈ (cornerSteps s x y).map fun t => t.1 * t.1 + t.2 * t.2) (hl : ∀ k, k ∈ (cornerSteps s x y).map (fun t => t.1 * t.1 + t.2 * t.2) → m ≤ k) : ∃ d : Nat, m = d ∧ IsFar s x y d := by
  have hk : ∀ i j, (i, j) ∈ cornerAt s x y → m ≤ (sq s x y i j : Nat) := fun i j hij => by
    apply hl
    rw [← sq_step]
    exact List.mem_map_of_mem (f := fun t : Int × Int => t.1 * t.1 + t.2 * t.2) (List.mem_map_of_mem (f := stepTo s x y) hij)
  obtain ⟨t, ht, rfl⟩ := List.mem_map.mp hm
  obtain ⟨⟨i, j⟩, hij, rfl⟩ := List.mem_map.mp ht
  rw [sq_step] at hk ⊢
  refine ⟨_, rfl, ?_⟩
  unfold IsFar
  rw [h0]
  refine ⟨⟨i, j, rfl⟩, fun i' j' => ?_⟩
  have h1 := hk _ _ (near_corner L x y)
  have h2 := sq_best L x y i' j'
  omega
/-- way 1 -/
theorem far_corner1 {s : Screen} (L : Lat s) {x y m : Int} (h0 : s.way = 1) (hm : m ∈ (cornerSteps s x y).map fun t => t.1 + t.2) (hl : ∀ k, k ∈ (cornerSteps s x y).map (fun t => t.1 + t.2) → m ≤ k) : ∃ d : Nat, m = d ∧ IsFar s x y d := by
  have hk : ∀ i j, (i, j) ∈ cornerAt s x y → m ≤ (li s x y i j : Nat) := fun i j hij => by
    apply hl
    rw [← li_step]
    exact List.mem_map_of_mem (f := fun t : Int × Int => t.1 + t.2) (List.mem_map_of_mem (f := stepTo s x y) hij)
  obtain ⟨t, ht, rfl⟩ := List.mem_map.mp hm
  obtain ⟨⟨i, j⟩, hij, rfl⟩ := List.mem_map.mp ht
  rw [li_step] at hk ⊢
  refine ⟨_, rfl, ?_⟩
  unfold IsFar
  rw [h0]
  refine ⟨⟨i, j, rfl⟩, fun i' j' => ?_⟩
  by_cases c : (i', j') ∈ cornerAt s x y
  · have := hk _ _ c
    omega
  · have h1 := hk _ _ (near_corner L x y)
    have h2 := out_corner L c
    have h3 := sq_half L x y
    have h4 := (li_sq s x y i' j').1
    have h5 := (li_sq s x y (near (alongA s x y) s.n) (near (alongB s x y) s.n)).2
    have h6 : li s x y (near (alongA s x y) s.n) (near (alongB s x y) s.n) ≤ li s x y i' j' := by
      apply Classical.byContradiction
      intro q
      have := Nat.mul_lt_mul_of_lt_of_le (show li s x y i' j' < li s x y (near (alongA s x y) s.n) (near (alongB s x y) s.n) by omega) (show li s x y i' j' ≤ li s x y (near (alongA s x y) s.n) (near (alongB s x y) s.n) by omega) (by omega)
      omega
    omega
/-- way 2 -/
theorem far_rest {s : Screen} (L : Lat s) {x y : Int} (h0 : s.way ≠ 0) (h1 : s.way ≠ 1) : ∃ d : Nat, (if (s.n : Int) - alongB s x y % s.n < alongB s x y % s.n then (s.n : Int) - alongB s x y % s.n else alongB s x y % s.n) = d ∧ IsFar s x y d := by
  have hn := L.n1
  have hN : (0 : Int) < s.n := by omega
  have r1 := Int.emod_nonneg (alongB s x y) (show (s.n : Int) ≠ 0 by omega)
  have r2 := Int.emod_lt_of_pos (alongB s x y) hN
  have d := Int.mul_ediv_add_emod (alongB s x y) s.n
  have e0 : ∀ m, ln s x y m = (alongB s x y - s.n * m).natAbs := fun m => rfl
  have f0 : ln s x y (alongB s x y / s.n) = (alongB s x y % s.n).natAbs := by rw [e0]; congr 1; omega
  have f1 : ln s x y (alongB s x y / s.n + 1) = ((s.n : Int) - alongB s x y % s.n).natAbs := by
    rw [e0, Int.mul_add, Int.mul_one]
    omega
  refine ⟨if (s.n : Int) - alongB s x y % s.n < alongB s x y % s.n then ln s x y (alongB s x y / s.n + 1) else ln s x y (alongB s x y / s.n), ?_, ?_⟩
  · split
    · rw [f1]; omega
    · rw [f0]; omega
  · have key : ∀ m, (if (s.n : Int) - alongB s x y % s.n < alongB s x y % s.n then ln s x y (alongB s x y / s.n + 1) else ln s x y (alongB s x y / s.n)) ≤ ln s x y m := by
      intro m
      by_cases c0 : m = alongB s x y / s.n
      · subst c0
        split
        · rw [f0, f1]; omega
        · omega
      · by_cases c1 : m = alongB s x y / s.n + 1
        · subst c1
          split
          · omega
          · rw [f0, f1]; omega
        · have := out_floor (A := alongB s x y) (i := m) hN (by omega)
          rw [e0 m]
          split
          · rw [f1]; omega
          · rw [f0]; omega
    unfold IsFar
    split
    · exact absurd ‹_› h0
    · exact absurd ‹_› h1
    · refine ⟨?_, key⟩
      split
      · exact ⟨_, rfl⟩
      · exact ⟨_, rfl⟩
end Pm


set_option Elab.async false
set_option linter.unusedSimpArgs false
set_option linter.unusedVariables false
namespace Pm
open Plate

theorem corner_sq {s : Screen} (L : Lat s) {x y i j : Int} (h : (i, j) ∈ cornerAt s x y) : sq s x y i j ≤ 128 := by
  have hn := L.n1
  have hn2 := L.n2
  have hN : (0 : Int) < s.n := by omega
  rw [mem_corner] at h
  have key : ∀ A i : Int, (i = A / s.n ∨ i = A / s.n + 1) → (A - s.n * i).natAbs ≤ (s.n : Int).natAbs := by
    intro A i hi
    have d := Int.mul_ediv_add_emod A s.n
    have r1 := Int.emod_nonneg A (show (s.n : Int) ≠ 0 by omega)
    have r2 := Int.emod_lt_of_pos A hN
    rcases hi with rfl | rfl
    · omega
    · rw [Int.mul_add, Int.mul_one]
      omega
  have h1 := sq_mono (key _ _ h.1)
  have h2 := sq_mono (key _ _ h.2)
  have e := sq_parts s x y i j
  have h3 : (s.n : Int) * (sq s x y i j : Nat) ≤ s.n * (2 * s.n) := by
    rw [e]
    have : (s.n : Int) * (2 * s.n) = s.n * s.n + s.n * s.n := by grind
    omega
  have := Int.le_of_mul_le_mul_left h3 hN
  omega
theorem corner_small {s : Screen} (L : Lat s) {x y : Int} {t : Int × Int} (h : t ∈ cornerSteps s x y) : 0 ≤ t.1 ∧ t.1 ≤ 128 ∧ 0 ≤ t.2 ∧ t.2 ≤ 128 := by
  obtain ⟨⟨i, j⟩, hij, rfl⟩ := List.mem_map.mp h
  have h1 := corner_sq L hij
  have h2 := sq_step s x y i j
  have h3 : 0 ≤ (stepTo s x y (i, j)).1 := Int.natCast_nonneg _
  have h4 : 0 ≤ (stepTo s x y (i, j)).2 := Int.natCast_nonneg _
  generalize (stepTo s x y (i, j)).1 = u at *
  generalize (stepTo s x y (i, j)).2 = v at *
  have q1 := sq_nonneg u
  have q2 := sq_nonneg v
  refine ⟨h3, ?_, h4, ?_⟩
  · apply Classical.byContradiction
    intro c
    have := Int.mul_le_mul (show 129 ≤ u by omega) (show 129 ≤ u by omega) (by omega) (by omega)
    omega
  · apply Classical.byContradiction
    intro c
    have := Int.mul_le_mul (show 129 ≤ v by omega) (show 129 ≤ v by omega) (by omega) (by omega)
    omega

def pLe (x y : Int × Int) : Prop := x.1 < y.1 ∨ (x.1 = y.1 ∧ x.2 ≤ y.2)
def pLt (x y : Int × Int) : Bool := decide (x.1 < y.1) || (x.1 == y.1 && decide (x.2 < y.2))
theorem pLt_iff {x y : Int × Int} : pLt x y = true ↔ x.1 < y.1 ∨ (x.1 = y.1 ∧ x.2 < y.2) := by
  unfold pLt
  simp
theorem pLe_lt {x y : Int × Int} (h : pLe x y) (n : x ≠ y) : pLt x y = true := by
  rw [pLt_iff]
  rcases h with h | ⟨h1, h2⟩
  · exact .inl h
  · refine .inr ⟨h1, ?_⟩
    apply Classical.byContradiction
    intro c
    exact n (Prod.ext h1 (by omega))
theorem pLt_not {x y : Int × Int} (h : pLe x y) : pLt y x = false := by
  rw [Bool.eq_false_iff]
  intro q
  rw [pLt_iff] at q
  unfold pLe at h
  omega
/-- a place in a sorted list: how many are less -/
theorem sorted_place {l : List (Int × Int)} (hs : l.Pairwise pLe) (hn : l.Nodup) {j : Nat} (hj : j < l.length) : (l.filter fun q => pLt q l[j]).length = j := by
  have e : l = l.take j ++ (l[j] :: l.drop (j + 1)) := by
    rw [← List.drop_eq_getElem_cons hj, List.take_append_drop]
  have hs' := List.pairwise_iff_getElem.mp hs
  have hn' := List.pairwise_iff_getElem.mp hn
  have f1 : (l.take j).filter (fun q => pLt q l[j]) = l.take j := by
    rw [List.filter_eq_self]
    intro q hq
    obtain ⟨i, hi, rfl⟩ := List.getElem_of_mem hq
    have hi' : i < j := by
      rw [List.length_take] at hi
      omega
    rw [List.getElem_take]
    exact pLe_lt (hs' i j (by omega) hj hi') (hn' i j (by omega) hj hi')
  have f2 : (l.drop j).filter (fun q => pLt q l[j]) = [] := by
    rw [List.filter_eq_nil_iff]
    intro q hq
    obtain ⟨i, hi, rfl⟩ := List.getElem_of_mem hq
    rw [List.getElem_drop, Bool.not_eq_true]
    rw [List.length_drop] at hi
    by_cases c : i = 0
    · subst c
      exact pLt_not (.inr ⟨rfl, Int.le_refl _⟩)
    · exact pLt_not (hs' j (j + i) hj (by omega) (by omega))
  have h3 : (l.filter fun q => pLt q l[j]) = (l.take j).filter (fun q => pLt q l[j]) ++ (l.drop j).filter (fun q => pLt q l[j]) := by
    rw [← List.filter_append, List.take_append_drop]
  rw [h3, f1, f2, List.append_nil, List.length_take]
  omega
def farPair (s : Screen) (c : Nat) : Int × Int := ((s.far c : Nat), (c : Nat))
theorem table_at (s : Screen) {c : Nat} (hc : c < s.n) : s.table.toList[c]? = some ((List.range s.n).filter fun (k : Nat) => pLt (farPair s k) (farPair s c)).length := by
  unfold Screen.table
  have hf : ∀ k : Nat, k < s.n → ((List.range s.n).map s.far).toArray.getD k 0 = s.far k := fun k hk => by
    simp [Array.getD, hk]
  simp only [List.getElem?_map, List.getElem?_range hc, Option.map_some]
  congr 1
  congr 1
  apply List.filter_congr
  intro k hk
  rw [List.mem_range] at hk
  rw [hf k hk, hf c hc]
  unfold pLt farPair
  rw [Bool.eq_iff_iff]
  simp only [Bool.or_eq_true, Bool.and_eq_true, decide_eq_true_eq, beq_iff_eq]
  omega
theorem table_length (s : Screen) : s.table.toList.length = s.n := by
  unfold Screen.table
  simp
/-- ranks written by a sorted list's places -/
theorem ranks_code {s : Screen} {l : List (Int × Int)} (hp : l.Perm ((List.range s.n).map (farPair s))) (hs : l.Pairwise pLe) {rk : List Nat} (hl : rk.length = s.n)
    (hr : ∀ (j : Nat) (q : Int × Int), l[j]? = some q → rk[q.2.toNat]? = some j) : rk = s.table.toList := by
  have hnd : l.Nodup := by
    rw [hp.nodup_iff]
    apply List.Pairwise.map _ _ List.nodup_range
    intro a b hab e
    apply hab
    have : ((a : Nat) : Int) = b := congrArg Prod.snd e
    omega
  have hll : l.length = s.n := by rw [hp.length_eq]; simp
  apply List.ext_getElem?
  intro c
  by_cases hc : c < s.n
  · have hm : farPair s c ∈ l := hp.mem_iff.mpr (List.mem_map_of_mem (List.mem_range.mpr hc))
    obtain ⟨j, hj, e⟩ := List.getElem_of_mem hm
    have h1 := hr j _ (by rw [List.getElem?_eq_getElem hj, e])
    have e2 : (farPair s c).2.toNat = c := by unfold farPair; simp
    rw [e2] at h1
    rw [h1, table_at s hc]
    congr 1
    have h2 := sorted_place hs hnd hj
    rw [e] at h2
    have h3 := (hp.filter fun q => pLt q (farPair s c)).length_eq
    rw [h2, List.filter_map, List.length_map] at h3
    exact h3
  · rw [List.getElem?_eq_none (by omega), List.getElem?_eq_none (by rw [table_length]; omega)]
end Pm


set_option Elab.async false
set_option linter.unusedSimpArgs false
set_option linter.unusedVariables false
namespace Pm
open Plate

def toneStep (s : Screen) (z : Sheet) (c : Nat) (m : Nat × Nat) (k : Nat) : Nat × Nat :=
  let v := s.rankIn s.table ((k % z.w + c % s.p : Nat) : Int) ((k / z.w + c / s.p : Nat) : Int)
  if z.dots.getD k false = true then (max m.1 (v + 1), m.2) else (m.1, min m.2 v)
def toneTo (s : Screen) (z : Sheet) (c k : Nat) : Nat × Nat := (List.range k).foldl (toneStep s z c) (0, s.n)
theorem toneTo_succ (s : Screen) (z : Sheet) (c k : Nat) : toneTo s z c (k + 1) = toneStep s z c (toneTo s z c k) k := by
  unfold toneTo
  rw [List.range_succ, List.foldl_append]
  rfl
theorem toneBy_eq (s : Screen) (z : Sheet) (c : Nat) : s.toneBy s.table z c = if (toneTo s z c (z.w * z.h)).1 ≤ (toneTo s z c (z.w * z.h)).2 then some (toneTo s z c (z.w * z.h)).1 else none := rfl
theorem toneStep_at {s : Screen} {z : Sheet} {c i j : Nat} (hi : i < z.w) (hj : j < z.h) (m : Nat × Nat) :
    toneStep s z c m (j * z.w + i) = if z.at_ i j = true then (max m.1 (s.rankAt (((c % s.p : Nat) : Int) + i) (((c / s.p : Nat) : Int) + j) + 1), m.2) else (m.1, min m.2 (s.rankAt (((c % s.p : Nat) : Int) + i) (((c / s.p : Nat) : Int) + j))) := by
  have e1 : (j * z.w + i) % z.w = i := by rw [Nat.mul_comm, Nat.mul_add_mod, Nat.mod_eq_of_lt hi]
  have e2 : (j * z.w + i) / z.w = j := by rw [Nat.mul_comm, Nat.mul_add_div (by omega), Nat.div_eq_of_lt hi, Nat.add_zero]
  have e3 : z.at_ i j = z.dots.getD (j * z.w + i) false := by
    unfold Sheet.at_
    rw [decide_eq_true hi, decide_eq_true hj, Bool.true_and, Bool.true_and]
  have e4 : ((i + c % s.p : Nat) : Int) = ((c % s.p : Nat) : Int) + i := by omega
  have e5 : ((j + c / s.p : Nat) : Int) = ((c / s.p : Nat) : Int) + j := by omega
  unfold toneStep
  simp only [e1, e2, e3, e4, e5]
  rfl
def findStep (s : Screen) (z : Sheet) (o : Option (Nat × Nat)) (c : Nat) : Option (Nat × Nat) := match s.toneBy s.table z c, o with
  | none, _ => o
  | some t, none => some (t, c)
  | some t, some q => if t < q.1 then some (t, c) else o
def findTo (s : Screen) (z : Sheet) (k : Nat) : Option (Nat × Nat) := (List.range k).foldl (findStep s z) none
theorem findTo_succ (s : Screen) (z : Sheet) (k : Nat) : findTo s z (k + 1) = findStep s z (findTo s z k) k := by
  unfold findTo
  rw [List.range_succ, List.foldl_append]
  rfl
theorem toneOf_eq (s : Screen) (z : Sheet) : s.toneOf z = findTo s z s.n := rfl
end Pm


set_option Elab.async false
set_option linter.all false
set_option maxRecDepth 100000
set_option maxHeartbeats 2000000
namespace Pl
open PySem PySem.Spec PyProof.Rows L2 Pm
open Plate (Bytes Sheet width)

abbrev XK0 : XK := fun _ _ _ => False
def tOwn (sp : Sp) (t : TA) : TE := fun σ H Q => t σ H fun vs H1 => sp vs H1 Q XK0
def tTruth (K : PySem.W.Frag) (ta : TE) : TT := fun σ H Q => ta σ H fun x H' => ∃ k, TruV K x H' k ∧ Q k H'
abbrev R_neg : V → Hp → VK → Prop := rU fun i => .int (-i)
abbrev R_add : R2 := rI0 fun i j => .int (i + j)
abbrev R_sub : R2 := rI0 fun i j => .int (i - j)
abbrev R_mul : R2 := rI CMul fun i j => .int (i * j)
abbrev R_fdiv : R2 := rI CDiv fun i j => .int (i / j)
abbrev R_mod : R2 := rI (fun _ j => 0 < j) fun i j => .int (i % j)
abbrev R_shl : R2 := rI CPow fun i j => .int (i * 2 ^ j.toNat)
abbrev R_shr : R2 := rI (fun _ j => 0 ≤ j) fun i j => .int (i / 2 ^ j.toNat)
abbrev R_and : R2 := rI0 fun i j => .int (Builtin.bitAnd i j)
abbrev R_or : R2 := rI0 fun i j => .int (Builtin.bitOr i j)
abbrev R_lt : R2 := rI0 fun i j => .bl (decide (i < j))
abbrev R_le : R2 := rI0 fun i j => .bl (decide (i ≤ j))
abbrev R_gt : R2 := rI0 fun i j => .bl (decide (j < i))
abbrev R_ge : R2 := rI0 fun i j => .bl (decide (j ≤ i))
abbrev R_len (K : PySem.W.Frag) : List V → Hp → VK → Prop := fun xs H Q => ∃ p ys, xs = [.ref p] ∧ (SqL K H p ys ∨ SqT K H p ys) ∧ Q (.int ys.length) H
abbrev R_max : List V → Hp → VK → Prop := fun xs H Q => ∃ i j, xs = [.int i, .int j] ∧ Q (.int (if j > i then j else i)) H
abbrev R_min : List V → Hp → VK → Prop := fun xs H Q => ∃ i j, xs = [.int i, .int j] ∧ Q (.int (if j < i then j else i)) H

abbrev R_abs : List V → Hp → VK → Prop := fun xs H Q => ∃ i, xs = [.int i] ∧ Q (.int (if i < 0 then -i else i)) H
def byV (b : Bytes) : List V := b.map fun (c : UInt8) => V.int (c.toNat : Int)
def natV (l : List Nat) : List V := l.map fun (n : Nat) => V.int (n : Int)
theorem byV_length (b : Bytes) : (byV b).length = b.length := List.length_map _
theorem natV_length (l : List Nat) : (natV l).length = l.length := List.length_map _
theorem byV_get {b : Bytes} {i : Nat} (h : i < b.length) : (byV b)[i]? = some (V.int ((b.getD i 0).toNat : Int)) := by
  unfold byV
  rw [List.getElem?_map, List.getElem?_eq_getElem h, List.getD_eq_getElem?_getD, List.getElem?_eq_getElem h]
  rfl
theorem byV_at {b : Bytes} {z : Int} {i : Nat} (e : z = (i : Int)) (h : i < b.length) : atI (byV b) z = some (V.int ((b.getD i 0).toNat : Int)) := at_of e (byV_get h)
theorem natV_at {l : List Nat} {z : Int} {i n : Nat} (e : z = (i : Int)) (h : l[i]? = some n) : atI (natV l) z = some (V.int (n : Int)) :=
  at_of e (by unfold natV; rw [List.getElem?_map, h]; rfl)
theorem natV_append (l m : List Nat) : natV (l ++ m) = natV l ++ natV m := List.map_append ..
/-- the answer's list -/
def ansV (n : Int) (bs ns : List V) : List V := .int n :: .int (bs.length : Int) :: (bs ++ .int (ns.length : Int) :: ns)
def Gives (H : Hp) (xs : List V) (Q : VK) : Prop := ∀ (p : Addr) (H' : Hp), Same H H' → H' p = some (.lst xs) → Q (.ref p) H'
theorem same_new {H : Hp} {p : Addr} (hp : H p = Option.none) (o : HO) : Same H (upd H p o) := fun b u e => by
  rw [upd_ne (ne_of_none e hp)]
  exact e
/-- a list of one's own, younger than H, changed -/
theorem sput {H H' : Hp} {p : Addr} (g : Same H H') (hp : H p = Option.none) (o : HO) : Same H (upd H' p o) := fun b u e => by
  rw [upd_ne (ne_of_none e hp)]
  exact g b u e
theorem Gives.same {H H1 : Hp} {xs : List V} {Q : VK} (g : Gives H xs Q) (s : Same H H1) : Gives H1 xs Q := fun p H' s' h => g p H' (s.trans s') h
theorem sl_le {n : Nat} (h : n ≤ 16777216) : n ≤ sizeLine := by
  have : sizeLine = 16777216 := rfl
  omega
theorem sl_lt {n : Nat} (h : n < 16777216) : n < sizeLine := by
  have : sizeLine = 16777216 := rfl
  omega

theorem z0 : 0 ≤ sizeLine := by decide
theorem z1 : 1 ≤ sizeLine := by decide
theorem z2 : 2 ≤ sizeLine := by decide
theorem z4 : 4 ≤ sizeLine := by decide

def sp_answer (K : PySem.W.Frag) : Sp := fun vs H Q _ => ∃ (n : Int) (t m : Addr) (bs ns : List V), vs = [.int n, .ref t, .ref m] ∧ H t = some (.lst bs) ∧ H m = some (.lst ns) ∧ bs.length ≤ 10000 ∧ ns.length ≤ 10000 ∧ Gives H (ansV n bs ns) Q
def sp_refusal (K : PySem.W.Frag) : Sp := fun vs H Q _ => ∃ (n : Int), vs = [.int n] ∧ Gives H (ansV n [] []) Q
def sp_row_size (K : PySem.W.Frag) : Sp := fun vs H Q _ => ∃ (w : Nat), vs = [.int (w : Int)] ∧ Q (.int (width w : Nat)) H
def sp_full_row (K : PySem.W.Frag) : Sp := fun vs H Q _ => ∃ (w : Nat), vs = [.int (w : Int)] ∧ w ≤ 1000 ∧ Q (.int ((2 ^ w - 1 : Nat) : Int)) H
def sp_rows_fault (K : PySem.W.Frag) : Sp := fun vs H Q _ => ∃ (a : Addr) (b : Bytes) (w h : Nat), vs = [.ref a, .int (w : Int), .int (h : Int)] ∧ SqL K H a (byV b) ∧ 1 ≤ w ∧ w ≤ 24 ∧ h ≤ 24 ∧ 4 ≤ b.length ∧ Gives H (natV (rowsFault w h 4 (b.drop 4))) Q
def sp_sheet_fault (K : PySem.W.Frag) : Sp := fun vs H Q _ => ∃ (a : Addr) (b : Bytes), vs = [.ref a] ∧ SqL K H a (byV b) ∧ Gives H (natV (sheetFault b)) Q
/-- the refusal of bytes from the n-th on -/
def refuseFrom : Nat → List Bytes → List V
  | _, [] => []
  | n, b :: r => match Plate.readSheet b with
    | .error e => ansV (-6) [] (natV [e.kind + 16 * n, e.place])
    | .ok _ => refuseFrom (n + 1) r
def refuseV (l : List Bytes) : List V := if l.any (fun (b : Bytes) => decide (4096 < b.length)) = true then ansV (-2) [] [] else refuseFrom 0 l
def sp_refuse_sheets (K : PySem.W.Frag) : Sp := fun vs H Q _ => ∃ (l : Addr) (ps : List (Addr × Bytes)), vs = [.ref l] ∧ H l = some (.lst (ps.map fun p => V.ref p.1)) ∧ (∀ p ∈ ps, SqL K H p.1 (byV p.2)) ∧ ps.length ≤ 2 ∧ Gives H (refuseV (ps.map (·.2))) Q
def sp_sheet_rows (K : PySem.W.Frag) : Sp := fun vs H Q _ => ∃ (a : Addr) (b : Bytes) (s : Sheet), vs = [.ref a] ∧ SqL K H a (byV b) ∧ Fits b s ∧ Gives H (natV (rowsOf s)) Q
def sp_row_dots (K : PySem.W.Frag) : Sp := fun vs H Q _ => ∃ (w r : Nat), vs = [.int (w : Int), .int (r : Int)] ∧ w ≤ 24 ∧ Gives H (natV (dotsOf w r)) Q
def sp_is_lattice (K : PySem.W.Frag) : Sp := fun vs H Q _ => ∃ (a b : Nat), vs = [.int (a : Int), .int (b : Int)] ∧ Q (.bl (Plate.latticed a b)) H
def sp_common_divisor (K : PySem.W.Frag) : Sp := fun vs H Q _ => ∃ (a b : Nat), vs = [.int (a : Int), .int (b : Int)] ∧ Q (.int (Nat.gcd a b : Nat)) H

/-- o.m(..) of an object of the class at C -/
def tMth (C : Addr) (m : Str) (sp : Sp) (ta : TE) (t : TA) : TE := fun σ H Q => ta σ H fun x H1 => ∃ a dx fs, x = .ref a ∧ H1 a = some (.ins C dx fs) ∧ fs.lookup m = none ∧ t σ H1 fun vs H2 => sp (x :: vs) H2 Q XK0
/-- C(..): a new object of the class at C -/
def tMk (C : Addr) (sp : Sp) (t : TA) : TE := fun σ H Q => t σ H fun vs H1 => ∀ x dx, H1 x = none → H1 dx = none → dx ≠ x → sp (.ref x :: vs) (upd (upd H1 dx (.own x)) x (.ins C dx [])) (fun v H2 => v = .non ∧ Q (.ref x) H2) XK0
/-- pairs of numbers by their places -/
abbrev Pr := Addr × Int × Int
def prV (ts : List Pr) : List V := ts.map fun t => V.ref t.1
def PrAt (H : Hp) (ts : List Pr) : Prop := ∀ t ∈ ts, H t.1 = some (.tup [.int t.2.1, .int t.2.2])
def prLe (x y : Pr) : Prop := x.2.1 < y.2.1 ∨ (x.2.1 = y.2.1 ∧ x.2.2 ≤ y.2.2)
/-- sorted(x) of a list of pairs -/
def rSortedT (K : PySem.W.Frag) : List V → Hp → VK → Prop := fun vs H Q => ∃ (a : Addr) (ts : List Pr), vs = [.ref a] ∧ SqL K H a (prV ts) ∧ PrAt H ts ∧
  ∀ (ts' : List Pr) (p : Addr), ts'.Perm ts → ts'.Pairwise prLe → H p = none → Q (.ref p) (upd H p (.lst (prV ts')))
/-- what of the text the class must have -/
structure CT (K : PySem.W.Frag) (C : Addr) : Prop where
  cl : Cls K C
  n_a : NoAttr K C "a"
  n_b : NoAttr K C "b"
  n_n : NoAttr K C "n"
  n_g : NoAttr K C "g"
  n_p : NoAttr K C "p"
  n_slant : NoAttr K C "slant"
  n_ranks : NoAttr K C "ranks"
/-- an object's attributes, from the first four on -/
structure Fs (fs : List (Str × V)) (s : Plate.Screen) : Prop where
  a : fs.lookup ("a" : Str) = some (.int (s.a : Int))
  b : fs.lookup ("b" : Str) = some (.int (s.b : Int))
  n : fs.lookup ("n" : Str) = some (.int (s.n : Int))
  g : fs.lookup ("g" : Str) = some (.int (s.g : Int))
  k_along : fs.lookup ("along" : Str) = none
  k_across : fs.lookup ("across" : Str) = none
  k_has_place : fs.lookup ("has_place" : Str) = none
  k_find_slant : fs.lookup ("find_slant" : Str) = none
  k_class_at : fs.lookup ("class_at" : Str) = none
  k_class_place : fs.lookup ("class_place" : Str) = none
  k_rank_at : fs.lookup ("rank_at" : Str) = none
  len : fs.length < 900
structure Fp (fs : List (Str × V)) (s : Plate.Screen) : Prop extends Fs fs s where
  p : fs.lookup ("p" : Str) = some (.int (s.p : Int))
  slant : fs.lookup ("slant" : Str) = some (.int (slantOf s : Int))
structure Fr (fs : List (Str × V)) (s : Plate.Screen) (r : Addr) : Prop extends Fp fs s where
  ranks : fs.lookup ("ranks" : Str) = some (.ref r)
def La (K : PySem.W.Frag) (C : Addr) (H : Hp) (o : Addr) (s : Plate.Screen) : Prop := CT K C ∧ Lat s ∧ ∃ dx fs, H o = some (.ins C dx fs) ∧ Fs fs s
def Lp (K : PySem.W.Frag) (C : Addr) (H : Hp) (o : Addr) (s : Plate.Screen) : Prop := CT K C ∧ Lat s ∧ ∃ dx fs, H o = some (.ins C dx fs) ∧ Fp fs s
def Lr (K : PySem.W.Frag) (C : Addr) (H : Hp) (o : Addr) (s : Plate.Screen) : Prop := CT K C ∧ Lat s ∧ ∃ dx fs r, H o = some (.ins C dx fs) ∧ Fr fs s r ∧ H r = some (.lst (natV s.table.toList))
theorem Lp.same {K : PySem.W.Frag} {C : Addr} {H H' : Hp} {o : Addr} {s : Plate.Screen} (h : Lp K C H o s) (g : Same H H') : Lp K C H' o s := let ⟨a, b, dx, fs, e, f⟩ := h; ⟨a, b, dx, fs, g _ _ e, f⟩
theorem Lr.same {K : PySem.W.Frag} {C : Addr} {H H' : Hp} {o : Addr} {s : Plate.Screen} (h : Lr K C H o s) (g : Same H H') : Lr K C H' o s := let ⟨a, b, dx, fs, r, e, f, t⟩ := h; ⟨a, b, dx, fs, r, g _ _ e, f, g _ _ t⟩
theorem Lr.lp {K : PySem.W.Frag} {C : Addr} {H : Hp} {o : Addr} {s : Plate.Screen} (h : Lr K C H o s) : Lp K C H o s := let ⟨a, b, dx, fs, _, e, f, _⟩ := h; ⟨a, b, dx, fs, e, f.toFp⟩
/-- all but the object stays -/
def But (o : Addr) (H H' : Hp) : Prop := ∀ b u, H b = some u → b ≠ o → H' b = some u

def sp_m_along (K : PySem.W.Frag) (C : Addr) : Sp := fun vs H Q _ => ∃ (o : Addr) (s : Plate.Screen) (x y : Int), vs = [.ref o, .int x, .int y] ∧ La K C H o s ∧ Q (.int (s.a * x + s.b * y)) H
def sp_m_across (K : PySem.W.Frag) (C : Addr) : Sp := fun vs H Q _ => ∃ (o : Addr) (s : Plate.Screen) (x y : Int), vs = [.ref o, .int x, .int y] ∧ La K C H o s ∧ Q (.int (s.a * y - s.b * x)) H
def sp_m_has_place (K : PySem.W.Frag) (C : Addr) : Sp := fun vs H Q _ => ∃ (o : Addr) (s : Plate.Screen) (x y : Int), vs = [.ref o, .int x, .int y] ∧ La K C H o s ∧ Q (.bl (s.onLattice x y)) H
def sp_m_find_slant (K : PySem.W.Frag) (C : Addr) : Sp := fun vs H Q _ => ∃ (o : Addr) (s : Plate.Screen), vs = [.ref o] ∧ La K C H o s ∧ Q (.int (slantOf s : Nat)) H
def sp_m_class_at (K : PySem.W.Frag) (C : Addr) : Sp := fun vs H Q _ => ∃ (o : Addr) (s : Plate.Screen) (x y : Int), vs = [.ref o, .int x, .int y] ∧ Lp K C H o s ∧ Q (.int (s.classOf x y : Nat)) H
def sp_m_class_place (K : PySem.W.Frag) (C : Addr) : Sp := fun vs H Q _ => ∃ (o : Addr) (s : Plate.Screen) (c : Nat), vs = [.ref o, .int (c : Int)] ∧ Lp K C H o s ∧
  ∀ p H', Same H H' → H' p = some (.tup [.int ((c % s.p : Nat) : Int), .int ((c / s.p : Nat) : Int)]) → Q (.ref p) H'
def sp_m_init (K : PySem.W.Frag) (C : Addr) : Sp := fun vs H Q _ => ∃ (o dx : Addr) (s : Plate.Screen), vs = [.ref o, .int (s.a : Int), .int (s.b : Int)] ∧ CT K C ∧ Lat s ∧ H o = some (.ins C dx []) ∧
  ∀ H', (∃ fs, H' o = some (.ins C dx fs) ∧ Fp fs s ∧ fs.length < 100) → But o H H' → Q .non H'
def sp_m_initS (K : PySem.W.Frag) (C : Addr) : Sp := fun vs H Q _ => ∃ (o dx : Addr) (s : Plate.Screen), vs = [.ref o, .int (s.a : Int), .int (s.b : Int), .int (s.way : Int)] ∧ CT K C ∧ Lat s ∧ s.way < 3 ∧ H o = some (.ins C dx []) ∧
  ∀ H', Lr K C H' o s → But o H H' → Q .non H'
def sp_m_rank_at (K : PySem.W.Frag) (C : Addr) : Sp := fun vs H Q _ => ∃ (o : Addr) (s : Plate.Screen) (x y : Int), vs = [.ref o, .int x, .int y] ∧ Lr K C H o s ∧ Q (.int (s.rankAt x y : Nat)) H
def sp_corner_steps (K : PySem.W.Frag) (C : Addr) : Sp := fun vs H Q _ => ∃ (o : Addr) (s : Plate.Screen) (x y : Int), vs = [.ref o, .int x, .int y] ∧ La K C H o s ∧
  ∀ l ts H', Same H H' → H' l = some (.lst (prV ts)) → PrAt H' ts → ts.map (·.2) = cornerSteps s x y → Q (.ref l) H'
def sp_how_far (K : PySem.W.Frag) (C : Addr) : Sp := fun vs H Q _ => ∃ (o : Addr) (s : Plate.Screen) (c : Nat), vs = [.ref o, .int (s.way : Int), .int ((c % s.p : Nat) : Int), .int ((c / s.p : Nat) : Int)] ∧ La K C H o s ∧ s.way < 3 ∧ c < s.n ∧
  ∀ H', Same H H' → Q (.int (s.far c : Nat)) H'
def sp_class_ranks (K : PySem.W.Frag) (C : Addr) : Sp := fun vs H Q _ => ∃ (o : Addr) (s : Plate.Screen), vs = [.ref o, .int (s.way : Int)] ∧ Lp K C H o s ∧ s.way < 3 ∧ Gives H (natV s.table.toList) Q
def sp_is_screen (K : PySem.W.Frag) : Sp := fun vs H Q _ => ∃ (a b way : Nat), vs = [.int (a : Int), .int (b : Int), .int (way : Int)] ∧ Q (.bl (Plate.Screen.fine ⟨a, b, way⟩)) H
/-- the rows of a sheet's dots, by their places -/
def GridAt (H : Hp) (l : Addr) (z : Sheet) : Prop := ∃ rs : List Addr, H l = some (.lst (rs.map V.ref)) ∧ rs.length = z.h ∧ ∀ (y : Nat) (r : Addr), rs[y]? = some r → H r = some (.lst (natV ((List.range z.w).map fun x => b2n (z.at_ x y))))
theorem GridAt.same {H H' : Hp} {l : Addr} {z : Sheet} (h : GridAt H l z) (g : Same H H') : GridAt H' l z := let ⟨rs, a, b, c⟩ := h; ⟨rs, g _ _ a, b, fun y r e => g _ _ (c y r e)⟩
def toneInt : Option Nat → Int
  | none => -1
  | some t => (t : Nat)
def sp_least_tone (K : PySem.W.Frag) (C : Addr) : Sp := fun vs H Q _ => ∃ (o : Addr) (s : Plate.Screen) (c : Nat) (l : Addr) (z : Sheet), vs = [.ref o, .int ((c % s.p : Nat) : Int), .int ((c / s.p : Nat) : Int), .ref l] ∧ Lr K C H o s ∧ GridAt H l z ∧ z.fine = true ∧
  ∀ H', Same H H' → Q (.int (toneInt (s.toneBy s.table z c))) H'
def toneList (s : Plate.Screen) : Option (Nat × Nat) → List Nat
  | none => []
  | some q => [q.1, q.2 % s.p, q.2 / s.p]
def sp_find_tone (K : PySem.W.Frag) (C : Addr) : Sp := fun vs H Q _ => ∃ (o : Addr) (s : Plate.Screen) (l : Addr) (z : Sheet), vs = [.ref o, .ref l] ∧ Lr K C H o s ∧ GridAt H l z ∧ z.fine = true ∧ Gives H (natV (toneList s (s.toneOf z))) Q
end Pl


set_option Elab.async false
set_option linter.all false
set_option maxRecDepth 100000
set_option maxHeartbeats 2000000
namespace Pl
open PySem PySem.Spec PyProof.Rows L2 Pm
open PySem.W (Codec)

theorem perm_map_ex {α β : Type} (f : α → β) {l : List β} {m' : List β} (h : l.Perm m') : ∀ m : List α, m' = m.map f → ∃ m2 : List α, m2.Perm m ∧ l = m2.map f := by
  induction h with
  | nil =>
    intro m e
    cases m with
    | nil => exact ⟨[], .nil, rfl⟩
    | cons a m => cases e
  | cons x _ ih =>
    intro m e
    cases m with
    | nil => cases e
    | cons a m =>
      rw [List.map_cons] at e
      injection e with e1 e2
      obtain ⟨m2, h2, e3⟩ := ih m e2
      exact ⟨a :: m2, h2.cons a, by rw [List.map_cons, e1, e3]⟩
  | swap x y l =>
    intro m e
    match m, e with
    | a :: b :: m, e =>
      rw [List.map_cons, List.map_cons] at e
      injection e with e1 e2
      injection e2 with e2 e3
      exact ⟨b :: a :: m, .swap a b m, by rw [List.map_cons, List.map_cons, e1, e2, e3]⟩
  | trans _ _ ih1 ih2 =>
    intro m e
    obtain ⟨m2, h2, e2⟩ := ih2 m e
    obtain ⟨m3, h3, e3⟩ := ih1 m2 e2
    exact ⟨m3, h3.trans h2, e3⟩
theorem vals_refs : ∀ {ts : List Pr} {us : List Value}, Vals (prV ts) us → us = ts.map fun t => Value.ref t.1
  | [], us, h => by
    cases h
    rfl
  | t :: ts, us, h => by
    unfold prV at h
    rw [List.map_cons] at h
    cases h with
    | cons r q =>
      cases r
      rw [vals_refs (ts := ts) q]
      rfl
theorem refs_vals : ∀ ts : List Pr, Vals (prV ts) (ts.map fun t => Value.ref t.1)
  | [] => .nil
  | t :: ts => .cons rfl (refs_vals ts)
def noText : Nat → Bool := fun _ => false
theorem lex_pairs {a b c d : Int} (h : lexLt itemOrd [Sum.inl a, Sum.inl b] [Sum.inl c, Sum.inl d] = false) : c < a ∨ (c = a ∧ d ≤ b) := by
  have h : ((decide (a < c)) || (!(decide (c < a)) && ((decide (b < d)) || (!(decide (d < b)) && false)))) = false := h
  simp only [Bool.or_eq_false_iff, Bool.and_eq_false_iff, decide_eq_false_iff_not, Bool.not_eq_false', decide_eq_true_eq] at h
  omega
theorem cr_sortedT {X : Cx} : CallR X (.builtin "sorted") (rSortedT X.K) := by
  intro pins s σ H vs us Q I r h
  obtain ⟨a, ts, rfl, hs, hp, q⟩ := h
  obtain ⟨its, rv, hl, hz⟩ := I.list hs
  rw [Vals.ref1 r]
  obtain rfl := vals_refs rv
  have hz' : ts.length ≤ sizeLine := by
    unfold prV at hz
    rw [List.length_map] at hz
    exact hz
  have key : ∀ t ∈ ts, ∃ o xs n, s.heap.get? t.1 = some o ∧ o.cls = .type "tuple" ∧ o.data = .seq xs n ∧ ∃ k1 k2, xs = #[Value.int t.2.1 k1, Value.int t.2.2 k2] := by
    intro t ht
    obtain ⟨_, xs, rx, o, ho, hc, n, hd⟩ := I.hok t.1 _ (hp t ht)
    obtain ⟨k1, k2, rfl⟩ := Vals.int2 rx
    exact ⟨o, _, n, ho, hc, hd, k1, k2, rfl⟩
  have keyC : ∀ t ∈ ts, G.tupKeyC s.heap noText (.ref t.1) = some [Sum.inl t.2.1, Sum.inl t.2.2] := by
    intro t ht
    obtain ⟨o, xs, n, ho, hc, hd, k1, k2, rfl⟩ := key t ht
    unfold G.tupKeyC
    have e1 : G.isTupObj s.heap (.ref t.1) = true := by simp [G.isTupObj, ho, hc]
    rw [if_pos e1]
    simp only [tupKey, ho, hd]
    rfl
  have tups : ∀ l : List Pr, (∀ t ∈ l, t ∈ ts) → ∃ fs, TupsOf s.heap noText (l.map fun t => Value.ref t.1) fs := by
    intro l
    induction l with
    | nil => exact fun _ => ⟨[], .nil⟩
    | cons t l ih =>
      intro hm
      obtain ⟨fs, hfs⟩ := ih fun u hu => hm u (List.mem_cons_of_mem _ hu)
      obtain ⟨o, xs, n, ho, hc, hd, k1, k2, rfl⟩ := key t (hm t (List.mem_cons_self ..))
      exact ⟨Value.int t.2.1 k1 :: fs, .cons ⟨t.1, o, _, n, rfl, ho, hc, hd, rfl, fun _ => ⟨_, _, rfl⟩, fun e => absurd e (by decide)⟩ hfs⟩
  obtain ⟨fs, hfs⟩ := tups ts fun _ h => h
  refine G.sorted_tups (shape := noText) hl.isList hfs (fun v hv => ?_) (by rw [List.length_map]; exact hz') fun st' hperm hsrt _ => ?_
  · obtain ⟨t, ht, rfl⟩ := List.mem_map.mp hv
    exact ⟨_, keyC t ht⟩
  · have hp2 := Array.perm_iff_toList_perm.mp hperm
    rw [pairsOf_toList] at hp2
    have ez : (ts.map fun t => Value.ref t.1).zip (ts.map fun t => Value.ref t.1) = ts.map fun t => ((Value.ref t.1, Value.ref t.1) : Keyed) := by
      rw [List.zip_map']
    rw [ez] at hp2
    obtain ⟨ts', hpt, het⟩ := perm_map_ex (fun t : Pr => ((Value.ref t.1, Value.ref t.1) : Keyed)) hp2 ts rfl
    obtain ⟨ep, he'⟩ := PyProof.Rows.sortedAll_at s.heap (ts.map fun t => Value.ref t.1) ((arrOf st').map (·.2))
    have eo : ((arrOf st').map (·.2)).toList = ts'.map fun t => Value.ref t.1 := by
      rw [Array.toList_map, het, List.map_map]
      rfl
    have hpw : ts'.Pairwise prLe := by
      rw [List.pairwise_iff_getElem]
      intro i j hi hj hij
      have hsz : (pairsOf (ts.map fun t => Value.ref t.1)).size = ts'.length := by rw [pairsOf_size, List.length_map, hpt.length_eq]
      have hk := hsrt i j (Nat.le_of_lt hij) (by rw [hsz]; exact hj)
      have kk : ∀ i (h : i < ts'.length), KK (G.tupKindC s.heap noText) (arrOf st') i = [Sum.inl ts'[i].2.1, Sum.inl ts'[i].2.2] := by
        intro i h
        unfold KK
        have e : (arrOf st')[i]? = some (Value.ref ts'[i].1, Value.ref ts'[i].1) := by
          rw [← Array.getElem?_toList, het, List.getElem?_map, List.getElem?_eq_getElem h]
          rfl
        rw [e]
        show (G.tupKeyC s.heap noText (.ref ts'[i].1)).getD [] = _
        rw [keyC _ (hpt.mem_iff.mp (List.getElem_mem h))]
        rfl
      rw [kk i hi, kk j hj] at hk
      have hk' : lexLt itemOrd [Sum.inl ts'[j].2.1, Sum.inl ts'[j].2.2] [Sum.inl ts'[i].2.1, Sum.inl ts'[i].2.2] = false := hk
      rcases lex_pairs hk' with c | ⟨c, d⟩
      · exact .inl c
      · exact .inr ⟨c, d⟩
    have hlen : (prV ts').length ≤ sizeLine := by
      unfold prV
      rw [List.length_map, hpt.length_eq]
      exact hz'
    have hv : Vals (prV ts') ((arrOf st').map (·.2)).toList := by
      rw [eo]
      exact refs_vals ts'
    exact ⟨.ref _, upd H (s.heap.objs.size + 1) (.lst (prV ts')), I.laid (t' := s.toks) (fun _ _ => PyProof.Rows.sortedAll_old) (Nat.le_succ _) ⟨hlen, _, ep, hv, he'⟩, rfl, q ts' _ hpt hpw (I.hok.fresh (Nat.le_succ _))⟩
end Pl


set_option Elab.async false
set_option linter.all false
namespace Pl
open PySem PySem.Spec PyProof.Rows L2 Pm
abbrev Dn (Q : VK) : Ends := { nx := fun _ H' => Q .non H', rt := Q }
abbrev Rd_answer (K : PySem.W.Frag) : TS := (tRet (tOp rCat (tOp rCat (tOp rCat (tLst (tCons (tVar 0) (tCons (tCB (R_len K) (tCons (tVar 1) tNil)) tNil))) (tVar 1)) (tLst (tCons (tCB (R_len K) (tCons (tVar 2) tNil)) tNil))) (tVar 2)))
abbrev Rd_refusal (K : PySem.W.Frag) : TS := (tRet (tOwn (sp_answer K) (tCons (tVar 0) (tCons (tLst tNil) (tCons (tLst tNil) tNil)))))
abbrev Rd_row_size (K : PySem.W.Frag) : TS := (tRet (tOp R_fdiv (tOp R_add (tVar 0) (tC (.int 7))) (tC (.int 8))))
abbrev Rd_full_row (K : PySem.W.Frag) : TS := (tRet (tOp R_sub (tOp R_shl (tC (.int 1)) (tVar 0)) (tC (.int 1))))
abbrev Rd_sheet_fault (K : PySem.W.Frag) : TS := (tSeq (tIfS (tTest (tOp R_lt (tCB (R_len K) (tCons (tVar 0) tNil)) (tC (.int 2)))) (tRet (tLst (tCons (tC (.int 1)) (tCons (tCB (R_len K) (tCons (tVar 0) tNil)) tNil)))) tNext)
    (tSeq (tAsg (tOp R_add (tOp (rIxL K) (tVar 0) (tC (.int 0))) (tOp R_mul (tC (.int 256)) (tOp (rIxL K) (tVar 0) (tC (.int 1))))) (gName 1))
    (tSeq (tIfS (tOr (tTest (tOp rEq (tVar 1) (tC (.int 0)))) (tTest (tOp R_gt (tVar 1) (tC (.int 24))))) (tRet (tLst (tCons (tC (.int 2)) (tCons (tC (.int 0)) tNil)))) tNext)
    (tSeq (tIfS (tTest (tOp R_lt (tCB (R_len K) (tCons (tVar 0) tNil)) (tC (.int 4)))) (tRet (tLst (tCons (tC (.int 1)) (tCons (tCB (R_len K) (tCons (tVar 0) tNil)) tNil)))) tNext)
    (tSeq (tAsg (tOp R_add (tOp (rIxL K) (tVar 0) (tC (.int 2))) (tOp R_mul (tC (.int 256)) (tOp (rIxL K) (tVar 0) (tC (.int 3))))) (gName 2))
    (tSeq (tIfS (tOr (tTest (tOp rEq (tVar 2) (tC (.int 0)))) (tTest (tOp R_gt (tVar 2) (tC (.int 24))))) (tRet (tLst (tCons (tC (.int 2)) (tCons (tC (.int 2)) tNil)))) tNext)
    (tRet (tOwn (sp_rows_fault K) (tCons (tVar 0) (tCons (tVar 1) (tCons (tVar 2) tNil)))))))))))
abbrev Rd_rows_fault (K : PySem.W.Frag) : TS := (tSeq (tAsg (tOwn (sp_row_size K) (tCons (tVar 1) tNil)) (gName 3))
    (tSeq (tAsg (tOwn (sp_full_row K) (tCons (tOp R_sub (tVar 1) (tOp R_mul (tC (.int 8)) (tOp R_sub (tVar 3) (tC (.int 1))))) tNil)) (gName 4))
    (tSeq (tAsg (tC (.int 4)) (gName 5))
    (tSeq (tFor (iRng1 (tCons (tVar 2) tNil)) (gName 6) (tSeq (tAsg (tOp R_add (tVar 5) (tVar 3)) (gName 5))
    (tSeq (tIfS (tTest (tOp R_lt (tCB (R_len K) (tCons (tVar 0) tNil)) (tVar 5))) (tRet (tLst (tCons (tC (.int 1)) (tCons (tCB (R_len K) (tCons (tVar 0) tNil)) tNil)))) tNext)
    (tIfS (tTest (tOp R_gt (tOp (rIxL K) (tVar 0) (tOp R_sub (tVar 5) (tC (.int 1)))) (tVar 4))) (tRet (tLst (tCons (tC (.int 3)) (tCons (tOp R_sub (tVar 5) (tC (.int 1))) tNil)))) tNext))))
    (tSeq (tIfS (tTest (tOp R_gt (tCB (R_len K) (tCons (tVar 0) tNil)) (tVar 5))) (tRet (tLst (tCons (tC (.int 4)) (tCons (tVar 5) tNil)))) tNext)
    (tRet (tLst tNil)))))))
abbrev Rd_refuse_sheets (K : PySem.W.Frag) : TS := (tSeq (tFor (iList K (tVar 0)) (gName 1) (tIfS (tTest (tOp R_gt (tCB (R_len K) (tCons (tVar 1) tNil)) (tC (.int 4096)))) (tRet (tOwn (sp_refusal K) (tCons (tUn R_neg (tC (.int 2))) tNil))) tNext))
    (tSeq (tFor (iEnum K (tCons (tVar 0) tNil)) (gTup K 2 (gCons (gName 2) (gCons (gName 1) gNil))) (tSeq (tAsg (tOwn (sp_sheet_fault K) (tCons (tVar 1) tNil)) (gName 3))
    (tIfS (tTruth K (tVar 3)) (tRet (tOwn (sp_answer K) (tCons (tUn R_neg (tC (.int 6))) (tCons (tLst tNil) (tCons (tLst (tCons (tOp R_add (tOp (rIxL K) (tVar 3) (tC (.int 0))) (tOp R_mul (tC (.int 16)) (tVar 2))) (tCons (tOp (rIxL K) (tVar 3) (tC (.int 1))) tNil))) tNil))))) tNext)))
    (tRet (tLst tNil))))
abbrev Rd_sheet_rows (K : PySem.W.Frag) : TS := (tSeq (tAsg (tOwn (sp_row_size K) (tCons (tOp (rIxL K) (tVar 0) (tC (.int 0))) tNil)) (gName 1))
    (tSeq (tAsg (tLst tNil) (gName 2))
    (tSeq (tFor (iRng3 (tCons (tC (.int 4)) (tCons (tCB (R_len K) (tCons (tVar 0) tNil)) (tCons (tVar 1) tNil)))) (gName 3) (tSeq (tAsg (tC (.int 0)) (gName 4))
    (tSeq (tFor (iRng1 (tCons (tVar 1) tNil)) (gName 5) (tAsg (tOp R_or (tVar 4) (tOp R_shl (tOp (rIxL K) (tVar 0) (tOp R_add (tVar 3) (tVar 5))) (tOp R_mul (tC (.int 8)) (tVar 5)))) (gName 4)))
    (tDrop (tBM K "list" rAppend (tVar 2) (tCons (tVar 4) tNil))))))
    (tRet (tVar 2)))))
abbrev Rd_row_dots (K : PySem.W.Frag) : TS := (tRet (tLc (iRng1 (tCons (tVar 0) tNil)) (gName 2) tYes (tOp R_and (tOp R_shr (tVar 1) (tVar 2)) (tC (.int 1))) [2]))
abbrev Rd_is_lattice (K : PySem.W.Frag) : TS := (tRet (tAndV (tChain R_le R_le (tC (.int 1)) (tVar 0) (tC (.int 8))) (tAndV (tOp R_le (tVar 1) (tC (.int 8))) (tOp R_le (tOp R_add (tOp R_mul (tVar 0) (tVar 0)) (tOp R_mul (tVar 1) (tVar 1))) (tC (.int 64))))))
abbrev Rd_common_divisor (K : PySem.W.Frag) : TS := (tSeq (tWhile (tTest (tOp R_gt (tVar 1) (tC (.int 0)))) (tSeq (tAsg (tOp R_mod (tVar 0) (tVar 1)) (gName 2))
    (tSeq (tAsg (tVar 1) (gName 0))
    (tAsg (tVar 2) (gName 1)))))
    (tRet (tVar 0)))
abbrev Rd_m_init (K : PySem.W.Frag) (C : Addr) : TS := (tSeq (sFld K (tVar 0) (tVar 1) "a")
    (tSeq (sFld K (tVar 0) (tVar 2) "b")
    (tSeq (sFld K (tVar 0) (tOp R_add (tOp R_mul (tVar 1) (tVar 1)) (tOp R_mul (tVar 2) (tVar 2))) "n")
    (tSeq (sFld K (tVar 0) (tOwn (sp_common_divisor K) (tCons (tVar 1) (tCons (tVar 2) tNil))) "g")
    (tSeq (sFld K (tVar 0) (tOp R_fdiv (tFld K (tVar 0) "n") (tFld K (tVar 0) "g")) "p")
    (sFld K (tVar 0) (tMth C "find_slant" (sp_m_find_slant K C) (tVar 0) tNil) "slant"))))))
abbrev Rd_m_along (K : PySem.W.Frag) (C : Addr) : TS := (tRet (tOp R_add (tOp R_mul (tFld K (tVar 0) "a") (tVar 1)) (tOp R_mul (tFld K (tVar 0) "b") (tVar 2))))
abbrev Rd_m_across (K : PySem.W.Frag) (C : Addr) : TS := (tRet (tOp R_sub (tOp R_mul (tFld K (tVar 0) "a") (tVar 2)) (tOp R_mul (tFld K (tVar 0) "b") (tVar 1))))
abbrev Rd_m_has_place (K : PySem.W.Frag) (C : Addr) : TS := (tRet (tAndV (tOp rEq (tOp R_mod (tMth C "along" (sp_m_along K C) (tVar 0) (tCons (tVar 1) (tCons (tVar 2) tNil))) (tFld K (tVar 0) "n")) (tC (.int 0))) (tOp rEq (tOp R_mod (tMth C "across" (sp_m_across K C) (tVar 0) (tCons (tVar 1) (tCons (tVar 2) tNil))) (tFld K (tVar 0) "n")) (tC (.int 0)))))
abbrev Rd_m_find_slant (K : PySem.W.Frag) (C : Addr) : TS := (tSeq (tAsg (tC (.int 0)) (gName 1))
    (tSeq (tWhile (tNot (tTruth K (tMth C "has_place" (sp_m_has_place K C) (tVar 0) (tCons (tVar 1) (tCons (tFld K (tVar 0) "g") tNil))))) (tAsg (tOp R_add (tVar 1) (tC (.int 1))) (gName 1)))
    (tRet (tVar 1))))
abbrev Rd_m_class_at (K : PySem.W.Frag) (C : Addr) : TS := (tSeq (tAsg (tOp R_fdiv (tVar 2) (tFld K (tVar 0) "g")) (gName 3))
    (tRet (tOp R_add (tOp R_mul (tOp R_mod (tVar 2) (tFld K (tVar 0) "g")) (tFld K (tVar 0) "p")) (tOp R_mod (tOp R_sub (tVar 1) (tOp R_mul (tVar 3) (tFld K (tVar 0) "slant"))) (tFld K (tVar 0) "p")))))
abbrev Rd_is_screen (K : PySem.W.Frag) : TS := (tRet (tAndV (tOwn (sp_is_lattice K) (tCons (tVar 0) (tCons (tVar 1) tNil))) (tOp R_le (tVar 2) (tC (.int 2)))))
abbrev Rd_corner_steps (K : PySem.W.Frag) (C : Addr) : TS := (tSeq (tAsg (tOp R_fdiv (tMth C "along" (sp_m_along K C) (tVar 0) (tCons (tVar 1) (tCons (tVar 2) tNil))) (tFld K (tVar 0) "n")) (gName 3))
    (tSeq (tAsg (tOp R_fdiv (tMth C "across" (sp_m_across K C) (tVar 0) (tCons (tVar 1) (tCons (tVar 2) tNil))) (tFld K (tVar 0) "n")) (gName 4))
    (tSeq (tAsg (tLst tNil) (gName 5))
    (tSeq (tFor (iTup K (tTup (tCons (tTup (tCons (tVar 3) (tCons (tVar 4) tNil))) (tCons (tTup (tCons (tOp R_add (tVar 3) (tC (.int 1))) (tCons (tVar 4) tNil))) (tCons (tTup (tCons (tVar 3) (tCons (tOp R_add (tVar 4) (tC (.int 1))) tNil))) (tCons (tTup (tCons (tOp R_add (tVar 3) (tC (.int 1))) (tCons (tOp R_add (tVar 4) (tC (.int 1))) tNil))) tNil)))))) (gName 6) (tSeq (tAsg (tOp R_sub (tOp R_mul (tOp (rIxT K) (tVar 6) (tC (.int 0))) (tFld K (tVar 0) "a")) (tOp R_mul (tOp (rIxT K) (tVar 6) (tC (.int 1))) (tFld K (tVar 0) "b"))) (gName 7))
    (tSeq (tAsg (tOp R_add (tOp R_mul (tOp (rIxT K) (tVar 6) (tC (.int 0))) (tFld K (tVar 0) "b")) (tOp R_mul (tOp (rIxT K) (tVar 6) (tC (.int 1))) (tFld K (tVar 0) "a"))) (gName 8))
    (tDrop (tBM K "list" rAppend (tVar 5) (tCons (tTup (tCons (tCB R_abs (tCons (tOp R_sub (tVar 1) (tVar 7)) tNil)) (tCons (tCB R_abs (tCons (tOp R_sub (tVar 2) (tVar 8)) tNil)) tNil))) tNil))))))
    (tRet (tVar 5))))))
abbrev Rd_how_far (K : PySem.W.Frag) (C : Addr) : TS := (tSeq (tIfS (tTest (tOp rEq (tVar 1) (tC (.int 2)))) (tSeq (tAsg (tOp R_mod (tMth C "across" (sp_m_across K C) (tVar 0) (tCons (tVar 2) (tCons (tVar 3) tNil))) (tFld K (tVar 0) "n")) (gName 4))
    (tRet (tCB R_min (tCons (tVar 4) (tCons (tOp R_sub (tFld K (tVar 0) "n") (tVar 4)) tNil))))) tNext)
    (tSeq (tAsg (tOwn (sp_corner_steps K C) (tCons (tVar 0) (tCons (tVar 2) (tCons (tVar 3) tNil)))) (gName 5))
    (tSeq (tIfS (tTest (tOp rEq (tVar 1) (tC (.int 0)))) (tRet (tCB (rMin K) (tCons (tLc (iList K (tVar 5)) (gName 6) tYes (tOp R_add (tOp R_mul (tOp (rIxT K) (tVar 6) (tC (.int 0))) (tOp (rIxT K) (tVar 6) (tC (.int 0)))) (tOp R_mul (tOp (rIxT K) (tVar 6) (tC (.int 1))) (tOp (rIxT K) (tVar 6) (tC (.int 1))))) [6]) tNil))) tNext)
    (tRet (tCB (rMin K) (tCons (tLc (iList K (tVar 5)) (gName 6) tYes (tOp R_add (tOp (rIxT K) (tVar 6) (tC (.int 0))) (tOp (rIxT K) (tVar 6) (tC (.int 1)))) [6]) tNil))))))
abbrev Rd_class_ranks (K : PySem.W.Frag) (C : Addr) : TS := (tSeq (tAsg (tLst tNil) (gName 2))
    (tSeq (tFor (iRng1 (tCons (tFld K (tVar 0) "n") tNil)) (gName 3) (tSeq (tAsg (tMth C "class_place" (sp_m_class_place K C) (tVar 0) (tCons (tVar 3) tNil)) (gName 4))
    (tDrop (tBM K "list" rAppend (tVar 2) (tCons (tTup (tCons (tOwn (sp_how_far K C) (tCons (tVar 0) (tCons (tVar 1) (tCons (tOp (rIxT K) (tVar 4) (tC (.int 0))) (tCons (tOp (rIxT K) (tVar 4) (tC (.int 1))) tNil))))) (tCons (tVar 3) tNil))) tNil)))))
    (tSeq (tAsg (tOp rRep (tLst (tCons (tC (.int 0)) tNil)) (tFld K (tVar 0) "n")) (gName 5))
    (tSeq (tFor (iEnum K (tCons (tCB (rSortedT K) (tCons (tVar 2) tNil)) tNil)) (gTup K 2 (gCons (gName 6) (gCons (gName 7) gNil))) (tAsg (tVar 6) (gSub (tVar 5) (tOp (rIxT K) (tVar 7) (tC (.int 1))) rSetL)))
    (tRet (tVar 5))))))
abbrev Rd_m_class_place (K : PySem.W.Frag) (C : Addr) : TS := (tRet (tTup (tCons (tOp R_mod (tVar 1) (tFld K (tVar 0) "p")) (tCons (tOp R_fdiv (tVar 1) (tFld K (tVar 0) "p")) tNil))))
abbrev Rd_m_initS (K : PySem.W.Frag) (C : Addr) : TS := (tSeq (tDrop (tOwn (sp_m_init K C) (tCons (tVar 0) (tCons (tVar 1) (tCons (tVar 2) tNil)))))
    (sFld K (tVar 0) (tOwn (sp_class_ranks K C) (tCons (tVar 0) (tCons (tVar 3) tNil))) "ranks"))
abbrev Rd_m_rank_at (K : PySem.W.Frag) (C : Addr) : TS := (tRet (tOp (rIxL K) (tFld K (tVar 0) "ranks") (tMth C "class_at" (sp_m_class_at K C) (tVar 0) (tCons (tVar 1) (tCons (tVar 2) tNil)))))
abbrev Rd_least_tone (K : PySem.W.Frag) (C : Addr) : TS := (tSeq (tAsg (tC (.int 0)) (gName 4))
    (tSeq (tAsg (tFld K (tVar 0) "n") (gName 5))
    (tSeq (tFor (iEnum K (tCons (tVar 3) tNil)) (gTup K 2 (gCons (gName 6) (gCons (gName 7) gNil))) (tFor (iEnum K (tCons (tVar 7) tNil)) (gTup K 2 (gCons (gName 8) (gCons (gName 9) gNil))) (tSeq (tAsg (tMth C "rank_at" (sp_m_rank_at K C) (tVar 0) (tCons (tOp R_add (tVar 1) (tVar 8)) (tCons (tOp R_add (tVar 2) (tVar 6)) tNil))) (gName 10))
    (tIfS (tTruth K (tVar 9)) (tAsg (tCB R_max (tCons (tVar 4) (tCons (tOp R_add (tVar 10) (tC (.int 1))) tNil))) (gName 4)) (tAsg (tCB R_min (tCons (tVar 5) (tCons (tVar 10) tNil))) (gName 5))))))
    (tRet (tIf (tTest (tOp R_le (tVar 4) (tVar 5))) (tVar 4) (tUn R_neg (tC (.int 1))))))))
abbrev Rd_find_tone (K : PySem.W.Frag) (C : Addr) : TS := (tSeq (tAsg (tLst tNil) (gName 2))
    (tSeq (tFor (iRng1 (tCons (tFld K (tVar 0) "n") tNil)) (gName 3) (tSeq (tAsg (tMth C "class_place" (sp_m_class_place K C) (tVar 0) (tCons (tVar 3) tNil)) (gName 4))
    (tSeq (tAsg (tOwn (sp_least_tone K C) (tCons (tVar 0) (tCons (tOp (rIxT K) (tVar 4) (tC (.int 0))) (tCons (tOp (rIxT K) (tVar 4) (tC (.int 1))) (tCons (tVar 1) tNil))))) (gName 5))
    (tIfS (tAnd (tTest (tOp R_ge (tVar 5) (tC (.int 0)))) (tOr (tNot (tTruth K (tVar 2))) (tTest (tOp R_lt (tVar 5) (tOp (rIxL K) (tVar 2) (tC (.int 0))))))) (tAsg (tLst (tCons (tVar 5) (tCons (tOp (rIxT K) (tVar 4) (tC (.int 0))) (tCons (tOp (rIxT K) (tVar 4) (tC (.int 1))) tNil)))) (gName 2)) tNext))))
    (tRet (tVar 2))))
abbrev Rd_tone (K : PySem.W.Frag) (C : Addr) : TS := (tSeq (tAsg (tOwn (sp_refuse_sheets K) (tCons (tLst (tCons (tVar 3) tNil)) tNil)) (gName 4))
    (tSeq (tIfS (tTruth K (tVar 4)) (tRet (tVar 4)) tNext)
    (tSeq (tIfS (tNot (tTruth K (tOwn (sp_is_screen K) (tCons (tVar 0) (tCons (tVar 1) (tCons (tVar 2) tNil)))))) (tRet (tOwn (sp_refusal K) (tCons (tUn R_neg (tC (.int 1))) tNil))) tNext)
    (tSeq (tAsg (tOwn (sp_find_tone K C) (tCons (tMk C (sp_m_initS K C) (tCons (tVar 0) (tCons (tVar 1) (tCons (tVar 2) tNil)))) (tCons (tLc (iList K (tOwn (sp_sheet_rows K) (tCons (tVar 3) tNil))) (gName 6) tYes (tOwn (sp_row_dots K) (tCons (tOp (rIxL K) (tVar 3) (tC (.int 0))) (tCons (tVar 6) tNil))) [6]) tNil))) (gName 5))
    (tSeq (tIfS (tNot (tTruth K (tVar 5))) (tRet (tOwn (sp_refusal K) (tCons (tUn R_neg (tC (.int 4))) tNil))) tNext)
    (tRet (tOwn (sp_answer K) (tCons (tOp (rIxL K) (tVar 5) (tC (.int 0))) (tCons (tLst tNil) (tCons (tSl (rSlL K) (tVar 5) (tPart (tC (.int 1))) tNoPart) tNil))))))))))
abbrev Bd_corner_steps_0 (K : PySem.W.Frag) (C : Addr) : TS := (tSeq (tAsg (tOp R_sub (tOp R_mul (tOp (rIxT K) (tVar 6) (tC (.int 0))) (tFld K (tVar 0) "a")) (tOp R_mul (tOp (rIxT K) (tVar 6) (tC (.int 1))) (tFld K (tVar 0) "b"))) (gName 7))
    (tSeq (tAsg (tOp R_add (tOp R_mul (tOp (rIxT K) (tVar 6) (tC (.int 0))) (tFld K (tVar 0) "b")) (tOp R_mul (tOp (rIxT K) (tVar 6) (tC (.int 1))) (tFld K (tVar 0) "a"))) (gName 8))
    (tDrop (tBM K "list" rAppend (tVar 5) (tCons (tTup (tCons (tCB R_abs (tCons (tOp R_sub (tVar 1) (tVar 7)) tNil)) (tCons (tCB R_abs (tCons (tOp R_sub (tVar 2) (tVar 8)) tNil)) tNil))) tNil)))))
abbrev Bd_class_ranks_0 (K : PySem.W.Frag) (C : Addr) : TS := (tSeq (tAsg (tMth C "class_place" (sp_m_class_place K C) (tVar 0) (tCons (tVar 3) tNil)) (gName 4))
    (tDrop (tBM K "list" rAppend (tVar 2) (tCons (tTup (tCons (tOwn (sp_how_far K C) (tCons (tVar 0) (tCons (tVar 1) (tCons (tOp (rIxT K) (tVar 4) (tC (.int 0))) (tCons (tOp (rIxT K) (tVar 4) (tC (.int 1))) tNil))))) (tCons (tVar 3) tNil))) tNil))))
abbrev Bd_class_ranks_1 (K : PySem.W.Frag) (C : Addr) : TS := (tAsg (tVar 6) (gSub (tVar 5) (tOp (rIxT K) (tVar 7) (tC (.int 1))) rSetL))
abbrev Bd_least_tone_0 (K : PySem.W.Frag) (C : Addr) : TS := (tFor (iEnum K (tCons (tVar 7) tNil)) (gTup K 2 (gCons (gName 8) (gCons (gName 9) gNil))) (tSeq (tAsg (tMth C "rank_at" (sp_m_rank_at K C) (tVar 0) (tCons (tOp R_add (tVar 1) (tVar 8)) (tCons (tOp R_add (tVar 2) (tVar 6)) tNil))) (gName 10))
    (tIfS (tTruth K (tVar 9)) (tAsg (tCB R_max (tCons (tVar 4) (tCons (tOp R_add (tVar 10) (tC (.int 1))) tNil))) (gName 4)) (tAsg (tCB R_min (tCons (tVar 5) (tCons (tVar 10) tNil))) (gName 5)))))
end Pl


set_option Elab.async false
set_option linter.all false
set_option maxRecDepth 100000
set_option maxHeartbeats 2000000
namespace Pl
open PySem PySem.Spec PyProof.Rows L2 Pm
open Plate (Bytes Sheet width)
variable {K : PySem.W.Frag} {H : Hp} {Q : VK}

theorem rd_row_size {w : Nat} (q : Q (.int (width w : Nat)) H) : Rd_row_size K (Dn Q) [some (.int (w : Int))] H := by
  refine ⟨_, rfl, _, _, rfl, rfl, _, _, rfl, rfl, ⟨by decide, by decide⟩, ?_⟩
  have e : ((w : Int) + 7) / 8 = ((width w : Nat) : Int) := by unfold width; omega
  show Q (.int (((w : Int) + 7) / 8)) H
  rw [e]
  exact q
theorem rd_full_row {w : Nat} (hw : w ≤ 1000) (q : Q (.int ((2 ^ w - 1 : Nat) : Int)) H) : Rd_full_row K (Dn Q) [some (.int (w : Int))] H := by
  refine ⟨_, rfl, _, _, rfl, rfl, ⟨by omega, by omega, by decide⟩, _, _, rfl, rfl, ?_⟩
  have e : (1 : Int) * 2 ^ (w : Int).toNat - 1 = ((2 ^ w - 1 : Nat) : Int) := by
    have h1 : 1 ≤ 2 ^ w := Nat.one_le_two_pow
    rw [Int.toNat_natCast, Int.one_mul, Int.natCast_sub h1, Int.natCast_pow]
    rfl
  show Q (.int ((1 : Int) * 2 ^ (w : Int).toNat - 1)) H
  rw [e]
  exact q
theorem rd_answer {n : Int} {t m : Addr} {bs ns : List V} (ht : H t = some (.lst bs)) (hm : H m = some (.lst ns)) (h1 : bs.length ≤ 10000) (h2 : ns.length ≤ 10000) (g : Gives H (ansV n bs ns) Q) :
    Rd_answer K (Dn Q) [some (.int n), some (.ref t), some (.ref m)] H := by
  refine ⟨_, rfl, _, rfl, t, bs, rfl, .inl (SqL.of ht), z2, fun p hp => ?_⟩
  have s1 := same_new hp (.lst [.int n, .int bs.length])
  refine ⟨_, rfl, p, t, _, bs, rfl, rfl, upd_same, s1 _ _ ht, sl_le (by simp; omega), fun p2 hp2 => ?_⟩
  have s2 := s1.trans (same_new hp2 (.lst ([.int n, .int bs.length] ++ bs)))
  refine ⟨_, rfl, m, ns, rfl, .inl (SqL.of (s2 _ _ hm)), (by show 1 ≤ sizeLine; decide), fun p3 hp3 => ?_⟩
  have s3 := s2.trans (same_new hp3 (.lst [.int ns.length]))
  refine ⟨p2, p3, _, _, rfl, rfl, (same_new hp3 _) _ _ upd_same, upd_same, sl_le (by simp; omega), fun p4 hp4 => ?_⟩
  have s4 := s3.trans (same_new hp4 (.lst ([.int n, .int bs.length] ++ bs ++ [.int ns.length])))
  refine ⟨_, rfl, p4, m, _, ns, rfl, rfl, upd_same, s4 _ _ hm, sl_le (by simp; omega), fun p5 hp5 => ?_⟩
  refine g p5 _ (s4.trans (same_new hp5 _)) ?_
  rw [upd_same]
  congr 2
  simp [ansV]
theorem rd_refusal {n : Int} (g : Gives H (ansV n [] []) Q) : Rd_refusal K (Dn Q) [some (.int n)] H := by
  refine ⟨_, rfl, by decide, fun p hp => ⟨by decide, fun p2 hp2 => ?_⟩⟩
  have s1 := same_new hp (.lst [])
  have s2 := same_new hp2 (.lst [])
  exact ⟨_, p, p2, [], [], rfl, s2 _ _ upd_same, upd_same, by decide, by decide, g.same (s1.trans s2)⟩
theorem rd_rows_fault {a : Addr} {b : Bytes} {w h : Nat} (hS : SqL K H a (byV b)) (w1 : 1 ≤ w) (w2 : w ≤ 24) (h2 : h ≤ 24) (h4 : 4 ≤ b.length) (g : Gives H (natV (rowsFault w h 4 (b.drop 4))) Q) :
    Rd_rows_fault K (Dn Q) [some (.ref a), some (.int (w : Int)), some (.int (h : Int)), none, none, none, none] H := by
  have hp := width_pos w1
  have hp2 := width_le w2
  refine ⟨_, rfl, w, rfl, _, rfl, _, rfl, _, _, rfl, rfl, _, _, rfl, rfl, .inl ⟨by decide, by decide⟩, _, _, rfl, rfl, lastBits w, ?_, ?_, ?_⟩
  · have e : (w : Int) - 8 * (((width w : Nat) : Int) - 1) = ((lastBits w : Nat) : Int) := by
      unfold lastBits width
      omega
    show [V.int ((w : Int) - 8 * (((width w : Nat) : Int) - 1))] = _
    rw [e]
  · have := lastBits_le w1
    omega
  refine ⟨_, rfl, (h : Int), rfl, by omega, by omega, for_range (lo := 0) (n := (h : Int).toNat) (fun i σ H' => ∃ (v : Option V), H' = H ∧ σ = [some (.ref a), some (.int (w : Int)), some (.int (h : Int)), some (.int (width w : Nat)), some (.int ((2 ^ lastBits w - 1 : Nat) : Int)), some (.int ((4 + i * width w : Nat) : Int)), v] ∧
    i ≤ h ∧ 4 + i * width w ≤ b.length ∧ rowsFault w h 4 (b.drop 4) = rowsFault w (h - i) (4 + i * width w) (b.drop (4 + i * width w))) ⟨none, rfl, by rw [Nat.zero_mul]; rfl, by omega, by omega, by simp⟩ ?_ ?_⟩
  · rintro i σ H' hi ⟨v, rfl, rfl, i1, i2, i3⟩
    have hi : i < h := by omega
    refine ⟨_, rfl, _, rfl, _, _, rfl, rfl, _, rfl, a, _, rfl, .inl hS, _, rfl, _, _, rfl, rfl, _, rfl, ?_⟩
    have ek : h - i = (h - (i + 1)) + 1 := by omega
    have ee : (((4 + i * width w : Nat) : Int)) + ((width w : Nat) : Int) = ((4 + (i + 1) * width w : Nat) : Int) := by
      rw [Nat.add_mul]
      omega
    have ed : (b.drop (4 + i * width w)).length = b.length - (4 + i * width w) := List.length_drop ..
    rw [ek, rowsFault_succ, ed] at i3
    have em : (i + 1) * width w = i * width w + width w := by rw [Nat.add_mul]; omega
    rw [byV_length]
    refine ite2 (fun c => ?_) (fun c => ?_)
    · have c := of_decide_eq_true c
      rw [if_pos (by omega)] at i3
      refine ⟨_, rfl, a, _, rfl, .inl hS, z2, fun p hp => ?_⟩
      refine g p _ (same_new hp _) ?_
      rw [upd_same, i3, byV_length]
      congr 2
      show [V.int 1, V.int _] = [V.int _, V.int _]
      congr 3
      omega
    · have c := of_decide_eq_false (Bool.eq_false_iff.mpr c)
      rw [if_neg (by omega)] at i3
      refine ⟨_, rfl, _, rfl, _, _, rfl, rfl, a, _, _, _, rfl, rfl, hS, byV_at (i := 4 + i * width w + width w - 1) (by omega) (by omega), _, rfl, _, _, rfl, rfl, _, rfl, ?_⟩
      have et := topSet_iff (w := w) (b := b.drop (4 + i * width w)) w1
      rw [getD_drop] at et
      have ex : 4 + i * width w + (width w - 1) = 4 + i * width w + width w - 1 := by omega
      rw [ex] at et
      have h1 : 1 ≤ 2 ^ lastBits w := Nat.one_le_two_pow
      refine ite2 (fun d => ?_) (fun d => ?_)
      · have d := of_decide_eq_true d
        rw [if_pos (et.mpr (by omega))] at i3
        refine ⟨_, rfl, _, _, rfl, rfl, z2, fun p hp => ?_⟩
        refine g p _ (same_new hp _) ?_
        rw [upd_same, i3]
        congr 2
        show [V.int 3, V.int _] = [V.int _, V.int _]
        congr 3
        omega
      · have d := of_decide_eq_false (Bool.eq_false_iff.mpr d)
        rw [if_neg (fun q => et.mp q (by omega))] at i3
        refine ⟨some (.int (0 + (i : Int))), rfl, ?_, by omega, by omega, ?_⟩
        · rw [← ee]
          rfl
        · rw [i3, List.drop_drop, em, Nat.add_assoc]
  · rintro σ H' ⟨v, rfl, rfl, i1, i2, i3⟩
    have eh : (h : Int).toNat = h := Int.toNat_natCast h
    rw [eh] at i2 i3 ⊢
    rw [Nat.sub_self, rowsFault_zero] at i3
    refine ⟨_, rfl, a, _, rfl, .inl hS, _, rfl, _, _, rfl, rfl, _, rfl, ?_⟩
    rw [byV_length]
    refine ite2 (fun c => ?_) (fun c => ?_)
    · have c := of_decide_eq_true c
      rw [if_neg (fun q => by
        have := congrArg List.length q
        rw [List.length_drop, List.length_nil] at this
        omega)] at i3
      refine ⟨_, rfl, z2, fun p hp => ?_⟩
      refine g p _ (same_new hp _) ?_
      rw [upd_same, i3]
      rfl
    · have c := of_decide_eq_false (Bool.eq_false_iff.mpr c)
      rw [if_pos (List.drop_eq_nil_of_le (by omega))] at i3
      refine ⟨by decide, fun p hp => ?_⟩
      refine g p _ (same_new hp _) ?_
      rw [upd_same, i3]
      rfl
theorem rd_sheet_fault {a : Addr} {b : Bytes} (hS : SqL K H a (byV b)) (g : Gives H (natV (sheetFault b)) Q) : Rd_sheet_fault K (Dn Q) [some (.ref a), none, none] H := by
  have hf := sheetFault_eq b
  have n0 : Plate.numAt b 0 = (b.getD 0 0).toNat + 256 * (b.getD 1 0).toNat := rfl
  have n2 : Plate.numAt b 2 = (b.getD 2 0).toNat + 256 * (b.getD 3 0).toNat := rfl
  refine ⟨_, rfl, a, _, rfl, .inl hS, _, _, rfl, rfl, _, rfl, ?_⟩
  rw [byV_length]
  refine ite2 (fun c => ?_) (fun c => ?_)
  · have c := of_decide_eq_true c
    rw [if_pos (by omega)] at hf
    refine ⟨_, rfl, a, _, rfl, .inl hS, z2, fun p hp => ?_⟩
    refine g p _ (same_new hp _) ?_
    rw [upd_same, hf, byV_length]
    rfl
  have c := of_decide_eq_false (Bool.eq_false_iff.mpr c)
  rw [if_neg (by omega)] at hf
  refine ⟨_, rfl, a, _, _, _, rfl, rfl, hS, byV_at (i := 0) rfl (by omega), _, rfl, a, _, _, _, rfl, rfl, hS, byV_at (i := 1) rfl (by omega), _, _, rfl, rfl, .inl ⟨by decide, by decide⟩, _, _, rfl, rfl, ?_⟩
  have e0 : (((b.getD 0 0).toNat : Int)) + 256 * ((b.getD 1 0).toNat : Int) = ((Plate.numAt b 0 : Nat) : Int) := by omega
  have bad0 : (Plate.numAt b 0 = 0 ∨ 24 < Plate.numAt b 0) → tRet (tLst (tCons (tC (.int 2)) (tCons (tC (.int 0)) tNil))) (Dn Q) [some (.ref a), some (.int (Plate.numAt b 0 : Nat)), none] H := fun q => by
    rw [if_pos q] at hf
    refine ⟨z2, fun p hp => g p _ (same_new hp _) ?_⟩
    rw [upd_same, hf]
    rfl
  dsimp only
  rw [e0]
  refine ⟨_, rfl, rfl, _, rfl, ?_⟩
  refine ite2 (fun d => ?_) (fun d => ?_)
  · have d := of_decide_eq_true d
    injection d with d
    exact iteT (bad0 (by omega))
  have d := of_decide_eq_false (Bool.eq_false_iff.mpr d)
  have d : ¬ Plate.numAt b 0 = 0 := fun q => d (by rw [q]; rfl)
  refine ⟨_, rfl, _, _, rfl, rfl, _, rfl, ?_⟩
  refine ite2 (fun d2 => bad0 (by have := of_decide_eq_true d2; omega)) (fun d2 => ?_)
  have d2 := of_decide_eq_false (Bool.eq_false_iff.mpr d2)
  rw [if_neg (by omega)] at hf
  refine ⟨_, rfl, a, _, rfl, .inl hS, _, _, rfl, rfl, _, rfl, ?_⟩
  rw [byV_length]
  refine ite2 (fun c2 => ?_) (fun c2 => ?_)
  · have c2 := of_decide_eq_true c2
    rw [if_pos (by omega)] at hf
    refine ⟨_, rfl, a, _, rfl, .inl hS, z2, fun p hp => ?_⟩
    refine g p _ (same_new hp _) ?_
    rw [upd_same, hf, byV_length]
    rfl
  have c2 := of_decide_eq_false (Bool.eq_false_iff.mpr c2)
  rw [if_neg (by omega)] at hf
  refine ⟨_, rfl, a, _, _, _, rfl, rfl, hS, byV_at (i := 2) rfl (by omega), _, rfl, a, _, _, _, rfl, rfl, hS, byV_at (i := 3) rfl (by omega), _, _, rfl, rfl, .inl ⟨by decide, by decide⟩, _, _, rfl, rfl, ?_⟩
  have e2 : (((b.getD 2 0).toNat : Int)) + 256 * ((b.getD 3 0).toNat : Int) = ((Plate.numAt b 2 : Nat) : Int) := by omega
  have bad2 : (Plate.numAt b 2 = 0 ∨ 24 < Plate.numAt b 2) → tRet (tLst (tCons (tC (.int 2)) (tCons (tC (.int 2)) tNil))) (Dn Q) [some (.ref a), some (.int (Plate.numAt b 0 : Nat)), some (.int (Plate.numAt b 2 : Nat))] H := fun q => by
    rw [if_pos q] at hf
    refine ⟨z2, fun p hp => g p _ (same_new hp _) ?_⟩
    rw [upd_same, hf]
    rfl
  dsimp only
  rw [e2]
  refine ⟨_, rfl, rfl, _, rfl, ?_⟩
  refine ite2 (fun d3 => ?_) (fun d3 => ?_)
  · have d3 := of_decide_eq_true d3
    injection d3 with d3
    exact iteT (bad2 (by omega))
  have d3 := of_decide_eq_false (Bool.eq_false_iff.mpr d3)
  have d3 : ¬ Plate.numAt b 2 = 0 := fun q => d3 (by rw [q]; rfl)
  refine ⟨_, rfl, _, _, rfl, rfl, _, rfl, ?_⟩
  refine ite2 (fun d4 => bad2 (by have := of_decide_eq_true d4; omega)) (fun d4 => ?_)
  have d4 := of_decide_eq_false (Bool.eq_false_iff.mpr d4)
  rw [if_neg (by omega)] at hf
  refine ⟨_, rfl, _, rfl, _, rfl, a, b, Plate.numAt b 0, Plate.numAt b 2, rfl, hS, by omega, by omega, by omega, by omega, ?_⟩
  rw [← hf]
  exact g
end Pl


set_option Elab.async false
set_option linter.all false
set_option maxRecDepth 100000
set_option maxHeartbeats 2000000
namespace Pl
open PySem PySem.Spec PyProof.Rows L2 Pm
open Plate (Bytes Sheet width)
variable {K : PySem.W.Frag} {H : Hp} {Q : VK}

theorem bor (a b : Nat) : Builtin.bitOr (a : Int) (b : Int) = ((a ||| b : Nat) : Int) := Bits.bitOr_pp (Int.natCast_nonneg _) (Int.natCast_nonneg _)
theorem band (a b : Nat) : Builtin.bitAnd (a : Int) (b : Int) = ((a &&& b : Nat) : Int) := bitAnd_pp (Int.natCast_nonneg _) (Int.natCast_nonneg _)
theorem band_1 (a : Nat) : Builtin.bitAnd (a : Int) 1 = ((a % 2 : Nat) : Int) := by
  rw [show (1 : Int) = ((2 ^ 1 - 1 : Nat) : Int) from rfl, band, Nat.and_two_pow_sub_one_eq_mod]
theorem cast_shl (a k : Nat) : (a : Int) * 2 ^ k = ((a * 2 ^ k : Nat) : Int) := by simp
theorem cast_shr (a k : Nat) : (a : Int) / 2 ^ k = ((a / 2 ^ k : Nat) : Int) := by simp
theorem take_snoc {α : Type} {l : List α} {i : Nat} {x : α} (h : l[i]? = some x) : l.take (i + 1) = l.take i ++ [x] := by
  rw [List.take_add_one, h]
  rfl
theorem for_enum {a : Addr} {xs : List V} {g : TG} {tb : TS} {D : Ends} {σ : L2.St} {H : Hp} (Pv : Nat → L2.St → Hp → Prop) (h0 : Pv 0 σ H) (hl : ∀ i σ H, i ≤ xs.length → Pv i σ H → SqL K H a xs)
    (hs : ∀ i x σ H T, xs[i]? = some x → Pv i σ H → H T = none → g (.ref T) σ (upd H T (.tup [.int (i : Nat), x])) fun σ2 H2 => tb { D with nx := Pv (i + 1), ct := Pv (i + 1), bk := D.nx } σ2 H2) (hd : ∀ σ H, Pv xs.length σ H → D.nx σ H) :
    ∃ W : Nat → Nat → L2.St → Hp → Prop, (∃ m, W 0 m σ H) ∧ ∀ i m σ H, W i m σ H →
      ((Ite K a).stop i H ∧ D.nx σ H) ∨ ((Ite K a).go i H ∧ ∃ N : L2.St → Hp → Prop, (∀ σ' H', N σ' H' → ∃ m', m' < m ∧ W (i + 1) m' σ' H') ∧ ∀ x H', (Ite K a).yld i H x H' → g x σ H' fun σ2 H2 => tb { D with nx := N, ct := N, bk := D.nx } σ2 H2) := by
  refine ⟨fun i m σ H => m = xs.length - i ∧ i ≤ xs.length ∧ Pv i σ H, ⟨xs.length, by simp, Nat.zero_le _, h0⟩, ?_⟩
  rintro i m σ H ⟨rfl, hi, p⟩
  have q := hl i σ H hi p
  by_cases hlt : i < xs.length
  · refine .inr ⟨⟨xs, xs[i], q, by simp [hlt]⟩, Pv (i + 1), fun σ' H' p' => ⟨xs.length - (i + 1), by omega, rfl, hlt, p'⟩, fun x H' y => ?_⟩
    obtain ⟨T, x', rfl, hT, rfl, y⟩ := y
    exact hs i x' σ _ T (y xs q) p hT
  · have e : i = xs.length := by omega
    subst e
    exact .inl ⟨⟨xs, q, Nat.le_refl _⟩, hd σ H p⟩
theorem fault_of_error {b : Bytes} {e : Plate.Fault} (h : Plate.readSheet b = .error e) : sheetFault b = [e.kind, e.place] := by
  unfold sheetFault
  rw [h]
  rfl
theorem fault_of_ok {b : Bytes} {s : Sheet} (h : Plate.readSheet b = .ok s) : sheetFault b = [] := by
  unfold sheetFault
  rw [h]
theorem rd_refuse_sheets {l : Addr} {ps : List (Addr × Bytes)} (hl : H l = some (.lst (ps.map fun p => V.ref p.1))) (hS : ∀ p ∈ ps, SqL K H p.1 (byV p.2)) (g : Gives H (refuseV (ps.map (·.2))) Q) :
    Rd_refuse_sheets K (Dn Q) [some (.ref l), none, none, none] H := by
  have getp : ∀ {i : Nat} {x : V}, (ps.map fun p => V.ref p.1)[i]? = some x → ∃ p, ps[i]? = some p ∧ x = V.ref p.1 := by
    intro i x hx
    rw [List.getElem?_map] at hx
    cases e : ps[i]? with
    | none =>
      rw [e] at hx
      cases hx
    | some p =>
      rw [e] at hx
      exact ⟨p, rfl, (Option.some.inj hx).symm⟩
  refine ⟨_, rfl, l, rfl, ⟨_, SqL.of hl⟩, for_list (K := K) (a := l) (xs := ps.map fun p => V.ref p.1) (fun i σ H' => ∃ v : Option V, H' = H ∧ σ = [some (.ref l), v, none, none] ∧ ∀ j, j < i → ∀ p, ps[j]? = some p → p.2.length ≤ 4096)
    ⟨none, rfl, rfl, fun j hj => by omega⟩ (fun i σ H' _ ⟨_, e, _⟩ => by rw [e]; exact SqL.of hl) ?_ ?_⟩
  · rintro i x σ H' hx ⟨v, rfl, rfl, hle⟩
    obtain ⟨p, hp, rfl⟩ := getp hx
    have hm : p ∈ ps := List.mem_of_getElem? hp
    refine ⟨_, rfl, p.1, _, rfl, .inl (hS p hm), _, _, rfl, rfl, _, rfl, ?_⟩
    rw [byV_length]
    refine ite2 (fun c => ?_) (fun c => ?_)
    · have c := of_decide_eq_true c
      refine ⟨_, rfl, -2, rfl, ?_⟩
      unfold refuseV at g
      rw [if_pos (by rw [List.any_eq_true]; exact ⟨p.2, List.mem_map.mpr ⟨p, hm, rfl⟩, decide_eq_true (by omega)⟩)] at g
      exact g
    · have c := of_decide_eq_false (Bool.eq_false_iff.mpr c)
      refine ⟨some (.ref p.1), rfl, rfl, fun j hj p' hp' => ?_⟩
      by_cases e : j = i
      · subst e
        rw [hp] at hp'
        cases hp'
        omega
      · exact hle j (by omega) p' hp'
  · rintro σ H' ⟨v, rfl, rfl, hle⟩
    have hno : ¬ (ps.map (·.2)).any (fun (b : Bytes) => decide (4096 < b.length)) = true := by
      rw [List.any_eq_true]
      rintro ⟨b, hb, c⟩
      obtain ⟨p, hp, rfl⟩ := List.mem_map.mp hb
      obtain ⟨j, hj⟩ := List.mem_iff_getElem?.mp hp
      have hjl : j < ps.length := (List.getElem?_eq_some_iff.mp hj).1
      have := hle j (by rw [List.length_map]; exact hjl) p hj
      have := of_decide_eq_true c
      omega
    unfold refuseV at g
    rw [if_neg hno] at g
    refine ⟨_, rfl, l, _, rfl, SqL.of hl, for_enum (K := K) (a := l) (xs := ps.map fun p => V.ref p.1) (fun i σ H2 => ∃ v1 v2 v3 : Option V, Same H' H2 ∧ σ = [some (.ref l), v1, v2, v3] ∧ refuseFrom 0 (ps.map (·.2)) = refuseFrom i ((ps.map (·.2)).drop i))
      ⟨v, none, none, Same.refl _, rfl, rfl⟩ (fun i σ H2 _ ⟨_, _, _, s, _⟩ => SqL.of (s _ _ hl)) ?_ ?_⟩
    · rintro i x σ H2 T hx ⟨v1, v2, v3, s, rfl, hr⟩ hT
      obtain ⟨p, hp, rfl⟩ := getp hx
      have hm : p ∈ ps := List.mem_of_getElem? hp
      have s1 := s.trans (same_new hT (.tup [.int (i : Nat), .ref p.1]))
      refine ⟨T, _, rfl, SqT.of upd_same, rfl, _, _, rfl, _, _, rfl, rfl, ?_⟩
      have hd : (ps.map (·.2)).drop i = p.2 :: (ps.map (·.2)).drop (i + 1) := by
        have hil : i < (ps.map (·.2)).length := by
          rw [List.length_map]
          exact (List.getElem?_eq_some_iff.mp hp).1
        rw [List.drop_eq_getElem_cons hil]
        congr 1
        have := List.getElem?_eq_some_iff.mp hp
        simp [this.2]
      rw [hd, refuseFrom] at hr
      refine ⟨_, rfl, p.1, p.2, rfl, s1.seq (hS p hm), fun f H3 s3 hf => ?_⟩
      refine ⟨_, rfl, _, .inl ⟨_, SqL.of hf, rfl⟩, ?_⟩
      have s13 := s1.trans s3
      cases hR : Plate.readSheet p.2 with
      | error e =>
        rw [hR] at hr
        rw [fault_of_error hR] at hf ⊢
        refine iteT ⟨_, rfl, z0, fun p1 hp1 => ⟨_, rfl, f, _, _, _, rfl, rfl, SqL.of ((same_new hp1 _) _ _ hf), natV_at (i := 0) rfl rfl, _, rfl, _, _, rfl, rfl, .inl ⟨by decide, by decide⟩, _, _, rfl, rfl,
          _, rfl, f, _, _, _, rfl, rfl, SqL.of ((same_new hp1 _) _ _ hf), natV_at (i := 1) rfl rfl, z2, fun p2 hp2 => ?_⟩⟩
        refine ⟨_, p1, p2, [], _, rfl, (same_new hp2 _) _ _ upd_same, upd_same, by decide, (by show 2 ≤ 10000; decide), ?_⟩
        refine (Gives.same ?_ ((s13.trans (same_new hp1 _)).trans (same_new hp2 _)))
        have hr : refuseFrom 0 (ps.map (·.2)) = ansV (-6) [] (natV [e.kind + 16 * i, e.place]) := hr
        rw [hr] at g
        have e1 : natV [e.kind + 16 * i, e.place] = [V.int ((e.kind : Int) + 16 * (i : Int)), V.int (e.place : Int)] := by
          unfold natV
          simp
        rw [e1] at g
        exact g
      | ok s0 =>
        rw [hR] at hr
        rw [fault_of_ok hR] at hf ⊢
        refine iteF ⟨some (.ref p.1), some (.int (i : Nat)), some (.ref f), s13, rfl, hr⟩
    · rintro σ H2 ⟨v1, v2, v3, s, rfl, hr⟩
      rw [List.length_map] at hr
      rw [List.drop_eq_nil_of_le (by rw [List.length_map]; exact Nat.le_refl _)] at hr
      refine ⟨z0, fun p hp => ?_⟩
      rw [hr] at g
      refine g p _ (s.trans (same_new hp _)) ?_
      rw [upd_same]
      rfl
end Pl


set_option Elab.async false
set_option linter.all false
set_option maxRecDepth 100000
set_option maxHeartbeats 2000000
namespace Pl
open PySem PySem.Spec PyProof.Rows L2 Pm
open Plate (Bytes Sheet width)
variable {K : PySem.W.Frag} {H : Hp} {Q : VK}

theorem rsize {h c : Nat} (hh : 1 ≤ h) (hc : 1 ≤ c) (i : Nat) : Builtin.Range.rangeSize (i : Int) ((i + h * c : Nat) : Int) (c : Int) = (h : Int) := by
  unfold Builtin.Range.rangeSize
  have hp : 1 * 1 ≤ h * c := Nat.mul_le_mul hh hc
  rw [if_pos (by omega), if_pos (by omega)]
  have e : ((i + h * c : Nat) : Int) - (i : Int) - 1 = ((c - 1 : Nat) : Int) + ((h - 1 : Nat) : Int) * (c : Int) := by
    have : h * c = (h - 1) * c + c := by
      rw [← Nat.succ_mul]
      congr 1
      omega
    rw [this]
    have e2 : ((h - 1 : Nat) : Int) * (c : Int) = (((h - 1) * c : Nat) : Int) := by simp
    rw [e2]
    omega
  rw [e, Int.add_mul_ediv_right _ _ (by omega), Int.ediv_eq_zero_of_lt (by omega) (by omega)]
  omega
theorem rgc {h c i : Nat} (hh : 1 ≤ h) (hc : 1 ≤ c) (h2 : h ≤ 1000) (c2 : c ≤ 1000) (i2 : i ≤ 1000) : RgC (i : Int) ((i + h * c : Nat) : Int) (c : Int) h := by
  have hm : h * c ≤ 1000 * 1000 := Nat.mul_le_mul h2 c2
  refine ⟨by omega, by omega, ?_, rsize hh hc i⟩
  unfold Builtin.Range.small Builtin.Range.rangeFitsLong
  rw [rsize hh hc i, if_pos (by omega)]
  simp only [Bool.and_eq_true, Bool.or_eq_true, decide_eq_true_eq, beq_iff_eq]
  omega
/-- one byte more of a row -/
theorem row_step (F : Nat → Bool) (i c : Nat) (hc : c < 256) (hF : ∀ j, j < 8 → F (8 * i + j) = c.testBit j) : rowN (8 * i) F ||| c * 2 ^ (8 * i) = rowN (8 * (i + 1)) F := by
  apply eq_rowN
  intro x
  have : c * 2 ^ (8 * i) = c <<< (8 * i) := by rw [Nat.shiftLeft_eq]
  rw [Nat.testBit_or, rowN_bit, this, Nat.testBit_shiftLeft]
  by_cases h1 : x < 8 * i
  · have h2 : ¬ x ≥ 8 * i := by omega
    have h3 : x < 8 * (i + 1) := by omega
    simp [h1, h2, h3]
  · have h2 : x ≥ 8 * i := by omega
    by_cases h3 : x < 8 * (i + 1)
    · have := hF (x - 8 * i) (by omega)
      have e : 8 * i + (x - 8 * i) = x := by omega
      rw [e] at this
      simp [h1, h2, h3, this]
    · have : c.testBit (x - 8 * i) = false := testBit_hi (r := 8) hc (by omega)
      simp [h1, h3, this]
theorem rd_sheet_rows {a : Addr} {b : Bytes} {s : Sheet} (hS : SqL K H a (byV b)) (F : Fits b s) (g : Gives H (natV (rowsOf s)) Q) : Rd_sheet_rows K (Dn Q) [some (.ref a), none, none, none, none, none] H := by
  have hp := width_pos F.w1
  have hp2 := width_le F.w2
  have hl := F.len
  have hh := F.h1
  have hh2 := F.h2
  have hmul : 1 * 1 ≤ s.h * width s.w := Nat.mul_le_mul hh hp
  refine ⟨_, rfl, a, _, _, _, rfl, rfl, hS, byV_at (i := 0) rfl (by omega), s.w, by rw [F.b0], z0, fun l hl0 => ?_⟩
  refine ⟨_, rfl, a, _, rfl, .inl ((same_new hl0 _).seq hS), _, rfl, 4, _, _, s.h, rfl, ?_, ?_⟩
  · rw [byV_length, hl]
    exact rgc (i := 4) hh hp (by omega) (by omega) (by omega)
  refine for_rangeC (lo := 4) (c := (width s.w : Nat)) (n := s.h) (fun y σ H' => ∃ v3 v4 v5 : Option V, σ = [some (.ref a), some (.int (width s.w : Nat)), some (.ref l), v3, v4, v5] ∧ Same H H' ∧ H' l = some (.lst (natV ((rowsOf s).take y))))
    ⟨none, none, none, rfl, same_new hl0 _, by rw [upd_same]; rfl⟩ ?_ ?_
  · rintro y σ H' hy ⟨v3, v4, v5, rfl, s1, hl1⟩
    have em : (4 : Int) + (y : Int) * ((width s.w : Nat) : Int) = ((4 + y * width s.w : Nat) : Int) := by simp
    have hyl : (y + 1) * width s.w ≤ s.h * width s.w := Nat.mul_le_mul_right _ hy
    rw [Nat.add_mul] at hyl
    refine ⟨_, rfl, ((width s.w : Nat) : Int), rfl, by omega, by omega, for_range (lo := 0) (n := ((width s.w : Nat) : Int).toNat) (fun i σ H2 => ∃ v5 : Option V, H2 = H' ∧ σ = [some (.ref a), some (.int (width s.w : Nat)), some (.ref l), some (.int ((4 + y * width s.w : Nat) : Int)),
        some (.int ((rowN (8 * i) fun (j : Nat) => (b.getD (4 + y * width s.w + j / 8) 0).toNat.testBit (j % 8)) : Nat)), v5])
      ⟨v5, rfl, by rw [← em]; rfl⟩ ?_ ?_⟩
    · rintro i σ H2 hi ⟨v5, rfl, rfl⟩
      have hi : i < width s.w := by omega
      refine ⟨_, rfl, _, rfl, _, rfl, _, rfl, _, _, rfl, rfl, a, _, _, _, rfl, rfl, s1.seq hS, byV_at (i := 4 + y * width s.w + i) (by omega) (by omega), _, rfl, _, _, rfl, rfl, .inl ⟨by decide, by decide⟩, _, _, rfl, rfl, ⟨by omega, by omega, ?_⟩, _, _, rfl, rfl, ?_⟩
      · have := UInt8.toNat_lt (b.getD (4 + y * width s.w + i) 0)
        have e : (((b.getD (4 + y * width s.w + i) 0).toNat : Nat) : Int).natAbs = (b.getD (4 + y * width s.w + i) 0).toNat := Int.natAbs_natCast _
        rw [e]
        omega
      · refine ⟨some (.int (0 + (i : Int))), rfl, ?_⟩
        have e8 : (8 * (0 + (i : Int))).toNat = 8 * i := by omega
        show List.set _ 4 (some (V.int (Builtin.bitOr _ (_ * 2 ^ (8 * (0 + (i : Int))).toNat)))) = _
        rw [e8, cast_shl, bor, row_step _ i _ (UInt8.toNat_lt _) (fun j hj => ?_)]
        · rfl
        · have e1 : (8 * i + j) / 8 = i := by omega
          have e2 : (8 * i + j) % 8 = j := by omega
          rw [e1, e2]
    · rintro σ H2 ⟨v5, rfl, rfl⟩
      rw [Int.toNat_natCast, F.row y hy]
      have hlen : (natV ((rowsOf s).take y)).length ≤ 24 := by
        rw [natV_length, List.length_take, rowsOf_length]
        omega
      refine ⟨_, rfl, .inl ⟨rfl, _, SqL.of hl1⟩, _, rfl, l, _, _, rfl, rfl, hl1, sl_lt (by omega), ?_⟩
      refine ⟨_, _, _, rfl, sput s1 hl0 _, ?_⟩
      rw [upd_same, take_snoc (rowsOf_get hy), natV_append]
      rfl
  · rintro σ H' ⟨v3, v4, v5, rfl, s1, hl1⟩
    rw [List.take_of_length_le (by rw [rowsOf_length]; exact Nat.le_refl _)] at hl1
    exact ⟨_, rfl, g l _ s1 hl1⟩
theorem b2n_bit (r i : Nat) : r / 2 ^ i % 2 = b2n (r.testBit i) := by
  rw [Nat.testBit_eq_decide_div_mod_eq]
  unfold b2n
  have := Nat.mod_two_eq_zero_or_one (r / 2 ^ i)
  rcases this with h | h <;> simp [h]
theorem rd_row_dots {w r : Nat} (hw : w ≤ 24) (g : Gives H (natV (dotsOf w r)) Q) : Rd_row_dots K (Dn Q) [some (.int (w : Int)), some (.int (r : Int)), none] H := by
  refine ⟨_, rfl, (w : Int), rfl, by omega, by omega, fun D hD => lc_range (lo := 0) (n := (w : Int).toNat) (fun i H' => Same H H' ∧ H' D = some (.lst (natV ((dotsOf w r).take i)))) ⟨same_new hD _, by rw [upd_same]; rfl⟩ ?_ ?_⟩
  · rintro i H' hi ⟨s1, h1⟩
    have hi : i < w := by omega
    refine ⟨rfl, _, rfl, _, rfl, _, _, rfl, rfl, by omega, _, _, rfl, rfl, _, h1, ?_, sput s1 hD _, ?_⟩
    · rw [natV_length, List.length_take]
      exact sl_lt (by omega)
    · have e : (0 + (i : Int)).toNat = i := by omega
      show upd H' D (.lst (natV ((dotsOf w r).take i) ++ [V.int (Builtin.bitAnd ((r : Int) / 2 ^ (0 + (i : Int)).toNat) 1)])) D = _
      rw [upd_same, e, cast_shr, band_1, b2n_bit]
      have hg : (dotsOf w r)[i]? = some (b2n (r.testBit i)) := by simp [dotsOf, hi]
      rw [take_snoc hg, natV_append]
      rfl
  · rintro H' ⟨s1, h1⟩
    rw [List.take_of_length_le (by simp [dotsOf])] at h1
    exact g D _ s1 h1
end Pl


set_option Elab.async false
set_option linter.all false
set_option maxRecDepth 100000
set_option maxHeartbeats 2000000
namespace Pl
open PySem PySem.Spec PyProof.Rows L2 Pm
open Plate (Bytes Sheet width)
variable {K : PySem.W.Frag} {H : Hp} {Q : VK}

def answerV (a : Sheets.Answer) : List V := (SheetsNeutral.numbersOf a).map V.int
theorem natV_ints (l : List Nat) : (Plate.ints l).map V.int = natV l := by
  unfold Plate.ints natV
  rw [List.map_map]
  rfl
theorem answerV_mk (z : Int) (b : Bytes) (l : List Int) : answerV ⟨z, b, l⟩ = ansV z (byV b) (l.map V.int) := by
  unfold answerV SheetsNeutral.numbersOf ansV byV
  simp only [List.map_cons, List.map_append, List.map_map, List.length_map, List.cons_append]
  rfl
theorem answerV_says (z : Int) : answerV (Plate.says z) = ansV z [] [] := answerV_mk z [] []
theorem answerV_tells (z : Int) (l : List Nat) : answerV (Plate.tells z l) = ansV z [] (natV l) := by
  unfold Plate.tells
  rw [answerV_mk, natV_ints]
  rfl
theorem answerV_faulty (e : Plate.Fault) : answerV (Plate.faulty e) = ansV (-6) [] (natV [e.kind, e.place]) := answerV_tells _ _
theorem of_sheet_cases (b : Bytes) (f : Sheet → Sheets.Answer) :
    ((!(refuseV [b]).isEmpty) = true ∧ answerV (Sheets.ofSheet b f) = refuseV [b]) ∨ ∃ s, Plate.readSheet b = .ok s ∧ refuseV [b] = [] ∧ answerV (Sheets.ofSheet b f) = answerV (f s) := by
  unfold Sheets.ofSheet Sheets.looked refuseV
  by_cases c : ([b].any fun (b : Bytes) => decide (4096 < b.length)) = true
  · rw [if_pos c]
    have c' : ([b].any fun (b : Bytes) => decide (Plate.LOOKED < b.length)) = true := c
    rw [if_pos c']
    exact .inl ⟨rfl, answerV_says _⟩
  · rw [if_neg c]
    have c' : ¬ ([b].any fun (b : Bytes) => decide (Plate.LOOKED < b.length)) = true := c
    rw [if_neg c']
    unfold refuseFrom refuseFrom
    cases h : Plate.readSheet b with
    | error e => exact .inl ⟨rfl, answerV_faulty e⟩
    | ok s => exact .inr ⟨s, rfl, rfl, rfl⟩
/-- the guard that each call on one sheet begins with -/
theorem rd_guard1 {i j : Nat} {a : Addr} {b : Bytes} {f : Sheet → Sheets.Answer} {u : TS} {σ : L2.St} (hi : σ[i]? = some (some (.ref a))) (hj : ∀ v : V, (σ.set j (some v))[j]? = some (some v)) (hS : SqL K H a (byV b)) (g : Gives H (answerV (Sheets.ofSheet b f)) Q)
    (k : ∀ s r H2, Plate.readSheet b = .ok s → Fits b s → Same H H2 → Gives H2 (answerV (f s)) Q → u (Dn Q) (σ.set j (some (.ref r))) H2) :
    tSeq (tAsg (tOwn (sp_refuse_sheets K) (tCons (tLst (tCons (tVar i) tNil)) tNil)) (gName j)) (tSeq (tIfS (tTruth K (tVar j)) (tRet (tVar j)) tNext) u) (Dn Q) σ H := by
  refine ⟨_, hi, z1, fun l hl => ⟨l, [(a, b)], rfl, upd_same, fun p hp => ?_, (by show 1 ≤ 2; decide), fun r H2 s2 hr => ?_⟩⟩
  · have e : p = (a, b) := List.mem_singleton.mp hp
    subst e
    exact (same_new hl _).seq hS
  · have s3 : Same H H2 := (same_new hl _).trans s2
    refine ⟨_, hj _, _, .inl ⟨_, SqL.of hr, rfl⟩, ?_⟩
    have hr : H2 r = some (.lst (refuseV [b])) := hr
    show if (!(refuseV [b]).isEmpty) = true then _ else _
    rcases of_sheet_cases b f with ⟨c, e⟩ | ⟨s, c, e, e2⟩
    · rw [c]
      exact iteT ⟨_, hj _, g r H2 s3 (by rw [e]; exact hr)⟩
    · rw [e]
      exact iteF (k s r H2 c (readSheet_ok c) s3 (by rw [← e2]; exact g.same s3))
theorem natV_getE {l : List Nat} {i : Nat} {x : V} (hx : (natV l)[i]? = some x) : ∃ r, l[i]? = some r ∧ x = V.int (r : Int) := by
  unfold natV at hx
  rw [List.getElem?_map] at hx
  cases e : l[i]? with
  | none =>
    rw [e] at hx
    cases hx
  | some r =>
    rw [e] at hx
    exact ⟨r, rfl, (Option.some.inj hx).symm⟩
end Pl


set_option Elab.async false
set_option linter.all false
set_option maxRecDepth 100000
set_option maxHeartbeats 2000000
namespace Pl
open PySem PySem.Spec PyProof.Rows L2 Pm
open Plate (Bytes Sheet width)
variable {K : PySem.W.Frag} {H : Hp} {Q : VK}

theorem dt {p : Prop} [Decidable p] {A B : Prop} (hp : p) (h : A) : if decide p = true then A else B := by
  rw [decide_eq_true hp]
  exact iteT h
theorem df {p : Prop} [Decidable p] {A B : Prop} (hp : ¬ p) (h : B) : if decide p = true then A else B := by
  rw [decide_eq_false hp]
  exact iteF h
end Pl


set_option Elab.async false
set_option linter.all false
set_option maxRecDepth 100000
set_option maxHeartbeats 2000000
namespace Pl
open PySem PySem.Spec PyProof.Rows L2 Pm
open Plate (Bytes Sheet width)
variable {K : PySem.W.Frag} {H : Hp} {Q : VK}

theorem rd_is_lattice {a b : Nat} (g : Q (.bl (Plate.latticed a b)) H) : Rd_is_lattice K (Dn Q) [some (.int (a : Int)), some (.int (b : Int))] H := by
  have e : Plate.latticed a b = (decide (1 ≤ a) && (decide (a ≤ 8) && (decide (b ≤ 8) && decide (a * a + b * b ≤ 64)))) := rfl
  rw [e] at g
  refine ⟨_, rfl, _, _, rfl, rfl, _, rfl, ?_⟩
  by_cases h1 : 1 ≤ a
  · refine dt (by omega) ⟨_, _, rfl, rfl, _, rfl, ?_⟩
    by_cases h2 : a ≤ 8
    · refine dt (by omega) ⟨_, rfl, _, _, rfl, rfl, _, rfl, ?_⟩
      by_cases h3 : b ≤ 8
      · refine dt (by omega) ⟨_, rfl, _, rfl, _, _, rfl, rfl, .inl ⟨by omega, by omega⟩, _, rfl, _, rfl, _, _, rfl, rfl, .inl ⟨by omega, by omega⟩, _, _, rfl, rfl, _, _, rfl, rfl, ?_⟩
        have e2 : decide ((a : Int) * (a : Int) + (b : Int) * (b : Int) ≤ 64) = decide (a * a + b * b ≤ 64) := by
          have : ((a : Int) * (a : Int) + (b : Int) * (b : Int) ≤ 64) ↔ (a * a + b * b ≤ 64) := by
            rw [← Int.natCast_mul, ← Int.natCast_mul, ← Int.natCast_add]
            omega
          exact decide_eq_decide.mpr this
        show Q (.bl (decide ((a : Int) * (a : Int) + (b : Int) * (b : Int) ≤ 64))) H
        rw [e2]
        simpa [h1, h2, h3] using g
      · refine df (by omega) ?_
        simpa [h1, h2, h3] using g
    · refine df (by omega) ?_
      simpa [h1, h2] using g
  · refine df (by omega) ⟨_, rfl, iteF ?_⟩
    simpa [h1] using g
theorem rd_common_divisor {a b : Nat} (g : Q (.int (Nat.gcd a b : Nat)) H) : Rd_common_divisor K (Dn Q) [some (.int (a : Int)), some (.int (b : Int)), none] H := by
  refine while_by (fun σ H' => H' = H ∧ ∃ (a' b' : Nat) (v : Option V), σ = [some (.int (a' : Int)), some (.int (b' : Int)), v] ∧ Nat.gcd a' b' = Nat.gcd a b)
    (fun σ _ => match σ with | [_, some (.int z), _] => z.toNat | _ => 0) ⟨rfl, a, b, none, rfl, rfl⟩ ?_ ?_
  · rintro σ H' ⟨rfl, a', b', v, rfl, e⟩
    refine ⟨_, rfl, _, _, rfl, rfl, _, rfl, ?_⟩
    by_cases h : 0 < b'
    · refine dt (by omega) ⟨_, rfl, _, rfl, _, _, rfl, rfl, (by show (0 : Int) < (b' : Int); omega), _, rfl, _, rfl, ⟨rfl, b', a' % b', some (.int ((a' % b' : Nat) : Int)), ?_, ?_⟩, ?_⟩
      · show [some (V.int (b' : Int)), some (V.int ((a' : Int) % (b' : Int))), some (V.int ((a' : Int) % (b' : Int)))] = _
        rw [← Int.natCast_emod]
      · rw [← e, Nat.gcd_comm a' b', Nat.gcd_rec b' a', Nat.gcd_comm]
      · show ((a' : Int) % (b' : Int)).toNat < (b' : Int).toNat
        have := Nat.mod_lt a' h
        rw [← Int.natCast_emod]
        omega
    · refine df (by omega) ⟨_, rfl, ?_⟩
      have : b' = 0 := by omega
      subst this
      rw [Nat.gcd_zero_right] at e
      rw [e]
      exact g
  · rintro σ H' Q1 Q2 hm ⟨v, hv, i, j, e1, e2, k, e3, q⟩
    exact ⟨v, hv, i, j, e1, e2, k, e3, hm _ _ q⟩
end Pl


set_option Elab.async false
set_option linter.all false
set_option maxRecDepth 100000
set_option maxHeartbeats 2000000
namespace Pl
open PySem PySem.Spec PyProof.Rows L2 Pm
open Plate (Bytes Sheet width)
variable {K : PySem.W.Frag} {C : Addr} {H : Hp} {Q : VK} {o : Addr} {s : Plate.Screen}

theorem rd_m_along {x y : Int} (h : La K C H o s) (g : Q (.int (s.a * x + s.b * y)) H) : Rd_m_along K C (Dn Q) [some (.ref o), some (.int x), some (.int y)] H := by
  obtain ⟨T, L, dx, fs, e, F⟩ := h
  have := L.a2
  have := L.b2
  exact ⟨_, rfl, o, C, dx, fs, _, rfl, e, T.cl, T.n_a, F.a, _, rfl, _, _, rfl, rfl, .inl ⟨by omega, by omega⟩, _, rfl, o, C, dx, fs, _, rfl, e, T.cl, T.n_b, F.b, _, rfl, _, _, rfl, rfl, .inl ⟨by omega, by omega⟩, _, _, rfl, rfl, g⟩
theorem rd_m_across {x y : Int} (h : La K C H o s) (g : Q (.int (s.a * y - s.b * x)) H) : Rd_m_across K C (Dn Q) [some (.ref o), some (.int x), some (.int y)] H := by
  obtain ⟨T, L, dx, fs, e, F⟩ := h
  have := L.a2
  have := L.b2
  exact ⟨_, rfl, o, C, dx, fs, _, rfl, e, T.cl, T.n_a, F.a, _, rfl, _, _, rfl, rfl, .inl ⟨by omega, by omega⟩, _, rfl, o, C, dx, fs, _, rfl, e, T.cl, T.n_b, F.b, _, rfl, _, _, rfl, rfl, .inl ⟨by omega, by omega⟩, _, _, rfl, rfl, g⟩
theorem dec_zero (z : Int) : decide (V.int z = V.int 0) = (z == 0) := dec_int
theorem rd_m_has_place {x y : Int} (h : La K C H o s) (g : Q (.bl (s.onLattice x y)) H) : Rd_m_has_place K C (Dn Q) [some (.ref o), some (.int x), some (.int y)] H := by
  have h0 := h
  obtain ⟨T, L, dx, fs, e, F⟩ := h
  have hn := L.n1
  have hN : (0 : Int) < s.n := by omega
  have g' : Q (.bl ((((s.a : Int) * x + s.b * y) % (s.n : Int) == 0) && (((s.a : Int) * y - s.b * x) % (s.n : Int) == 0))) H := g
  refine ⟨_, rfl, o, dx, fs, rfl, e, F.k_along, _, rfl, _, rfl, o, s, x, y, rfl, h0, _, rfl, o, C, dx, fs, _, rfl, e, T.cl, T.n_n, F.n, _, _, rfl, rfl, hN, rfl, _, rfl, ?_⟩
  show if decide (V.int (((s.a : Int) * x + s.b * y) % (s.n : Int)) = V.int 0) = true then _ else _
  rw [dec_zero]
  cases h1 : ((((s.a : Int) * x + s.b * y) % (s.n : Int)) == 0) with
  | false =>
    rw [h1, Bool.false_and] at g'
    exact iteF g'
  | true =>
    rw [h1, Bool.true_and] at g'
    refine iteT ⟨_, rfl, o, dx, fs, rfl, e, F.k_across, _, rfl, _, rfl, o, s, x, y, rfl, h0, _, rfl, o, C, dx, fs, _, rfl, e, T.cl, T.n_n, F.n, _, _, rfl, rfl, hN, rfl, ?_⟩
    show Q (.bl (decide (V.int (((s.a : Int) * y - s.b * x) % (s.n : Int)) = V.int 0))) H
    rw [dec_zero]
    exact g'
theorem rd_m_find_slant (h : La K C H o s) (g : Q (.int (slantOf s : Nat)) H) : Rd_m_find_slant K C (Dn Q) [some (.ref o), none] H := by
  have h0 := h
  obtain ⟨T, L, dx, fs, e, F⟩ := h
  obtain ⟨so, sl, sm⟩ := slant_spec L
  refine while_by (fun σ H' => H' = H ∧ ∃ k : Nat, σ = [some (.ref o), some (.int (k : Int))] ∧ k ≤ slantOf s)
    (fun σ _ => match σ with | [_, some (.int z)] => slantOf s - z.toNat | _ => 0) ⟨rfl, 0, rfl, Nat.zero_le _⟩ ?_ ?_
  · rintro σ H' ⟨rfl, k, rfl, hk⟩
    refine ⟨_, rfl, o, dx, fs, rfl, e, F.k_has_place, _, rfl, _, rfl, o, C, dx, fs, _, rfl, e, T.cl, T.n_g, F.g, o, s, (k : Int), (s.g : Int), rfl, h0, _, rfl, ?_⟩
    by_cases c : k = slantOf s
    · subst c
      rw [so]
      exact iteF ⟨_, rfl, g⟩
    · rw [sm k (by omega)]
      refine iteT ⟨_, rfl, _, _, rfl, rfl, ⟨rfl, k + 1, rfl, by omega⟩, ?_⟩
      show slantOf s - ((k : Int) + 1).toNat < slantOf s - (k : Int).toNat
      omega
  · rintro σ H' Q1 Q2 hm ⟨v, hv, a, dx', fs', e1, e2, e3, w, hw, w2, hw2, p, C', dx2, fs2, v2, e4, e5, c1, c2, e6, o', s', x, y, e7, e8, k, e9, q⟩
    exact ⟨v, hv, a, dx', fs', e1, e2, e3, w, hw, w2, hw2, p, C', dx2, fs2, v2, e4, e5, c1, c2, e6, o', s', x, y, e7, e8, k, e9, hm _ _ q⟩
theorem rd_m_class_at {x y : Int} (h : Lp K C H o s) (g : Q (.int (s.classOf x y : Nat)) H) : Rd_m_class_at K C (Dn Q) [some (.ref o), some (.int x), some (.int y), none] H := by
  obtain ⟨T, L, dx, fs, e, F⟩ := h
  have hg := L.g1
  have hg8 := L.g_le
  have hp := L.p1
  have hp64 := L.p_le
  have hn := L.n2
  have hG : (0 : Int) < s.g := by omega
  have hP : (0 : Int) < s.p := by omega
  obtain ⟨_, sl, _⟩ := slant_spec L
  rw [← class_code L] at g
  refine ⟨_, rfl, _, rfl, o, C, dx, fs, _, rfl, e, T.cl, T.n_g, F.g, _, _, rfl, rfl, ⟨by omega, by omega⟩, ?_⟩
  refine ⟨_, rfl, _, rfl, o, C, dx, fs, _, rfl, e, T.cl, T.n_g, F.g, _, _, rfl, rfl, hG, _, rfl, o, C, dx, fs, _, rfl, e, T.cl, T.n_p, F.p, _, _, rfl, rfl, .inr ⟨by omega, by omega⟩, ?_⟩
  exact ⟨_, rfl, _, rfl, _, rfl, o, C, dx, fs, _, rfl, e, T.cl, T.n_slant, F.slant, _, _, rfl, rfl, .inr ⟨by omega, by omega⟩, _, _, rfl, rfl, _, rfl, o, C, dx, fs, _, rfl, e, T.cl, T.n_p, F.p, _, _, rfl, rfl, hP, _, _, rfl, rfl, g⟩
theorem rd_m_class_place {c : Nat} (h : Lp K C H o s) (g : ∀ p H', Same H H' → H' p = some (.tup [.int ((c % s.p : Nat) : Int), .int ((c / s.p : Nat) : Int)]) → Q (.ref p) H') : Rd_m_class_place K C (Dn Q) [some (.ref o), some (.int (c : Int))] H := by
  obtain ⟨T, L, dx, fs, e, F⟩ := h
  have hp := L.p1
  have hp64 := L.p_le
  have hn := L.n2
  refine ⟨_, rfl, _, rfl, o, C, dx, fs, _, rfl, e, T.cl, T.n_p, F.p, _, _, rfl, rfl, (by show (0 : Int) < s.p; omega), _, rfl, _, rfl, o, C, dx, fs, _, rfl, e, T.cl, T.n_p, F.p, _, _, rfl, rfl, ⟨by omega, by omega⟩, z2, fun p hp => ?_⟩
  exact g p _ (same_new hp _) upd_same

theorem put_ne {f m : Str} {v : V} {fs : List (Str × V)} (h : ¬ m = f) : (putF f v fs).lookup m = fs.lookup m := by
  rw [lookup_putF, if_neg h]
theorem put_eq {f : Str} {v : V} {fs : List (Str × V)} : (putF f v fs).lookup f = some v := by
  rw [lookup_putF, if_pos rfl]
theorem But.trans {o : Addr} {H H1 H2 : Hp} (a : But o H H1) (b : But o H1 H2) : But o H H2 := fun x u e n => b x u (a x u e n) n
theorem but_put {o : Addr} {H : Hp} (u : HO) : But o H (upd H o u) := fun b v e n => by rw [upd_ne n]; exact e
theorem rd_m_init {dx : Addr} (T : CT K C) (L : Lat s) (h : H o = some (.ins C dx [])) (g : ∀ H', (∃ fs, H' o = some (.ins C dx fs) ∧ Fp fs s ∧ fs.length < 100) → But o H H' → Q .non H') :
    Rd_m_init K C (Dn Q) [some (.ref o), some (.int (s.a : Int)), some (.int (s.b : Int))] H := by
  have ha := L.a2
  have hb := L.b2
  have hn := L.n1
  have hg := L.g1
  have hg8 := L.g_le
  have en : (s.a : Int) * (s.a : Int) + (s.b : Int) * (s.b : Int) = (s.n : Int) := (n_cast s).symm
  refine ⟨_, rfl, _, rfl, o, C, dx, [], rfl, h, T.cl, T.n_a, (by show 0 < 1000; decide), ?_⟩
  generalize hH1 : upd H o (.ins C dx (putF "a" (V.int (s.a : Int)) [])) = H1
  have b1 : But o H H1 := by rw [← hH1]; exact but_put _
  have e1 : H1 o = some (.ins C dx (putF "a" (V.int (s.a : Int)) [])) := by rw [← hH1]; exact upd_same
  refine ⟨_, rfl, _, rfl, o, C, dx, _, rfl, e1, T.cl, T.n_b, (by show 1 < 1000; decide), ?_⟩
  generalize hf2 : putF "b" (V.int (s.b : Int)) (putF "a" (V.int (s.a : Int)) []) = f2
  generalize hH2 : upd H1 o (.ins C dx f2) = H2
  have b2 : But o H H2 := by rw [← hH2]; exact b1.trans (but_put _)
  have e2 : H2 o = some (.ins C dx f2) := by rw [← hH2]; exact upd_same
  have l2 : f2.length < 1000 := by rw [← hf2]; show 2 < 1000; decide
  refine ⟨_, rfl, _, rfl, _, _, rfl, rfl, .inl ⟨by omega, by omega⟩, _, rfl, _, rfl, _, _, rfl, rfl, .inl ⟨by omega, by omega⟩, _, _, rfl, rfl, _, rfl, o, C, dx, _, rfl, e2, T.cl, T.n_n, l2, ?_⟩
  show Ends.nx _ _ (upd H2 o (HO.ins C dx (putF "n" (V.int ((s.a : Int) * (s.a : Int) + (s.b : Int) * (s.b : Int))) f2)))
  rw [en]
  generalize hf3 : putF "n" (V.int (s.n : Int)) f2 = f3
  generalize hH3 : upd H2 o (.ins C dx f3) = H3
  have b3 : But o H H3 := by rw [← hH3]; exact b2.trans (but_put _)
  have e3 : H3 o = some (.ins C dx f3) := by rw [← hH3]; exact upd_same
  have l3 : f3.length < 1000 := by rw [← hf3, ← hf2]; show 3 < 1000; decide
  refine ⟨_, rfl, _, rfl, s.a, s.b, rfl, _, rfl, o, C, dx, _, rfl, e3, T.cl, T.n_g, l3, ?_⟩
  show Ends.nx _ _ (upd H3 o (HO.ins C dx (putF "g" (V.int (s.g : Int)) f3)))
  generalize hf4 : putF "g" (V.int (s.g : Int)) f3 = f4
  generalize hH4 : upd H3 o (.ins C dx f4) = H4
  have b4 : But o H H4 := by rw [← hH4]; exact b3.trans (but_put _)
  have e4 : H4 o = some (.ins C dx f4) := by rw [← hH4]; exact upd_same
  have l4 : f4.length < 1000 := by rw [← hf4, ← hf3, ← hf2]; show 4 < 1000; decide
  have no4 : ∀ m : Str, ¬ m = "a" → ¬ m = "b" → ¬ m = "n" → ¬ m = "g" → f4.lookup m = none := fun m h1 h2 h3 h4 => by
    rw [← hf4, put_ne h4, ← hf3, put_ne h3, ← hf2, put_ne h2, put_ne h1]
    rfl
  have la4 : f4.lookup ("a" : Str) = some (.int (s.a : Int)) := by
    rw [← hf4, put_ne (by decide +kernel), ← hf3, put_ne (by decide +kernel), ← hf2, put_ne (by decide +kernel), put_eq]
  have lb4 : f4.lookup ("b" : Str) = some (.int (s.b : Int)) := by
    rw [← hf4, put_ne (by decide +kernel), ← hf3, put_ne (by decide +kernel), ← hf2, put_eq]
  have ln4 : f4.lookup ("n" : Str) = some (.int (s.n : Int)) := by
    rw [← hf4, put_ne (by decide +kernel), ← hf3, put_eq]
  have lg4 : f4.lookup ("g" : Str) = some (.int (s.g : Int)) := by
    rw [← hf4, put_eq]
  refine ⟨_, rfl, o, C, dx, _, _, rfl, e4, T.cl, T.n_n, ln4, _, rfl, o, C, dx, _, _, rfl, e4, T.cl, T.n_g, lg4, _, _, rfl, rfl, ⟨by omega, by omega⟩, _, rfl, o, C, dx, _, rfl, e4, T.cl, T.n_p, l4, ?_⟩
  have ep : (s.n : Int) / (s.g : Int) = (s.p : Int) := by
    unfold Plate.Screen.p
    simp
  show Ends.nx _ _ (upd H4 o (HO.ins C dx (putF "p" (V.int ((s.n : Int) / (s.g : Int))) f4)))
  rw [ep]
  generalize hf5 : putF "p" (V.int (s.p : Int)) f4 = f5
  generalize hH5 : upd H4 o (.ins C dx f5) = H5
  have b5 : But o H H5 := by rw [← hH5]; exact b4.trans (but_put _)
  have e5 : H5 o = some (.ins C dx f5) := by rw [← hH5]; exact upd_same
  have l5 : f5.length < 900 := by rw [← hf5, ← hf4, ← hf3, ← hf2]; show 5 < 900; decide
  have no5 : ∀ m : Str, ¬ m = "p" → f5.lookup m = f4.lookup m := fun m h => by rw [← hf5, put_ne h]
  have F5 : Fs f5 s := by
    refine ⟨?_, ?_, ?_, ?_, ?_, ?_, ?_, ?_, ?_, ?_, ?_, l5⟩
    · rw [no5 _ (by decide +kernel)]; exact la4
    · rw [no5 _ (by decide +kernel)]; exact lb4
    · rw [no5 _ (by decide +kernel)]; exact ln4
    · rw [no5 _ (by decide +kernel)]; exact lg4
    all_goals (rw [no5 _ (by decide +kernel)]; exact no4 _ (by decide +kernel) (by decide +kernel) (by decide +kernel) (by decide +kernel))
  refine ⟨_, rfl, o, dx, f5, rfl, e5, F5.k_find_slant, o, s, rfl, ⟨T, L, dx, f5, e5, F5⟩, _, rfl, o, C, dx, _, rfl, e5, T.cl, T.n_slant, by have := F5.len; omega, ?_⟩
  have no6 : ∀ m : Str, ¬ m = "slant" → (putF "slant" (V.int (slantOf s : Int)) f5).lookup m = f5.lookup m := fun m h => put_ne h
  refine g _ ⟨_, upd_same, ?_, by rw [← hf5, ← hf4, ← hf3, ← hf2]; show 6 < 100; decide⟩ (b5.trans (but_put _))
  refine { a := ?_, b := ?_, n := ?_, g := ?_, k_along := ?_, k_across := ?_, k_has_place := ?_, k_find_slant := ?_, k_class_at := ?_, k_class_place := ?_, k_rank_at := ?_, len := ?_, p := ?_, slant := put_eq }
  · exact (no6 _ (by decide +kernel)).trans F5.a
  · exact (no6 _ (by decide +kernel)).trans F5.b
  · exact (no6 _ (by decide +kernel)).trans F5.n
  · exact (no6 _ (by decide +kernel)).trans F5.g
  · exact (no6 _ (by decide +kernel)).trans F5.k_along
  · exact (no6 _ (by decide +kernel)).trans F5.k_across
  · exact (no6 _ (by decide +kernel)).trans F5.k_has_place
  · exact (no6 _ (by decide +kernel)).trans F5.k_find_slant
  · exact (no6 _ (by decide +kernel)).trans F5.k_class_at
  · exact (no6 _ (by decide +kernel)).trans F5.k_class_place
  · exact (no6 _ (by decide +kernel)).trans F5.k_rank_at
  · rw [← hf5, ← hf4, ← hf3, ← hf2]; show 6 < 900; decide
  · rw [no6 _ (by decide +kernel), ← hf5, put_eq]
end Pl


set_option Elab.async false
set_option linter.all false
set_option maxRecDepth 100000
set_option maxHeartbeats 2000000
namespace Pl
open PySem PySem.Spec PyProof.Rows L2 Pm
open Plate (Bytes Sheet width)
variable {K : PySem.W.Frag} {C : Addr} {H : Hp} {Q : VK} {o : Addr} {s : Plate.Screen}

theorem prV_length (ts : List Pr) : (prV ts).length = ts.length := List.length_map _
theorem prV_get {ts : List Pr} {i : Nat} {x : V} (h : (prV ts)[i]? = some x) : ∃ t, ts[i]? = some t ∧ x = .ref t.1 := by
  unfold prV at h
  rw [List.getElem?_map] at h
  cases e : ts[i]? with
  | none =>
    rw [e] at h
    cases h
  | some t =>
    rw [e] at h
    exact ⟨t, rfl, (Option.some.inj h).symm⟩
theorem abs_eq (i : Int) : (if i < 0 then -i else i) = (i.natAbs : Int) := by
  split <;> omega
theorem But.get {o : Addr} {H H' : Hp} (b : But o H H') {p : Addr} {u : HO} (h : H p = some u) (n : p ≠ o) : H' p = some u := b p u h n
theorem PrAt.but {l : Addr} {H H' : Hp} {ts : List Pr} {xs : List V} (h : PrAt H ts) (hl : H l = some (.lst xs)) (b : But l H H') : PrAt H' ts := fun t ht => b _ _ (h t ht) (ne_of (h t ht) hl (by intro q; cases q))
theorem PrAt.same {H H' : Hp} {ts : List Pr} (h : PrAt H ts) (b : Same H H') : PrAt H' ts := fun t ht => b _ _ (h t ht)
theorem but_new {l p : Addr} {H : Hp} (hp : H p = Option.none) (u : HO) : But l H (upd H p u) := fun b v e _ => same_new hp u b v e
/-- a younger pair is put behind a list's pairs -/
theorem pr_append {H : Hp} {l p : Addr} {ts : List Pr} {a b : Int} (hl : H l = some (.lst (prV ts))) (hP : PrAt H ts) (hp : H p = Option.none) :
    let H2 := upd (upd H p (.tup [.int a, .int b])) l (.lst (prV ts ++ [V.ref p]))
    But l H H2 ∧ H2 l = some (.lst (prV (ts ++ [(p, a, b)]))) ∧ PrAt H2 (ts ++ [(p, a, b)]) := by
  intro H2
  have npl : p ≠ l := fun e => by rw [e, hl] at hp; cases hp
  have b1 : But l H H2 := (but_new hp _).trans (but_put _)
  refine ⟨b1, ?_, fun t ht => ?_⟩
  · show upd _ l _ l = _
    rw [upd_same]
    unfold prV
    rw [List.map_append]
    rfl
  · rcases List.mem_append.mp ht with ht | ht
    · exact hP.but hl b1 t ht
    · obtain rfl := List.mem_singleton.mp ht
      show upd _ l _ p = _
      rw [upd_ne npl, upd_same]

theorem four_tups {H : Hp} {l p1 p2 p3 p4 q : Addr} {u1 u2 u3 u4 u5 : HO} (hl : H l = Option.none) (h1 : upd H l (.lst []) p1 = Option.none) (h2 : upd (upd H l (.lst [])) p1 u1 p2 = Option.none) (h3 : upd (upd (upd H l (.lst [])) p1 u1) p2 u2 p3 = Option.none)
    (h4 : upd (upd (upd (upd H l (.lst [])) p1 u1) p2 u2) p3 u3 p4 = Option.none) (hq : upd (upd (upd (upd (upd H l (.lst [])) p1 u1) p2 u2) p3 u3) p4 u4 q = Option.none) :
    let H6 := upd (upd (upd (upd (upd (upd H l (.lst [])) p1 u1) p2 u2) p3 u3) p4 u4) q u5
    Same H H6 ∧ H6 l = some (.lst []) ∧ H6 p1 = some u1 ∧ H6 p2 = some u2 ∧ H6 p3 = some u3 ∧ H6 p4 = some u4 ∧ H6 q = some u5 := by
  intro H6
  have kl := same_new hl (.lst [])
  have k1 := same_new h1 u1
  have k2 := same_new h2 u2
  have k3 := same_new h3 u3
  have k4 := same_new h4 u4
  have k5 := same_new hq u5
  exact ⟨kl.trans (k1.trans (k2.trans (k3.trans (k4.trans k5)))), k5 _ _ (k4 _ _ (k3 _ _ (k2 _ _ (k1 _ _ upd_same)))), k5 _ _ (k4 _ _ (k3 _ _ (k2 _ _ upd_same))), k5 _ _ (k4 _ _ (k3 _ _ upd_same)), k5 _ _ (k4 _ _ upd_same), k5 _ _ upd_same, upd_same⟩
theorem corner_loop {x y I J : Int} {l p1 p2 p3 p4 q : Addr} {H6 : Hp} {D : Ends} (h : La K C H o s) (hI : I = alongA s x y / s.n) (hJ : J = alongB s x y / s.n) (hl : H l = Option.none) (s6 : Same H H6) (gl : H6 l = some (.lst [])) (g1 : H6 p1 = some (.tup [.int I, .int J])) (g2 : H6 p2 = some (.tup [.int (I + 1), .int J]))
    (g3 : H6 p3 = some (.tup [.int I, .int (J + 1)])) (g4 : H6 p4 = some (.tup [.int (I + 1), .int (J + 1)])) (g5 : H6 q = some (.tup [.ref p1, .ref p2, .ref p3, .ref p4]))
    (g : ∀ ts H' v6 v7 v8, Same H H' → H' l = some (.lst (prV ts)) → PrAt H' ts → ts.map (·.2) = cornerSteps s x y → D.nx [some (.ref o), some (.int x), some (.int y), some (.int I), some (.int J), some (.ref l), v6, v7, v8] H') :
    ∃ W : Nat → Nat → L2.St → Hp → Prop, (∃ m, W 0 m [some (.ref o), some (.int x), some (.int y), some (.int I), some (.int J), some (.ref l), none, none, none] H6) ∧ ∀ i m σ H, W i m σ H →
      ((Itt K q).stop i H ∧ D.nx σ H) ∨ ((Itt K q).go i H ∧ ∃ N : L2.St → Hp → Prop, (∀ σ' H', N σ' H' → ∃ m', m' < m ∧ W (i + 1) m' σ' H') ∧ ∀ x H', (Itt K q).yld i H x H' → gName 6 x σ H' fun σ2 H2 => Bd_corner_steps_0 K C { D with nx := N, ct := N, bk := D.nx } σ2 H2) := by
  obtain ⟨T, L, dx, fs, e, F⟩ := h
  have ha := L.a2
  have hb := L.b2
  have nlo : o ≠ l := ne_of_none e hl
  let cps : List Pr := [(p1, I, J), (p2, I + 1, J), (p3, I, J + 1), (p4, I + 1, J + 1)]
  have hcps : cps.map (·.2) = cornerAt s x y := by
    unfold cornerAt
    rw [← hI, ← hJ]
    rfl
  have hP6 : PrAt H6 cps := by
    intro t ht
    simp only [cps, List.mem_cons, List.not_mem_nil, or_false] at ht
    rcases ht with rfl | rfl | rfl | rfl
    · exact g1
    · exact g2
    · exact g3
    · exact g4
  have g5 : H6 q = some (.tup (prV cps)) := g5
  have nql : q ≠ l := ne_of g5 gl (by intro z; cases z)
  refine for_tup (K := K) (a := q) (xs := prV cps) (fun k σ H' => ∃ (ts : List Pr) (v6 v7 v8 : Option V), σ = [some (.ref o), some (.int x), some (.int y), some (.int I), some (.int J), some (.ref l), v6, v7, v8] ∧ But l H6 H' ∧ H' l = some (.lst (prV ts)) ∧ PrAt H' ts ∧
      ts.map (·.2) = ((cornerAt s x y).take k).map (stepTo s x y)) ⟨[], none, none, none, rfl, fun b u z _ => z, gl, fun t ht => absurd ht (by simp), rfl⟩ (fun k σ H' _ ⟨_, _, _, _, _, b, _⟩ => SqT.of (b.get g5 nql)) ?_ ?_
  · rintro k v σ H' hv ⟨ts, v6, v7, v8, rfl, b6, hl', hP', em⟩
    obtain ⟨t, ht, rfl⟩ := prV_get hv
    have htm := List.mem_of_getElem? ht
    have hc : (cornerAt s x y)[k]? = some t.2 := by
      rw [← hcps, List.getElem?_map, ht]
      rfl
    have hk4 : k < 4 := (List.getElem?_eq_some_iff.mp ht).1
    have htp : H' t.1 = some (.tup [.int t.2.1, .int t.2.2]) := b6.get (hP6 t htm) (ne_of (hP6 t htm) gl (by intro z; cases z))
    have eo : H' o = some (.ins C dx fs) := b6.get (s6 _ _ e) nlo
    have htl : ts.length < 1000 := by
      have := congrArg List.length em
      rw [List.length_map, List.length_map, List.length_take] at this
      omega
    refine ⟨_, rfl, t.1, _, _, _, rfl, rfl, SqT.of htp, at_of (j := 0) rfl rfl, _, rfl, o, C, dx, fs, _, rfl, eo, T.cl, T.n_a, F.a, _, _, rfl, rfl, .inr ⟨by omega, by omega⟩, ?_⟩
    refine ⟨_, rfl, t.1, _, _, _, rfl, rfl, SqT.of htp, at_of (j := 1) rfl rfl, _, rfl, o, C, dx, fs, _, rfl, eo, T.cl, T.n_b, F.b, _, _, rfl, rfl, .inr ⟨by omega, by omega⟩, _, _, rfl, rfl, ?_⟩
    refine ⟨_, rfl, t.1, _, _, _, rfl, rfl, SqT.of htp, at_of (j := 0) rfl rfl, _, rfl, o, C, dx, fs, _, rfl, eo, T.cl, T.n_b, F.b, _, _, rfl, rfl, .inr ⟨by omega, by omega⟩, ?_⟩
    refine ⟨_, rfl, t.1, _, _, _, rfl, rfl, SqT.of htp, at_of (j := 1) rfl rfl, _, rfl, o, C, dx, fs, _, rfl, eo, T.cl, T.n_a, F.a, _, _, rfl, rfl, .inr ⟨by omega, by omega⟩, _, _, rfl, rfl, ?_⟩
    refine ⟨_, rfl, .inl ⟨rfl, _, SqL.of hl'⟩, _, rfl, _, rfl, _, _, rfl, rfl, _, rfl, _, rfl, _, rfl, _, _, rfl, rfl, _, rfl, z2, fun p hp => ?_⟩
    have npl : l ≠ p := ne_of_none hl' hp
    refine ⟨l, _, _, rfl, rfl, (by rw [upd_ne npl]; exact hl'), (by rw [prV_length]; exact sl_lt (by omega)), ?_⟩
    have key : ∀ (a b : Int), a = ((x - (s.step t.2.1 t.2.2).1).natAbs : Int) → b = ((y - (s.step t.2.1 t.2.2).2).natAbs : Int) → ∀ v7' v8', ∃ (ts' : List Pr) (v6 v7 v8 : Option V), [some (.ref o), some (.int x), some (.int y), some (.int I), some (.int J), some (.ref l), some (.ref t.1), v7', v8'] = [some (.ref o), some (.int x), some (.int y), some (.int I), some (.int J), some (.ref l), v6, v7, v8] ∧
        But l H6 (upd (upd H' p (.tup [.int a, .int b])) l (.lst (prV ts ++ [.ref p]))) ∧ (upd (upd H' p (.tup [.int a, .int b])) l (.lst (prV ts ++ [.ref p]))) l = some (.lst (prV ts')) ∧ PrAt (upd (upd H' p (.tup [.int a, .int b])) l (.lst (prV ts ++ [.ref p]))) ts' ∧
        ts'.map (·.2) = ((cornerAt s x y).take (k + 1)).map (stepTo s x y) := by
      rintro _ _ rfl rfl v7' v8'
      obtain ⟨b7, l7, P7⟩ := pr_append (a := (x - (s.step t.2.1 t.2.2).1).natAbs) (b := (y - (s.step t.2.1 t.2.2).2).natAbs) hl' hP' hp
      refine ⟨_, _, _, _, rfl, b6.trans b7, l7, P7, ?_⟩
      rw [List.map_append, em, take_snoc hc, List.map_append]
      rfl
    exact key _ _ (abs_eq _) (abs_eq _) _ _
  · rintro σ H' ⟨ts, v6, v7, v8, rfl, b6, hl', hP', em⟩
    refine g ts H' v6 v7 v8 ?_ hl' hP' ?_
    · intro b u z
      exact b6 b u (s6 b u z) (ne_of_none z hl)
    · rw [em]
      rfl
theorem rd_corner_steps {x y : Int} (h : La K C H o s) (g : ∀ l ts H', Same H H' → H' l = some (.lst (prV ts)) → PrAt H' ts → ts.map (·.2) = cornerSteps s x y → Q (.ref l) H') :
    Rd_corner_steps K C (Dn Q) [some (.ref o), some (.int x), some (.int y), none, none, none, none, none, none] H := by
  have h0 := h
  obtain ⟨T, L, dx, fs, e, F⟩ := h
  have hn := L.n1
  have hn2 := L.n2
  refine ⟨_, rfl, o, dx, fs, rfl, e, F.k_along, _, rfl, _, rfl, o, s, x, y, rfl, h0, _, rfl, o, C, dx, fs, _, rfl, e, T.cl, T.n_n, F.n, _, _, rfl, rfl, ⟨by omega, by omega⟩, ?_⟩
  refine ⟨_, rfl, o, dx, fs, rfl, e, F.k_across, _, rfl, _, rfl, o, s, x, y, rfl, h0, _, rfl, o, C, dx, fs, _, rfl, e, T.cl, T.n_n, F.n, _, _, rfl, rfl, ⟨by omega, by omega⟩, ?_⟩
  refine ⟨z0, fun l hl => ?_⟩
  refine ⟨_, rfl, _, rfl, z2, fun p1 h1 => ⟨_, rfl, _, _, rfl, rfl, _, rfl, z2, fun p2 h2 => ⟨_, rfl, _, rfl, _, _, rfl, rfl, z2, fun p3 h3 => ⟨_, rfl, _, _, rfl, rfl, _, rfl, _, _, rfl, rfl, z2, fun p4 h4 => ⟨z4, fun q hq => ?_⟩⟩⟩⟩⟩
  obtain ⟨s6, gl, g1, g2, g3, g4, g5⟩ := four_tups (u5 := .tup [.ref p1, .ref p2, .ref p3, .ref p4]) hl h1 h2 h3 h4 hq
  exact ⟨q, rfl, ⟨_, SqT.of g5⟩, corner_loop h0 rfl rfl hl s6 gl g1 g2 g3 g4 g5 fun ts H' v6 v7 v8 a1 a2 a3 a4 => ⟨_, rfl, g l ts H' a1 a2 a3 a4⟩⟩
end Pl


set_option Elab.async false
set_option linter.all false
set_option maxRecDepth 100000
set_option maxHeartbeats 2000000
namespace Pl
open PySem PySem.Spec PyProof.Rows L2 Pm
open Plate (Bytes Sheet width)
variable {K : PySem.W.Frag} {C : Addr} {H : Hp} {Q : VK} {o : Addr} {s : Plate.Screen}

/-- a comprehension over pairs -/
theorem lc_prs {l : Addr} {ts : List Pr} {σ : L2.St} {H1 : Hp} {D : Addr} {k : Nat} {te : TE} {Qd : Hp → Prop} (f : Int × Int → Int) (hl : H1 l = some (.lst (prV ts))) (hP : PrAt H1 ts) (hD : H1 D = none) (hlen : ts.length ≤ 1000)
    (hw : ∀ v, wipe ((wipe σ [k]).set k v) [k] = wipe σ [k])
    (he : ∀ (t : Pr) (H' : Hp) (Qe : VK), t ∈ ts → H' t.1 = some (.tup [.int t.2.1, .int t.2.2]) → Qe (.int (f t.2)) H' → te ((wipe σ [k]).set k (some (.ref t.1))) H' Qe)
    (hd : ∀ H', Same H1 H' → H' D = some (.lst (((ts.map (·.2)).map f).map V.int)) → Qd H') :
    ∃ W : Nat → Nat → Hp → Prop, (∃ m, W 0 m (upd H1 D (.lst []))) ∧ ∀ i m H, W i m H →
      ((Itl K l).stop i H ∧ Qd H) ∨ ((Itl K l).go i H ∧ ∃ Nx : Hp → Prop, (∀ H', Nx H' → ∃ m', m' < m ∧ W (i + 1) m' H') ∧ ∀ x H', (Itl K l).yld i H x H' → gName k x (wipe σ [k]) H' fun σ2 H2 => wipe σ2 [k] = wipe σ [k] ∧ tYes σ2 H2 fun b H3 =>
        if b = true then te σ2 H3 fun y H4 => ∃ acc, H4 D = some (.lst acc) ∧ acc.length < sizeLine ∧ Nx (upd H4 D (.lst (acc ++ [y]))) else Nx H3) := by
  refine lc_list (K := K) (a := l) (xs := prV ts) (fun i H' => Same H1 H' ∧ H' D = some (.lst ((((ts.map (·.2)).map f).take i).map V.int))) ⟨same_new hD _, by rw [upd_same]; rfl⟩ (fun i H' _ ⟨s, _⟩ => SqL.of (s _ _ hl)) ?_ ?_
  · rintro i x H' hx ⟨s1, h1⟩
    obtain ⟨t, ht, rfl⟩ := prV_get hx
    have htm := List.mem_of_getElem? ht
    refine ⟨hw _, he t H' _ htm (s1 _ _ (hP t htm)) ⟨_, h1, ?_, sput s1 hD _, ?_⟩⟩
    · rw [List.length_map, List.length_take, List.length_map, List.length_map]
      exact sl_lt (by omega)
    · have hg : ((ts.map (·.2)).map f)[i]? = some (f t.2) := by rw [List.getElem?_map, List.getElem?_map, ht]; rfl
      rw [upd_same, take_snoc hg, List.map_append]
      rfl
  · rintro H' ⟨s1, h1⟩
    rw [prV_length, List.take_of_length_le (by rw [List.length_map, List.length_map]; exact Nat.le_refl _)] at h1
    exact hd H' s1 h1
theorem corner_len (s : Plate.Screen) (x y : Int) : (cornerSteps s x y).length = 4 := rfl
theorem rd_how_far {c : Nat} (h : La K C H o s) (hw : s.way < 3) (hc : c < s.n) (g : ∀ H', Same H H' → Q (.int (s.far c : Nat)) H') :
    Rd_how_far K C (Dn Q) [some (.ref o), some (.int (s.way : Int)), some (.int ((c % s.p : Nat) : Int)), some (.int ((c / s.p : Nat) : Int)), none, none, none] H := by
  have h0 := h
  obtain ⟨T, L, dx, fs, e, F⟩ := h
  have hn := L.n1
  have hN : (0 : Int) < s.n := by omega
  have hfar := far_spec L hc
  have fin : ∀ d : Nat, IsFar s ((c % s.p : Nat) : Int) ((c / s.p : Nat) : Int) d → d = s.far c := fun d hd => hd.uniq hfar
  refine ⟨_, rfl, rfl, _, rfl, ?_⟩
  by_cases c2 : s.way = 2
  · refine dt (by rw [c2]; rfl) ⟨_, rfl, o, dx, fs, rfl, e, F.k_across, _, rfl, _, rfl, o, s, _, _, rfl, h0, _, rfl, o, C, dx, fs, _, rfl, e, T.cl, T.n_n, F.n, _, _, rfl, rfl, hN, ?_⟩
    refine ⟨_, rfl, _, rfl, o, C, dx, fs, _, rfl, e, T.cl, T.n_n, F.n, _, rfl, _, _, rfl, rfl, _, _, rfl, ?_⟩
    obtain ⟨d, hd, hf⟩ := far_rest L (x := ((c % s.p : Nat) : Int)) (y := ((c / s.p : Nat) : Int)) (by omega) (by omega)
    have e2 := fin d hf
    show Q (V.int (if (s.n : Int) - alongB s ((c % s.p : Nat) : Int) ((c / s.p : Nat) : Int) % s.n < alongB s ((c % s.p : Nat) : Int) ((c / s.p : Nat) : Int) % s.n then (s.n : Int) - alongB s ((c % s.p : Nat) : Int) ((c / s.p : Nat) : Int) % s.n else alongB s ((c % s.p : Nat) : Int) ((c / s.p : Nat) : Int) % s.n)) H
    rw [hd, e2]
    exact g H (Same.refl _)
  · refine df (fun q => c2 (by injection q with q; omega)) ⟨_, rfl, _, rfl, _, rfl, o, s, _, _, rfl, h0, fun l ts H1 s1 hl hP hm => ?_⟩
    have htl : ts.length = 4 := by
      have := congrArg List.length hm
      rw [List.length_map, corner_len] at this
      exact this
    have hsm : ∀ t ∈ ts, 0 ≤ t.2.1 ∧ t.2.1 ≤ 128 ∧ 0 ≤ t.2.2 ∧ t.2.2 ≤ 128 := fun t ht => corner_small L (by rw [← hm]; exact List.mem_map_of_mem ht)
    refine ⟨_, rfl, rfl, _, rfl, ?_⟩
    by_cases c0 : s.way = 0
    · refine dt (by rw [c0]; rfl) ⟨_, rfl, l, rfl, ⟨_, SqL.of hl⟩, fun D hD => lc_prs (K := K) (fun t => t.1 * t.1 + t.2 * t.2) hl hP hD (by omega) (fun _ => rfl) (fun t H' Qe ht htp hq => ?_) (fun H2 s2 h2 => ?_)⟩
      · obtain ⟨b1, b2, b3, b4⟩ := hsm t ht
        exact ⟨_, rfl, t.1, _, _, _, rfl, rfl, SqT.of htp, at_of (j := 0) rfl rfl, _, rfl, t.1, _, _, _, rfl, rfl, SqT.of htp, at_of (j := 0) rfl rfl, _, _, rfl, rfl, .inl ⟨by omega, by omega⟩,
          _, rfl, t.1, _, _, _, rfl, rfl, SqT.of htp, at_of (j := 1) rfl rfl, _, rfl, t.1, _, _, _, rfl, rfl, SqT.of htp, at_of (j := 1) rfl rfl, _, _, rfl, rfl, .inl ⟨by omega, by omega⟩, _, _, rfl, rfl, hq⟩
      · rw [hm] at h2
        refine ⟨D, _, rfl, SqL.of h2, by rw [List.length_map, corner_len]; decide, fun m hm1 hm2 => ?_⟩
        obtain ⟨d, hd, hf⟩ := far_corner0 L c0 hm1 hm2
        rw [hd, fin d hf]
        exact g H2 (s1.trans s2)
    · have c1 : s.way = 1 := by omega
      refine df (fun q => c0 (by injection q with q; omega)) ⟨_, rfl, l, rfl, ⟨_, SqL.of hl⟩, fun D hD => lc_prs (K := K) (fun t => t.1 + t.2) hl hP hD (by omega) (fun _ => rfl) (fun t H' Qe ht htp hq => ?_) (fun H2 s2 h2 => ?_)⟩
      · exact ⟨_, rfl, t.1, _, _, _, rfl, rfl, SqT.of htp, at_of (j := 0) rfl rfl, _, rfl, t.1, _, _, _, rfl, rfl, SqT.of htp, at_of (j := 1) rfl rfl, _, _, rfl, rfl, hq⟩
      · rw [hm] at h2
        refine ⟨D, _, rfl, SqL.of h2, by rw [List.length_map, corner_len]; decide, fun m hm1 hm2 => ?_⟩
        obtain ⟨d, hd, hf⟩ := far_corner1 L c1 hm1 hm2
        rw [hd, fin d hf]
        exact g H2 (s1.trans s2)

theorem Lp.but {l : Addr} {H H' : Hp} {xs : List V} (h : Lp K C H o s) (hl : H l = some (.lst xs)) (b : But l H H') : Lp K C H' o s := by
  obtain ⟨T, L, dx, fs, e, F⟩ := h
  exact ⟨T, L, dx, fs, b _ _ e (ne_of e hl (by intro q; cases q)), F⟩
theorem ixN_nat {m c : Nat} (h : c < m) : ixN m (c : Int) = some c := by
  unfold ixN
  simp [h]
theorem ranks_loop0 {l : Addr} {H1 : Hp} {D : Ends} (h : Lp K C H1 o s) (hw : s.way < 3) (gl : H1 l = some (.lst []))
    (g : ∀ ts H' v3 v4, But l H1 H' → H' l = some (.lst (prV ts)) → PrAt H' ts → ts.map (·.2) = (List.range s.n).map (farPair s) → D.nx [some (.ref o), some (.int (s.way : Int)), some (.ref l), v3, v4, none, none, none] H') :
    ∃ W : Nat → Nat → L2.St → Hp → Prop, (∃ m, W 0 m [some (.ref o), some (.int (s.way : Int)), some (.ref l), none, none, none, none, none] H1) ∧ ∀ i m σ H, W i m σ H →
      ((Itr 0 ((s.n : Int).toNat)).stop i H ∧ D.nx σ H) ∨ ((Itr 0 ((s.n : Int).toNat)).go i H ∧ ∃ N : L2.St → Hp → Prop, (∀ σ' H', N σ' H' → ∃ m', m' < m ∧ W (i + 1) m' σ' H') ∧ ∀ x H', (Itr 0 ((s.n : Int).toNat)).yld i H x H' → gName 3 x σ H' fun σ2 H2 => Bd_class_ranks_0 K C { D with nx := N, ct := N, bk := D.nx } σ2 H2) := by
  have hn2 := h.2.1.n2
  refine for_range (lo := 0) (n := (s.n : Int).toNat) (fun k σ H' => ∃ (ts : List Pr) (v3 v4 : Option V), σ = [some (.ref o), some (.int (s.way : Int)), some (.ref l), v3, v4, none, none, none] ∧ But l H1 H' ∧ H' l = some (.lst (prV ts)) ∧ PrAt H' ts ∧
      ts.map (·.2) = (List.range k).map (farPair s)) ⟨[], none, none, rfl, fun b u z _ => z, gl, fun t ht => absurd ht (by simp), rfl⟩ ?_ ?_
  · rintro k σ H' hk ⟨ts, v3, v4, rfl, b1, hl', hP', em⟩
    have hk : k < s.n := by omega
    have hp := h.but gl b1
    have htl : ts.length = k := by
      have := congrArg List.length em
      simpa using this
    obtain ⟨T, L, dx, fs, e, F⟩ := hp
    refine ⟨_, rfl, o, dx, fs, rfl, e, F.k_class_place, _, rfl, o, s, k, by rw [Int.zero_add], ⟨T, L, dx, fs, e, F⟩, fun p H2 s2 htp => ?_⟩
    have hl2 := s2 _ _ hl'
    refine ⟨_, rfl, .inl ⟨rfl, _, SqL.of hl2⟩, _, rfl, _, rfl, _, rfl, p, _, _, _, rfl, rfl, SqT.of htp, at_of (j := 0) rfl rfl, _, rfl, p, _, _, _, rfl, rfl, SqT.of htp, at_of (j := 1) rfl rfl, o, s, k, rfl, ⟨T, L, dx, fs, s2 _ _ e, F.toFs⟩, hw, hk, fun H3 s3 => ⟨_, rfl, z2, fun q hq => ?_⟩⟩
    have hl3 := s3 _ _ hl2
    have nql : l ≠ q := ne_of_none hl3 hq
    refine ⟨l, _, _, rfl, rfl, (by rw [upd_ne nql]; exact hl3), (by rw [prV_length]; exact sl_lt (by omega)), ?_⟩
    have key : ∀ b : Int, b = (k : Int) → ∀ v3' v4', ∃ (ts' : List Pr) (v3 v4 : Option V), [some (.ref o), some (.int (s.way : Int)), some (.ref l), v3', v4', none, none, none] = [some (.ref o), some (.int (s.way : Int)), some (.ref l), v3, v4, none, none, none] ∧
        But l H1 (upd (upd H3 q (.tup [.int (s.far k : Nat), .int b])) l (.lst (prV ts ++ [.ref q]))) ∧ (upd (upd H3 q (.tup [.int (s.far k : Nat), .int b])) l (.lst (prV ts ++ [.ref q]))) l = some (.lst (prV ts')) ∧
        PrAt (upd (upd H3 q (.tup [.int (s.far k : Nat), .int b])) l (.lst (prV ts ++ [.ref q]))) ts' ∧ ts'.map (·.2) = (List.range (k + 1)).map (farPair s) := by
      rintro _ rfl v3' v4'
      obtain ⟨b7, l7, P7⟩ := pr_append (a := (s.far k : Nat)) (b := (k : Nat)) hl3 ((hP'.same s2).same s3) hq
      refine ⟨_, _, _, rfl, ?_, l7, P7, ?_⟩
      · exact b1.trans ((show But l H' H3 from fun b u z _ => s3 _ _ (s2 _ _ z)).trans b7)
      · rw [List.map_append, em, List.range_succ, List.map_append]
        rfl
    exact key _ (Int.zero_add _) _ _
  · rintro σ H' ⟨ts, v3, v4, rfl, b1, hl', hP', em⟩
    rw [Int.toNat_natCast] at em
    exact g ts H' v3 v4 b1 hl' hP' em
theorem ranks_loop1 {q r : Addr} {ts' : List Pr} {H5 : Hp} {D : Ends} {v2 v3 v4 : Option V} (hq : H5 q = some (.lst (prV ts'))) (hr : H5 r = some (.lst (natV (List.replicate s.n 0)))) (hqr : q ≠ r) (hP : PrAt H5 ts') (hm : ∀ t ∈ ts', ∃ c, c < s.n ∧ t.2.2 = (c : Nat)) (hnd : (ts'.map fun t => t.2.2).Nodup)
    (g : ∀ rk H' v6 v7, But r H5 H' → H' r = some (.lst (natV rk)) → rk.length = s.n → (∀ (i : Nat) (t : Pr), ts'[i]? = some t → rk[t.2.2.toNat]? = some i) → D.nx [some (.ref o), some (.int (s.way : Int)), v2, v3, v4, some (.ref r), v6, v7] H') :
    ∃ W : Nat → Nat → L2.St → Hp → Prop, (∃ m, W 0 m [some (.ref o), some (.int (s.way : Int)), v2, v3, v4, some (.ref r), none, none] H5) ∧ ∀ i m σ H, W i m σ H →
      ((Ite K q).stop i H ∧ D.nx σ H) ∨ ((Ite K q).go i H ∧ ∃ N : L2.St → Hp → Prop, (∀ σ' H', N σ' H' → ∃ m', m' < m ∧ W (i + 1) m' σ' H') ∧ ∀ x H', (Ite K q).yld i H x H' → gTup K 2 (gCons (gName 6) (gCons (gName 7) gNil)) x σ H' fun σ2 H2 => Bd_class_ranks_1 K C { D with nx := N, ct := N, bk := D.nx } σ2 H2) := by
  refine for_enum (K := K) (a := q) (xs := prV ts') (fun j σ H' => ∃ (rk : List Nat) (v6 v7 : Option V), σ = [some (.ref o), some (.int (s.way : Int)), v2, v3, v4, some (.ref r), v6, v7] ∧ But r H5 H' ∧ H' r = some (.lst (natV rk)) ∧ rk.length = s.n ∧
      ∀ (i : Nat) (t : Pr), i < j → ts'[i]? = some t → rk[t.2.2.toNat]? = some i) ⟨_, none, none, rfl, fun b u z _ => z, hr, by simp, fun i t hi => by omega⟩ (fun j σ H' _ ⟨_, _, _, _, b, _⟩ => SqL.of (b.get hq hqr)) ?_ ?_
  · rintro j v σ H' Tn hv ⟨rk, v6, v7, rfl, b5, hr', hlen, hrk⟩ hT
    obtain ⟨t, ht, rfl⟩ := prV_get hv
    have htm := List.mem_of_getElem? ht
    obtain ⟨c, hc, ec⟩ := hm t htm
    have htp : H' t.1 = some (.tup [.int t.2.1, .int t.2.2]) := b5.get (hP t htm) (ne_of (hP t htm) hr (by intro z; cases z))
    have sT := same_new hT (.tup [.int (j : Nat), .ref t.1])
    have nTr : r ≠ Tn := ne_of_none hr' hT
    refine ⟨Tn, _, rfl, SqT.of upd_same, rfl, _, _, rfl, _, _, rfl, rfl, ?_⟩
    refine ⟨_, rfl, _, rfl, _, rfl, t.1, _, _, _, rfl, rfl, SqT.of (sT _ _ htp), at_of (j := 1) rfl rfl, r, _, _, c, rfl, rfl, sT _ _ hr', (by rw [natV_length, hlen, ec]; exact ixN_nat hc), ?_⟩
    refine ⟨rk.set c j, _, _, rfl, b5.trans ((but_new hT _).trans (but_put _)), ?_, by rw [List.length_set]; exact hlen, fun i t' hi ht' => ?_⟩
    · rw [upd_same]
      unfold natV
      rw [List.map_set]
    · by_cases e : i = j
      · subst e
        rw [ht] at ht'
        obtain rfl := Option.some.inj ht'
        rw [ec, Int.toNat_natCast, List.getElem?_set_self (by rw [hlen]; exact hc)]
      · have h1 := hrk i t' (by omega) ht'
        have hne : ¬ c = t'.2.2.toNat := by
          intro q
          obtain ⟨c', hc', ec'⟩ := hm t' (List.mem_of_getElem? ht')
          have hw := List.pairwise_iff_getElem.mp hnd
          obtain ⟨hi1, hi2⟩ := List.getElem?_eq_some_iff.mp ht'
          obtain ⟨hj1, hj2⟩ := List.getElem?_eq_some_iff.mp ht
          have := hw i j (by rw [List.length_map]; exact hi1) (by rw [List.length_map]; exact hj1) (by omega)
          rw [List.getElem_map, List.getElem_map, hi2, hj2] at this
          apply this
          rw [ec', ec]
          rw [ec', Int.toNat_natCast] at q
          rw [q]
        rw [List.getElem?_set_ne hne]
        exact h1
  · rintro σ H' ⟨rk, v6, v7, rfl, b5, hr', hlen, hrk⟩
    refine g rk H' v6 v7 b5 hr' hlen fun i t ht => hrk i t ?_ ht
    rw [prV_length]
    exact (List.getElem?_eq_some_iff.mp ht).1
theorem rep_zero (n : Nat) : (List.replicate n [V.int 0]).flatten = natV (List.replicate n 0) := by
  induction n with
  | zero => rfl
  | succ n ih =>
    rw [List.replicate_succ, List.flatten_cons, ih, List.replicate_succ]
    rfl
theorem rd_class_ranks (h : Lp K C H o s) (hw : s.way < 3) (g : Gives H (natV s.table.toList) Q) : Rd_class_ranks K C (Dn Q) [some (.ref o), some (.int (s.way : Int)), none, none, none, none, none, none] H := by
  have hn2 := h.2.1.n2
  refine ⟨z0, fun l hl => ?_⟩
  have kl := same_new hl (.lst [])
  have h1 := h.same kl
  obtain ⟨T, L, dx, fs, e, F⟩ := h1
  refine ⟨_, rfl, o, C, dx, fs, _, rfl, e, T.cl, T.n_n, F.n, (s.n : Int), rfl, by omega, by omega, ranks_loop0 ⟨T, L, dx, fs, e, F⟩ hw upd_same fun ts H2 v3 v4 b2 hl2 hP2 em => ?_⟩
  have e2 : H2 o = some (.ins C dx fs) := b2.get e (ne_of e upd_same (by intro q; cases q))
  refine ⟨z1, fun p hp => ?_⟩
  have kp := same_new hp (.lst [V.int 0])
  refine ⟨_, rfl, o, C, dx, fs, _, rfl, kp _ _ e2, T.cl, T.n_n, F.n, p, (s.n : Int), _, rfl, rfl, upd_same, by omega, by omega, (by show 1 * (s.n : Int).toNat ≤ sizeLine; exact sl_le (by omega)), fun r hr => ?_⟩
  have hrep : (List.replicate (s.n : Int).toNat [V.int 0]).flatten = natV (List.replicate s.n 0) := by rw [Int.toNat_natCast, rep_zero]
  have kr := same_new hr (.lst (List.replicate (s.n : Int).toNat [V.int 0]).flatten)
  have hl3 := kr _ _ (kp _ _ hl2)
  have hP3 : PrAt _ ts := (hP2.same kp).same kr
  refine ⟨_, rfl, l, ts, rfl, SqL.of hl3, hP3, fun ts' q hperm hpw hq => ?_⟩
  have kq := same_new hq (.lst (prV ts'))
  have nrq : q ≠ r := fun z => by rw [z, upd_same] at hq; cases hq
  have hmem : ∀ t ∈ ts', ∃ c, c < s.n ∧ t.2 = farPair s c := by
    intro t ht
    have h1 : t.2 ∈ ts.map (·.2) := List.mem_map_of_mem (hperm.mem_iff.mp ht)
    rw [em] at h1
    obtain ⟨c, hc, e⟩ := List.mem_map.mp h1
    exact ⟨c, List.mem_range.mp hc, e.symm⟩
  have hnd : (ts'.map fun t => t.2.2).Nodup := by
    have hp2 : (ts'.map fun t => t.2.2).Perm (ts.map fun t => t.2.2) := hperm.map _
    rw [hp2.nodup_iff]
    have e1 : ts.map (fun t => t.2.2) = (ts.map (·.2)).map (·.2) := by rw [List.map_map]; rfl
    rw [e1, em, List.map_map]
    apply List.Pairwise.map _ _ List.nodup_range
    intro a b hab z
    apply hab
    have z : ((a : Nat) : Int) = (b : Nat) := z
    omega
  refine ⟨q, prV ts', rfl, SqL.of upd_same, ranks_loop1 (C := C) (ts' := ts') upd_same (kq _ _ (by rw [upd_same, hrep])) nrq (fun t ht => kq _ _ (hP3 t (hperm.mem_iff.mp ht))) (fun t ht => ?_) hnd fun rk H6 v6 v7 b6 hr6 hlen hrk => ?_⟩
  · obtain ⟨c, hc, e⟩ := hmem t ht
    exact ⟨c, hc, by rw [e]; rfl⟩
  · refine ⟨_, rfl, ?_⟩
    have ert : rk = s.table.toList := by
      refine ranks_code (l := ts'.map (·.2)) ?_ ?_ hlen ?_
      · rw [← em]
        exact hperm.map _
      · rw [List.pairwise_map]
        exact hpw
      · intro j x hx
        rw [List.getElem?_map] at hx
        cases ht : ts'[j]? with
        | none =>
          rw [ht] at hx
          cases hx
        | some t =>
          rw [ht] at hx
          obtain rfl := Option.some.inj hx
          exact hrk j t ht
    rw [ert] at hr6
    refine g r H6 (fun b u z => ?_) hr6
    have z1 := b2.get (kl _ _ z) (ne_of_none z hl)
    exact b6.get (kq _ _ (kr _ _ (kp _ _ z1))) (ne_of_none (kp _ _ z1) hr)

theorem rd_m_initS {dx : Addr} (T : CT K C) (L : Lat s) (hw : s.way < 3) (h : H o = some (.ins C dx [])) (g : ∀ H', Lr K C H' o s → But o H H' → Q .non H') :
    Rd_m_initS K C (Dn Q) [some (.ref o), some (.int (s.a : Int)), some (.int (s.b : Int)), some (.int (s.way : Int))] H := by
  refine ⟨_, rfl, _, rfl, _, rfl, o, dx, s, rfl, T, L, h, fun H1 hF b1 => ?_⟩
  obtain ⟨fs, e, F, hsh⟩ := hF
  refine ⟨_, rfl, _, rfl, o, s, rfl, ⟨T, L, dx, fs, e, F⟩, hw, fun r H2 s2 hr => ⟨_, rfl, o, C, dx, fs, rfl, s2 _ _ e, T.cl, T.n_ranks, (by have := F.len; omega), ?_⟩⟩
  have nro : r ≠ o := ne_of hr (s2 _ _ e) (by intro q; cases q)
  have no : ∀ m : Str, ¬ m = "ranks" → (putF "ranks" (V.ref r) fs).lookup m = fs.lookup m := fun m h => put_ne h
  refine g _ ⟨T, L, dx, _, r, upd_same, ?_, by rw [upd_ne nro]; exact hr⟩ (b1.trans ((show But o H1 H2 from fun b u z _ => s2 _ _ z).trans (but_put _)))
  refine { a := ?_, b := ?_, n := ?_, g := ?_, k_along := ?_, k_across := ?_, k_has_place := ?_, k_find_slant := ?_, k_class_at := ?_, k_class_place := ?_, k_rank_at := ?_, len := ?_, p := ?_, slant := ?_, ranks := put_eq }
  · exact (no _ (by decide +kernel)).trans F.a
  · exact (no _ (by decide +kernel)).trans F.b
  · exact (no _ (by decide +kernel)).trans F.n
  · exact (no _ (by decide +kernel)).trans F.g
  · exact (no _ (by decide +kernel)).trans F.k_along
  · exact (no _ (by decide +kernel)).trans F.k_across
  · exact (no _ (by decide +kernel)).trans F.k_has_place
  · exact (no _ (by decide +kernel)).trans F.k_find_slant
  · exact (no _ (by decide +kernel)).trans F.k_class_at
  · exact (no _ (by decide +kernel)).trans F.k_class_place
  · exact (no _ (by decide +kernel)).trans F.k_rank_at
  · have := length_putF "ranks" (V.ref r) fs
    omega
  · exact (no _ (by decide +kernel)).trans F.p
  · exact (no _ (by decide +kernel)).trans F.slant
theorem table_get {s : Plate.Screen} {c : Nat} (hc : c < s.n) : s.table.toList[c]? = some (s.table.getD c 0) := by
  have h : c < s.table.toList.length := by rw [table_length]; exact hc
  rw [List.getElem?_eq_getElem h]
  congr 1
  have h2 : c < s.table.size := by simpa using h
  simp [Array.getD, h2]
theorem rd_m_rank_at {x y : Int} (h : Lr K C H o s) (g : Q (.int (s.rankAt x y : Nat)) H) : Rd_m_rank_at K C (Dn Q) [some (.ref o), some (.int x), some (.int y)] H := by
  obtain ⟨T, L, dx, fs, r, e, F, hr⟩ := h
  have hc := (classOf_spec L x y).1
  exact ⟨_, rfl, o, C, dx, fs, _, rfl, e, T.cl, T.n_ranks, F.ranks, _, rfl, o, dx, fs, rfl, e, F.k_class_at, _, rfl, _, rfl, o, s, x, y, rfl, ⟨T, L, dx, fs, e, F.toFp⟩, r, _, _, _, rfl, rfl, SqL.of hr, natV_at (i := s.classOf x y) rfl (table_get hc), g⟩
end Pl


set_option Elab.async false
set_option linter.all false
set_option maxRecDepth 100000
set_option maxHeartbeats 2000000
namespace Pl
open PySem PySem.Spec PyProof.Rows L2 Pm
open Plate (Bytes Sheet width)
variable {K : PySem.W.Frag} {C : Addr} {H : Hp} {Q : VK}

theorem rd_is_screen {a b way : Nat} (g : Q (.bl (Plate.Screen.fine ⟨a, b, way⟩)) H) : Rd_is_screen K (Dn Q) [some (.int (a : Int)), some (.int (b : Int)), some (.int (way : Int))] H := by
  have g : Q (.bl (Plate.latticed a b && decide (way < 3))) H := g
  refine ⟨_, rfl, _, rfl, a, b, rfl, _, rfl, ?_⟩
  cases hL : Plate.latticed a b with
  | false =>
    rw [hL, Bool.false_and] at g
    exact iteF g
  | true =>
    rw [hL, Bool.true_and] at g
    refine iteT ⟨_, rfl, _, _, rfl, rfl, ?_⟩
    have e : decide ((way : Int) ≤ 2) = decide (way < 3) := decide_eq_decide.mpr (by omega)
    show Q (.bl (decide ((way : Int) ≤ 2))) H
    rw [e]
    exact g
theorem fine_small {a b way : Nat} (h : Plate.Screen.fine ⟨a, b, way⟩ = true) : a ≤ 8 ∧ b ≤ 8 ∧ way < 3 := by
  have L := Lat.of_fine h
  unfold Plate.Screen.fine at h
  rw [Bool.and_eq_true] at h
  exact ⟨L.a2, L.b2, of_decide_eq_true h.2⟩
end Pl


set_option Elab.async false
set_option linter.all false
set_option maxRecDepth 100000
set_option maxHeartbeats 2000000
namespace Pl
open PySem PySem.Spec PyProof.Rows L2 Pm
open Plate (Bytes Sheet width)
variable {K : PySem.W.Frag} {C : Addr} {H : Hp} {Q : VK} {o : Addr} {s : Plate.Screen}

theorem refs_get {rs : List Addr} {i : Nat} {x : V} (h : (rs.map V.ref)[i]? = some x) : ∃ r, rs[i]? = some r ∧ x = .ref r := by
  rw [List.getElem?_map] at h
  cases e : rs[i]? with
  | none =>
    rw [e] at h
    cases h
  | some t =>
    rw [e] at h
    exact ⟨t, rfl, (Option.some.inj h).symm⟩
theorem max_eq (a b : Nat) : (if ((b : Int) > (a : Int)) then (b : Int) else (a : Int)) = ((max a b : Nat) : Int) := by
  split <;> omega
theorem min_eq (a b : Nat) : (if ((b : Int) < (a : Int)) then (b : Int) else (a : Int)) = ((min a b : Nat) : Int) := by
  split <;> omega
/-- the state between two dots -/
abbrev tState (o l : Addr) (s : Plate.Screen) (c : Nat) (m : Nat × Nat) (v6 v7 v8 v9 v10 : Option V) : L2.St :=
  [some (.ref o), some (.int ((c % s.p : Nat) : Int)), some (.int ((c / s.p : Nat) : Int)), some (.ref l), some (.int (m.1 : Nat)), some (.int (m.2 : Nat)), v6, v7, v8, v9, v10]
theorem tone_row {l r : Addr} {z : Sheet} {c j : Nat} {H1 : Hp} {D : Ends} {v8 v9 v10 : Option V} (hL : Lr K C H1 o s) (hj : j < z.h) (hr : H1 r = some (.lst (natV ((List.range z.w).map fun x => b2n (z.at_ x j)))))
    (g : ∀ H' v8 v9 v10, Same H1 H' → D.nx (tState o l s c (toneTo s z c (j * z.w + z.w)) (some (.int (j : Nat))) (some (.ref r)) v8 v9 v10) H') :
    Bd_least_tone_0 K C D (tState o l s c (toneTo s z c (j * z.w)) (some (.int (j : Nat))) (some (.ref r)) v8 v9 v10) H1 := by
  refine ⟨_, rfl, r, _, rfl, SqL.of hr, for_enum (K := K) (a := r) (xs := natV ((List.range z.w).map fun x => b2n (z.at_ x j))) (fun i σ H' => ∃ (v8 v9 v10 : Option V), σ = tState o l s c (toneTo s z c (j * z.w + i)) (some (.int (j : Nat))) (some (.ref r)) v8 v9 v10 ∧ Same H1 H')
    ⟨_, _, _, rfl, Same.refl _⟩ (fun i σ H' _ ⟨_, _, _, _, s1⟩ => SqL.of (s1 _ _ hr)) ?_ ?_⟩
  · rintro i x σ H' Tn hx ⟨v8, v9, v10, rfl, s1⟩ hT
    obtain ⟨d, hd, rfl⟩ := natV_getE hx
    have hi : i < z.w := by
      have := (List.getElem?_eq_some_iff.mp hd).1
      simpa using this
    have ed : d = b2n (z.at_ i j) := by
      have : ((List.range z.w).map fun x => b2n (z.at_ x j))[i]? = some (b2n (z.at_ i j)) := by simp [hi]
      rw [this] at hd
      exact (Option.some.inj hd).symm
    have sT := same_new hT (.tup [.int (i : Nat), V.int (d : Int)])
    have h2 := (hL.same s1).same sT
    have h2' := h2
    obtain ⟨T, L, dx, fs, rr, e, F, hrr⟩ := h2
    refine ⟨Tn, _, rfl, SqT.of upd_same, rfl, _, _, rfl, _, _, rfl, rfl, ?_⟩
    refine ⟨_, rfl, o, dx, fs, rfl, e, F.k_rank_at, _, rfl, _, rfl, _, _, rfl, rfl, _, rfl, _, rfl, _, _, rfl, rfl, o, s, _, _, rfl, h2', ?_⟩
    have es : toneTo s z c (j * z.w + (i + 1)) = toneStep s z c (toneTo s z c (j * z.w + i)) (j * z.w + i) := toneTo_succ s z c (j * z.w + i)
    rw [toneStep_at hi hj] at es
    generalize toneTo s z c (j * z.w + i) = m at es ⊢
    refine ⟨_, rfl, _, rfl, ?_⟩
    cases hb : z.at_ i j with
    | true =>
      rw [hb] at ed es
      rw [if_pos rfl] at es
      have ed1 : d = 1 := ed
      subst ed1
      refine iteT ⟨_, rfl, _, rfl, _, _, rfl, rfl, _, _, rfl, ?_⟩
      have key : ∀ y : Int, y = ((max m.1 (s.rankAt (((c % s.p : Nat) : Int) + (i : Int)) (((c / s.p : Nat) : Int) + (j : Int)) + 1) : Nat) : Int) → ∀ v8' v9' v10', ∃ (v8 v9 v10 : Option V), ([some (.ref o), some (.int ((c % s.p : Nat) : Int)), some (.int ((c / s.p : Nat) : Int)), some (.ref l), some (.int y), some (.int (m.2 : Nat)), some (.int (j : Nat)), some (.ref r), v8', v9', v10'] : L2.St) = tState o l s c (toneTo s z c (j * z.w + (i + 1))) (some (.int (j : Nat))) (some (.ref r)) v8 v9 v10 ∧ Same H1 (upd H' Tn (.tup [.int (i : Nat), V.int ((1 : Nat) : Int)])) := by
        rintro _ rfl v8' v9' v10'
        refine ⟨v8', v9', v10', ?_, s1.trans sT⟩
        rw [es]
      exact key _ (max_eq m.1 (s.rankAt (((c % s.p : Nat) : Int) + (i : Int)) (((c / s.p : Nat) : Int) + (j : Int)) + 1)) _ _ _
    | false =>
      rw [hb] at ed es
      rw [if_neg Bool.false_ne_true] at es
      have ed1 : d = 0 := ed
      subst ed1
      refine iteF ⟨_, rfl, _, rfl, _, _, rfl, ?_⟩
      have key : ∀ y : Int, y = ((min m.2 (s.rankAt (((c % s.p : Nat) : Int) + (i : Int)) (((c / s.p : Nat) : Int) + (j : Int))) : Nat) : Int) → ∀ v8' v9' v10', ∃ (v8 v9 v10 : Option V), ([some (.ref o), some (.int ((c % s.p : Nat) : Int)), some (.int ((c / s.p : Nat) : Int)), some (.ref l), some (.int (m.1 : Nat)), some (.int y), some (.int (j : Nat)), some (.ref r), v8', v9', v10'] : L2.St) = tState o l s c (toneTo s z c (j * z.w + (i + 1))) (some (.int (j : Nat))) (some (.ref r)) v8 v9 v10 ∧ Same H1 (upd H' Tn (.tup [.int (i : Nat), V.int ((0 : Nat) : Int)])) := by
        rintro _ rfl v8' v9' v10'
        refine ⟨v8', v9', v10', ?_, s1.trans sT⟩
        rw [es]
      exact key _ (min_eq m.2 (s.rankAt (((c % s.p : Nat) : Int) + (i : Int)) (((c / s.p : Nat) : Int) + (j : Int)))) _ _ _
  · rintro σ H' ⟨v8, v9, v10, rfl, s1⟩
    have e : (natV ((List.range z.w).map fun x => b2n (z.at_ x j))).length = z.w := by rw [natV_length]; simp
    rw [e]
    exact g H' v8 v9 v10 s1
theorem rd_least_tone {c : Nat} {l : Addr} {z : Sheet} (hL : Lr K C H o s) (hG : GridAt H l z) (hf : z.fine = true) (g : ∀ H', Same H H' → Q (.int (toneInt (s.toneBy s.table z c))) H') :
    Rd_least_tone K C (Dn Q) [some (.ref o), some (.int ((c % s.p : Nat) : Int)), some (.int ((c / s.p : Nat) : Int)), some (.ref l), none, none, none, none, none, none, none] H := by
  have hL0 := hL
  obtain ⟨T, L, dx, fs, rr, e, F, hrr⟩ := hL
  obtain ⟨rs, h1, h2, h3⟩ := hG
  refine ⟨_, rfl, o, C, dx, fs, _, rfl, e, T.cl, T.n_n, F.n, ?_⟩
  refine ⟨_, rfl, l, _, rfl, SqL.of h1, for_enum (K := K) (a := l) (xs := rs.map V.ref) (fun j σ H' => ∃ (v6 v7 v8 v9 v10 : Option V), σ = tState o l s c (toneTo s z c (j * z.w)) v6 v7 v8 v9 v10 ∧ Same H H')
    ⟨none, none, none, none, none, by rw [Nat.zero_mul]; rfl, Same.refl _⟩ (fun i σ H' _ ⟨_, _, _, _, _, _, s1⟩ => SqL.of (s1 _ _ h1)) ?_ ?_⟩
  · rintro j x σ H' Tn hx ⟨v6, v7, v8, v9, v10, rfl, s1⟩ hT
    obtain ⟨r, hr, rfl⟩ := refs_get hx
    have hj : j < z.h := by
      have := (List.getElem?_eq_some_iff.mp hr).1
      omega
    have sT := same_new hT (.tup [.int (j : Nat), V.ref r])
    refine ⟨Tn, _, rfl, SqT.of upd_same, rfl, _, _, rfl, _, _, rfl, rfl, ?_⟩
    refine tone_row (z := z) ((hL0.same s1).same sT) hj (sT _ _ (s1 _ _ (h3 j r hr))) fun H2 v8 v9 v10 s2 => ⟨some (.int (j : Nat)), some (.ref r), v8, v9, v10, ?_, s1.trans (sT.trans s2)⟩
    have e : (j + 1) * z.w = j * z.w + z.w := by rw [Nat.add_mul, Nat.one_mul]
    rw [e]
  · rintro σ H' ⟨v6, v7, v8, v9, v10, rfl, s1⟩
    rw [List.length_map, h2, Nat.mul_comm]
    rw [toneBy_eq] at g
    generalize toneTo s z c (z.w * z.h) = m at g ⊢
    refine ⟨_, rfl, _, rfl, _, _, rfl, rfl, _, rfl, ?_⟩
    by_cases q : m.1 ≤ m.2
    · rw [if_pos q] at g
      exact dt (by omega) ⟨_, rfl, g H' s1⟩
    · rw [if_neg q] at g
      exact df (by omega) ⟨_, rfl, g H' s1⟩

theorem rd_find_tone {l : Addr} {z : Sheet} (hL : Lr K C H o s) (hG : GridAt H l z) (hf : z.fine = true) (g : Gives H (natV (toneList s (s.toneOf z))) Q) :
    Rd_find_tone K C (Dn Q) [some (.ref o), some (.ref l), none, none, none, none] H := by
  have hL0 := hL
  obtain ⟨T, L, dx, fs, rr, e, F, hrr⟩ := hL
  have hn2 := L.n2
  refine ⟨z0, fun f0 hf0 => ?_⟩
  have k0 := same_new hf0 (.lst [])
  refine ⟨_, rfl, o, C, dx, fs, _, rfl, k0 _ _ e, T.cl, T.n_n, F.n, (s.n : Int), rfl, by omega, by omega, ?_⟩
  refine for_range (lo := 0) (n := (s.n : Int).toNat) (fun k σ H' => ∃ (f : Addr) (v3 v4 v5 : Option V), σ = [some (.ref o), some (.ref l), some (.ref f), v3, v4, v5] ∧ Same H H' ∧ H' f = some (.lst (natV (toneList s (findTo s z k)))))
    ⟨f0, none, none, none, rfl, k0, upd_same⟩ ?_ ?_
  · rintro c σ H' hc ⟨f, v3, v4, v5, rfl, s1, hfl⟩
    have e1 := s1 _ _ e
    have hL1 := hL0.same s1
    have es := findTo_succ s z c
    unfold findStep at es
    refine ⟨_, rfl, o, dx, fs, rfl, e1, F.k_class_place, _, rfl, o, s, c, by rw [Int.zero_add], hL1.lp, fun p H2 s2 hp => ?_⟩
    refine ⟨_, rfl, _, rfl, p, _, _, _, rfl, rfl, SqT.of hp, at_of (j := 0) rfl rfl, _, rfl, p, _, _, _, rfl, rfl, SqT.of hp, at_of (j := 1) rfl rfl, _, rfl, o, s, c, l, z, rfl, hL1.same s2, hG.same (s1.trans s2), hf, fun H3 s3 => ?_⟩
    have hp3 := s3 _ _ hp
    have hf3 := s3 _ _ (s2 _ _ hfl)
    have s13 : Same H H3 := s1.trans (s2.trans s3)
    -- the new tone is kept
    have take : ∀ (t : Nat) (v3' v5' : Option V), findTo s z (c + 1) = some (t, c) → v5' = some (.int (t : Nat)) → tAsg (tLst (tCons (tVar 5) (tCons (tOp (rIxT K) (tVar 4) (tC (.int 0))) (tCons (tOp (rIxT K) (tVar 4) (tC (.int 1))) tNil)))) (gName 2)
        { nx := fun σ H' => ∃ (f : Addr) (v3 v4 v5 : Option V), σ = [some (.ref o), some (.ref l), some (.ref f), v3, v4, v5] ∧ Same H H' ∧ H' f = some (.lst (natV (toneList s (findTo s z (c + 1))))), rt := fun _ _ => False, bk := fun _ _ => False, ct := fun _ _ => False } [some (.ref o), some (.ref l), some (.ref f), v3', some (.ref p), v5'] H3 := by
      rintro t v3' _ ef rfl
      refine ⟨_, rfl, _, rfl, p, _, _, _, rfl, rfl, SqT.of hp3, at_of (j := 0) rfl rfl, _, rfl, p, _, _, _, rfl, rfl, SqT.of hp3, at_of (j := 1) rfl rfl, (by show 3 ≤ sizeLine; decide), fun q hq => ?_⟩
      refine ⟨q, _, _, _, rfl, s13.trans (same_new hq _), ?_⟩
      rw [upd_same, ef]
      rfl
    have stay : ∀ (v3' v5' : Option V), findTo s z (c + 1) = findTo s z c → ∃ (f' : Addr) (v3 v4 v5 : Option V), ([some (.ref o), some (.ref l), some (.ref f), v3', some (.ref p), v5'] : L2.St) = [some (.ref o), some (.ref l), some (.ref f'), v3, v4, v5] ∧ Same H H3 ∧ H3 f' = some (.lst (natV (toneList s (findTo s z (c + 1))))) := by
      intro v3' v5' ef
      exact ⟨f, _, _, _, rfl, s13, by rw [ef]; exact hf3⟩
    refine ⟨_, rfl, _, _, rfl, rfl, _, rfl, ?_⟩
    cases ht : s.toneBy s.table z c with
    | none =>
      rw [ht] at es
      exact df (by show ¬ (0 : Int) ≤ -1; omega) (iteF (stay _ _ es))
    | some t =>
      rw [ht] at es
      refine dt (by show (0 : Int) ≤ (t : Nat); omega) ⟨_, rfl, _, .inl ⟨_, SqL.of hf3, rfl⟩, ?_⟩
      cases hq : findTo s z c with
      | none =>
        rw [hq] at es
        exact iteT (iteT (take t _ _ es rfl))
      | some q =>
        rw [hq] at es hf3
        refine iteF ⟨_, rfl, _, rfl, f, _, _, _, rfl, rfl, SqL.of hf3, natV_at (i := 0) rfl rfl, _, _, rfl, rfl, _, rfl, ?_⟩
        by_cases ctq : t < q.1
        · have es : findTo s z (c + 1) = if t < q.1 then some (t, c) else some q := es
          rw [if_pos ctq] at es
          exact dt (by show (t : Int) < (q.1 : Int); omega) (take t _ _ es rfl)
        · have es : findTo s z (c + 1) = if t < q.1 then some (t, c) else some q := es
          rw [if_neg ctq, ← hq] at es
          exact df (by show ¬ (t : Int) < (q.1 : Int); omega) (stay _ _ es)
  · rintro σ H' ⟨f, v3, v4, v5, rfl, s1, hfl⟩
    rw [Int.toNat_natCast, ← toneOf_eq] at hfl
    exact ⟨_, rfl, g f H' s1 hfl⟩
end Pl


set_option Elab.async false
set_option linter.all false
set_option maxRecDepth 100000
set_option maxHeartbeats 2000000
namespace Pl
open PySem PySem.Spec PyProof.Rows L2 Pm
open Plate (Bytes Sheet width)
variable {K : PySem.W.Frag} {C : Addr} {H : Hp} {Q : VK} {o : Addr} {s : Plate.Screen}

theorem fits_fine {b : Bytes} {z : Sheet} (F : Fits b z) : z.fine = true := by
  unfold Sheet.fine
  rw [Bool.and_eq_true, Bool.and_eq_true, sized_iff, sized_iff, beq_iff_eq]
  exact ⟨⟨F.w1, F.w2⟩, ⟨F.h1, F.h2⟩, F.size⟩
theorem ints_ne_refs {w : Nat} {f : Nat → Nat} {rs : List Addr} (hw : 1 ≤ w) : HO.lst (natV ((List.range w).map f)) ≠ HO.lst (rs.map V.ref) := by
  intro e
  injection e with e
  cases rs with
  | nil =>
    have := congrArg List.length e
    simp [natV] at this
    omega
  | cons a rs =>
    have := congrArg List.head? e
    obtain ⟨w', rfl⟩ : ∃ w', w = w' + 1 := ⟨w - 1, by omega⟩
    rw [List.range_succ_eq_map] at this
    simp [natV] at this
theorem dots_row_at {z : Sheet} {y r : Nat} (h : (rowsOf z)[y]? = some r) : y < z.h ∧ dotsOf z.w r = (List.range z.w).map fun x => b2n (z.at_ x y) := by
  have hy : y < z.h := by
    have := (List.getElem?_eq_some_iff.mp h).1
    rw [rowsOf_length] at this
    exact this
  rw [rowsOf_get hy] at h
  obtain rfl := Option.some.inj h
  refine ⟨hy, ?_⟩
  unfold dotsOf
  apply List.map_congr_left
  intro x hx
  rw [List.mem_range] at hx
  rw [rowN_bit, decide_eq_true hx, Bool.true_and]
/-- the rows of dots, row by row -/
theorem lc_grid {l : Addr} {z : Sheet} {σ : L2.St} {H1 : Hp} {D : Addr} {k : Nat} {te : TE} {Qd : Hp → Prop} (hl : H1 l = some (.lst (natV (rowsOf z)))) (hD : H1 D = none) (hw1 : 1 ≤ z.w) (hh : z.h ≤ 24)
    (hw : ∀ v, wipe ((wipe σ [k]).set k v) [k] = wipe σ [k])
    (he : ∀ (y r : Nat) (H' : Hp) (Qe : VK), (rowsOf z)[y]? = some r → Same H1 H' → Gives H' (natV (dotsOf z.w r)) Qe → te ((wipe σ [k]).set k (some (.int (r : Int)))) H' Qe)
    (hd : ∀ H', Same H1 H' → GridAt H' D z → Qd H') :
    ∃ W : Nat → Nat → Hp → Prop, (∃ m, W 0 m (upd H1 D (.lst []))) ∧ ∀ i m H, W i m H →
      ((Itl K l).stop i H ∧ Qd H) ∨ ((Itl K l).go i H ∧ ∃ Nx : Hp → Prop, (∀ H', Nx H' → ∃ m', m' < m ∧ W (i + 1) m' H') ∧ ∀ x H', (Itl K l).yld i H x H' → gName k x (wipe σ [k]) H' fun σ2 H2 => wipe σ2 [k] = wipe σ [k] ∧ tYes σ2 H2 fun b H3 =>
        if b = true then te σ2 H3 fun y H4 => ∃ acc, H4 D = some (.lst acc) ∧ acc.length < sizeLine ∧ Nx (upd H4 D (.lst (acc ++ [y]))) else Nx H3) := by
  refine lc_list (K := K) (a := l) (xs := natV (rowsOf z)) (fun i H' => Same H1 H' ∧ ∃ rs : List Addr, H' D = some (.lst (rs.map V.ref)) ∧ rs.length = i ∧ ∀ (y : Nat) (r : Addr), rs[y]? = some r → H' r = some (.lst (natV ((List.range z.w).map fun x => b2n (z.at_ x y)))))
    ⟨same_new hD _, [], upd_same, rfl, fun y r h => by simp at h⟩ (fun i H' _ ⟨s1, _⟩ => SqL.of (s1 _ _ hl)) ?_ ?_
  · rintro i x H' hx ⟨s1, rs, h1, h2, h3⟩
    obtain ⟨r, hr, rfl⟩ := natV_getE hx
    obtain ⟨hi, ed⟩ := dots_row_at hr
    refine ⟨hw _, he i r H' _ hr s1 fun p H2 s2 hp => ⟨_, s2 _ _ h1, ?_, sput (s1.trans s2) hD _, rs ++ [p], ?_, ?_, ?_⟩⟩
    · rw [List.length_map, h2]
      exact sl_lt (by omega)
    · rw [upd_same, List.map_append]
      rfl
    · rw [List.length_append, h2]
      rfl
    · intro y q hq
      rw [ed] at hp
      have fact : H2 q = some (.lst (natV ((List.range z.w).map fun x => b2n (z.at_ x y)))) := by
        by_cases c : y < rs.length
        · rw [List.getElem?_append_left c] at hq
          exact s2 _ _ (h3 y q hq)
        · rw [List.getElem?_append_right (by omega)] at hq
          have e0 : y - rs.length = 0 := by
            have := (List.getElem?_eq_some_iff.mp hq).1
            simp at this
            omega
          rw [e0] at hq
          have ey : y = i := by omega
          obtain rfl : p = q := Option.some.inj hq
          rw [ey]
          exact hp
      have nq : q ≠ D := ne_of fact (s2 _ _ h1) (ints_ne_refs hw1)
      rw [upd_ne nq]
      exact fact
  · rintro H' ⟨s1, rs, h1, h2, h3⟩
    rw [natV_length, rowsOf_length] at h2
    exact hd H' s1 ⟨rs, h1, h2, h3⟩
def sp_tone (K : PySem.W.Frag) : Sp := fun vs H Q _ => ∃ (a b way : Nat) (p : Addr) (z : Bytes), vs = [.int (a : Int), .int (b : Int), .int (way : Int), .ref p] ∧ SqL K H p (byV z) ∧ Gives H (answerV (Sheets.answer (.tone a b way z))) Q
theorem rd_tone {a b way : Nat} {p : Addr} {b0 : Bytes} (T : CT K C) (hS : SqL K H p (byV b0)) (g : Gives H (answerV (Sheets.answer (.tone a b way b0))) Q) :
    Rd_tone K C (Dn Q) [some (.int (a : Int)), some (.int (b : Int)), some (.int (way : Int)), some (.ref p), none, none, none] H := by
  refine rd_guard1 (a := p) (b := b0) (f := fun q => Sheets.may (Plate.Screen.fine ⟨a, b, way⟩) (fun (_ : Unit) => match Plate.Screen.toneOf ⟨a, b, way⟩ q with
    | none => Plate.says (-4)
    | some x => Plate.tells (x.1 : Nat) [x.2 % Plate.Screen.p ⟨a, b, way⟩, x.2 / Plate.Screen.p ⟨a, b, way⟩])) rfl (fun _ => rfl) hS g fun z r H2 hok F s2 g2 => ?_
  have hl := F.len
  unfold Sheets.may at g2
  refine ⟨_, rfl, _, rfl, _, rfl, a, b, way, rfl, _, rfl, ?_⟩
  cases hL : Plate.Screen.fine ⟨a, b, way⟩ with
  | false =>
    rw [hL, if_neg Bool.false_ne_true, answerV_says] at g2
    exact iteT ⟨_, rfl, _, rfl, g2⟩
  | true =>
    rw [hL, if_pos rfl] at g2
    have L : Lat ⟨a, b, way⟩ := Lat.of_fine hL
    obtain ⟨_, _, hw3⟩ := fine_small hL
    refine iteF ⟨_, rfl, _, rfl, _, rfl, fun o dx ho hdx ne => ⟨o, dx, ⟨a, b, way⟩, rfl, T, L, hw3, upd_same, fun H3 hF bt => ⟨rfl, ?_⟩⟩⟩
    have s3 : Same H2 H3 := Same.made ho hdx bt
    refine ⟨_, rfl, p, b0, z, rfl, (s2.trans s3).seq hS, F, fun l H4 s4 h4 => ⟨l, rfl, ⟨_, SqL.of h4⟩, fun D hD => lc_grid (K := K) (z := z) h4 hD F.w1 F.h2 (fun _ => rfl) (fun y q H5 Qe hq s5 hg => ?_) (fun H5 s5 h5 => ?_)⟩⟩
    · refine ⟨_, rfl, p, _, _, _, rfl, rfl, ((s2.trans s3).trans (s4.trans s5)).seq hS, byV_at (i := 0) rfl (by omega), _, rfl, z.w, q, by rw [F.b0], F.w2, hg⟩
    · refine ⟨o, ⟨a, b, way⟩, D, z, rfl, hF.same (s4.trans s5), h5, fits_fine F, fun f H6 s6 h6 => ?_⟩
      have s26 : Same H2 H6 := s3.trans (s4.trans (s5.trans s6))
      refine ⟨_, rfl, _, .inl ⟨_, SqL.of h6, rfl⟩, ?_⟩
      cases ht : Plate.Screen.toneOf ⟨a, b, way⟩ z with
      | none =>
        rw [ht] at g2
        have g2 : Gives H2 (answerV (Plate.says (-4))) Q := g2
        rw [answerV_says] at g2
        exact iteT ⟨_, rfl, _, rfl, g2.same s26⟩
      | some x =>
        rw [ht] at g2 h6
        have g2 : Gives H2 (answerV (Plate.tells (x.1 : Nat) [x.2 % Plate.Screen.p ⟨a, b, way⟩, x.2 / Plate.Screen.p ⟨a, b, way⟩])) Q := g2
        rw [answerV_tells] at g2
        refine iteF ⟨_, rfl, f, _, _, _, rfl, rfl, SqL.of h6, natV_at (i := 0) rfl rfl, z0, fun p1 hp1 => ?_⟩
        have t1 := same_new hp1 (.lst [])
        refine ⟨_, rfl, _, rfl, f, _, rfl, SqL.of (t1 _ _ h6), fun c hc => ?_⟩
        have t2 := same_new hc (.lst (natV [x.2 % Plate.Screen.p ⟨a, b, way⟩, x.2 / Plate.Screen.p ⟨a, b, way⟩]))
        exact ⟨_, p1, c, [], _, rfl, t2 _ _ upd_same, upd_same, by decide, (by show 2 ≤ 10000; decide), g2.same (s26.trans (t1.trans t2))⟩
end Pl


set_option Elab.async false
set_option linter.all false
set_option maxRecDepth 100000
set_option maxHeartbeats 2000000
namespace Pl
open PySem PySem.Spec PyProof.Rows L2 Pm
open PySem.W (Codec)
open Plate (Bytes Sheet width)

theorem pe_gi {X : Cx} {x : Str} {n : Int} {pos : Pos} (hg : Gl X x) (hm : ∃ t, X.mg x = some (.int n t)) (hd : (x == ("__debug__" : Str)) = false := by decide) : PE X (.Name x pos) (tC (.int n)) := by
  obtain ⟨t, h⟩ := hm
  exact pe_glob hg h ⟨t, rfl⟩ hd
/-- a def of the text with its promise -/
def Has (P : Program) (w : World) (K : PySem.W.Frag) (mg : Str → Option Value) (base : Heap) (k : Nat) (x : Str) (ps : List Str) (sp : Sp) : Prop :=
  ∃ (f : Addr) (fd : FuncData), FnOk P w K mg base CX0 k f fd ps sp ∧ Binds K fd ps [] ∧ PySem.W.keepIn K (.ref f) = true ∧ mg x = some (.ref f)
theorem pe_own {X : Cx} {k : Nat} {x : Str} {ps : List Str} {sp : Sp} {p pos : Pos} {e : Expr} {es : List Expr} {t : TA} (O : Has X.prog X.w X.K X.mg X.base k x ps sp) (hr : Room k X.A) (hg : Gl X x) (ha : PA X (e :: es) t)
    (hdb : (x == ("__debug__" : Str)) = false := by decide) (he : starEach (e :: es) X.env = (false, eval e X.env) :: starEach es X.env := by rfl) (hpl : (backTo pos (starEach es X.env)).any (·.1) = false := by rfl) :
    PE X (.Call (.Name x p) (e :: es) [] pos) (tOwn sp t) := by
  obtain ⟨f, fd, F, b, kp, m⟩ := O
  have h := pe_call (p := p) (pos := pos) (dvs := []) (ds := []) (E := E0) F hr hg m kp b .nil pass0 ha hdb he hpl
  intro pins s σ H Q I hq
  refine h pins s σ H Q I ?_
  have e : tCall sp [] E0 t = tOwn sp t := by
    unfold tCall tOwn
    funext σ H Q
    simp only [List.append_nil]
  rw [e]
  exact hq

/-- a method of the class at C with its promise -/
def HasM (P : Program) (w : World) (K : PySem.W.Frag) (mg : Str → Option Value) (base : Heap) (k : Nat) (C : Addr) (m : Str) (ps : List Str) (sp : Sp) : Prop :=
  ∃ (f : Addr) (fd : FuncData), FnOk P w K mg base CX0 k f fd ps sp ∧ Binds K fd ps [] ∧ Meth K C m f
/-- how the class at C is made -/
def HasI (P : Program) (w : World) (K : PySem.W.Frag) (mg : Str → Option Value) (base : Heap) (k : Nat) (C : Addr) (ps : List Str) (sp : Sp) : Prop :=
  ∃ (f : Addr) (fd : FuncData), FnOk P w K mg base CX0 k f fd ps sp ∧ Binds K fd ps [] ∧ Mk K C f
/-- a def of a class, read of the class itself -/
def HasL (P : Program) (w : World) (K : PySem.W.Frag) (mg : Str → Option Value) (base : Heap) (k : Nat) (x m : Str) (ps : List Str) (sp : Sp) : Prop :=
  ∃ (f CL : Addr) (fd : FuncData) (mc : Value), FnOk P w K mg base CX0 k f fd ps sp ∧ Binds K fd ps [] ∧ PySem.W.keepIn K (.ref f) = true ∧ mg x = some (.ref CL) ∧ PySem.W.readsIn K CL mc = true ∧
    PySem.W.specialIn K (.ref CL) "__getattribute__" = some (some (.builtin "type.__getattribute__")) ∧ PySem.W.findCls K (.ref CL) mc m = some (.val (.ref f))
theorem pe_mth {X : Cx} {k : Nat} {C : Addr} {m : Str} {ps : List Str} {sp : Sp} {apos pos : Pos} {o e : Expr} {es : List Expr} {ta : TE} {t : TA} {pl : Sem Bool} (he : PE X o ta) (c : Cls X.K C) (O : HasM X.prog X.w X.K X.mg X.base k C m ps sp) (hr : Room k X.A) (ha : PA X (e :: es) t)
    (hst : starEach (e :: es) X.env = (false, eval e X.env) :: starEach es X.env := by rfl) (hpl : (backTo pos (starEach es X.env)).any (·.1) = false := by rfl)
    (ht : eval (.Call (.Attribute o m apos) (e :: es) [] pos) X.env = (do
      let ov ← eval o X.env
      standAt apos.atName
      let (f, first) ← holding [ov] (getMethod ov m pl)
      callWith pos f first (backTo pos (starEach (e :: es) X.env)) (backToKw pos (keywordEach [] X.env))) := by rfl) : PE X (.Call (.Attribute o m apos) (e :: es) [] pos) (tMth C m sp ta t) := by
  obtain ⟨f, fd, F, b, mm⟩ := O
  have h := pe_meth (dvs := []) (ds := []) (E := E0) he c mm F hr b .nil pass0 ha hst hpl ht
  intro pins s σ H Q I hq
  refine h pins s σ H Q I ?_
  have e : tMeth C m sp [] E0 ta t = tMth C m sp ta t := by
    unfold tMeth tMth
    funext σ H Q
    simp only [List.append_nil]
  rw [e]
  exact hq
theorem pe_mth0 {X : Cx} {k : Nat} {C : Addr} {m : Str} {ps : List Str} {sp : Sp} {apos pos : Pos} {o : Expr} {ta : TE} {pl : Sem Bool} (he : PE X o ta) (c : Cls X.K C) (O : HasM X.prog X.w X.K X.mg X.base k C m ps sp) (hr : Room k X.A)
    (ht : eval (.Call (.Attribute o m apos) [] [] pos) X.env = (do
      let ov ← eval o X.env
      standAt apos.atName
      let (f, first) ← holding [ov] (getMethod ov m pl)
      callWith pos f first (backTo pos (starEach [] X.env)) (backToKw pos (keywordEach [] X.env))) := by rfl) : PE X (.Call (.Attribute o m apos) [] [] pos) (tMth C m sp ta tNil) := by
  obtain ⟨f, fd, F, b, mm⟩ := O
  have h := pe_meth0 (dvs := []) (ds := []) (E := E0) he c mm F hr b .nil pass0 ht
  intro pins s σ H Q I hq
  refine h pins s σ H Q I ?_
  have e : tMeth C m sp [] E0 ta tNil = tMth C m sp ta tNil := by
    unfold tMeth tMth
    funext σ H Q
    simp only [List.append_nil]
  rw [e]
  exact hq
theorem pe_mk {X : Cx} {k : Nat} {C : Addr} {x : Str} {ps : List Str} {sp : Sp} {p pos : Pos} {e : Expr} {es : List Expr} {t : TA} (O : HasI X.prog X.w X.K X.mg X.base k C ps sp) (hr : Room (k + 1) X.A) (hg : Gl X x) (hm : X.mg x = some (.ref C)) (ha : PA X (e :: es) t)
    (hdb : (x == ("__debug__" : Str)) = false := by decide) (he : starEach (e :: es) X.env = (false, eval e X.env) :: starEach es X.env := by rfl) (hpl : (backTo pos (starEach es X.env)).any (·.1) = false := by rfl) :
    PE X (.Call (.Name x p) (e :: es) [] pos) (tMk C sp t) := by
  obtain ⟨f, fd, F, b, mk⟩ := O
  have h := pe_make (p := p) (pos := pos) (dvs := []) (ds := []) (E := E0) mk F hr hg hm b .nil pass0 ha hdb he hpl
  intro pins s σ H Q I hq
  refine h pins s σ H Q I ?_
  have e : tMake C sp [] E0 t = tMk C sp t := by
    unfold tMake tMk
    funext σ H Q
    simp only [List.append_nil]
  rw [e]
  exact hq
/-- D.m(..) of a class's own def -/
theorem pe_clsm {X : Cx} {k : Nat} {x m : Str} {ps : List Str} {sp : Sp} {apos p pos : Pos} {e : Expr} {es : List Expr} {t : TA} {pl : Sem Bool} (O : HasL X.prog X.w X.K X.mg X.base k x m ps sp) (hr : Room k X.A) (hg : Gl X x) (ha : PA X (e :: es) t)
    (hdb : (x == ("__debug__" : Str)) = false := by decide) (he : starEach (e :: es) X.env = (false, eval e X.env) :: starEach es X.env := by rfl) (hpl : (backTo pos (starEach es X.env)).any (·.1) = false := by rfl)
    (ht : eval (.Call (.Attribute (.Name x p) m apos) (e :: es) [] pos) X.env = (do
      let ov ← eval (.Name x p) X.env
      standAt apos.atName
      let (f, first) ← holding [ov] (getMethod ov m pl)
      callWith pos f first (backTo pos (starEach (e :: es) X.env)) (backToKw pos (keywordEach [] X.env))) := by rfl) : PE X (.Call (.Attribute (.Name x p) m apos) (e :: es) [] pos) (tOwn sp t) := by
  obtain ⟨f, CL, fd, mc, F, b, kp, mg, rd, sg, fc⟩ := O
  intro pins s σ H Q I h
  refine PySem.W.methodCall_KW (pl := pl) (ld_glob I hg mg ?_ hdb) ht
  refine PySem.W.method_cls I.kIn sg (PySem.W.cls_value I.kIn rd fc rfl ?_)
  have I1 := I.tok (s.toks + 1)
  refine PySem.W.callWith_K (first := []) (h₀ := X.base) I.ok.mod.kin kp (thn (ha pos pins _ σ H _ I1 h) fun us s2 ⟨vs, H2, I2, r, q2⟩ => ⟨I2.kIn, ?_⟩) he hpl
  exact run_fn (dvs := []) (ds := []) (E := E0) F hr b .nil pass0 I2 r (by rw [List.append_nil]; exact q2)

theorem map_bytes {ns : List Int} (h : ∀ x ∈ ns, 0 ≤ x ∧ x ≤ 255) : ns.map V.int = byV (SheetsNeutral.text ns) := by
  unfold byV SheetsNeutral.text SheetsNeutral.nats
  rw [List.map_map, List.map_map]
  apply List.map_congr_left
  intro x hx
  obtain ⟨h1, h2⟩ := h x hx
  show V.int x = V.int (((UInt8.ofNat x.toNat).toNat : Nat) : Int)
  congr 1
  have e : (UInt8.ofNat x.toNat).toNat = x.toNat := by
    simp
    omega
  rw [e]
  omega
theorem bytes_in {ns : List Int} (h : (Codec.inLen 0 5000 ns && ns.all (Codec.inInt 0 255)) = true) : ∀ x ∈ ns, 0 ≤ x ∧ x ≤ 255 := by
  rw [Bool.and_eq_true] at h
  intro x hx
  exact Codec.inInt_iff.mp (List.all_eq_true.mp h.2 x hx)
theorem int_in {z : Int} (h : Codec.inInt 0 18446744073709551615 z = true) : z = ((z.toNat : Nat) : Int) := by
  have := Codec.inInt_iff.mp h
  omega
theorem gives_end {K : PySem.W.Frag} {H : Hp} {a : Sheets.Answer} : Gives H (answerV a) (fun v H' => Dw K H' v (.list ((SheetsNeutral.numbersOf a).map PySem.W.WData.int))) :=
  fun p H' _ hp => .lst (SqL.of hp) (dw_ints _)
end Pl


set_option Elab.async false
set_option linter.all false
set_option maxRecDepth 100000
set_option maxHeartbeats 4000000
/-! ### the row: its defs by their places, each with its promise -/
namespace Pl
open PySem PySem.Spec PyProof.Rows L2 Pm
open PySem.W (Codec)
open Plate (Bytes Sheet width)
def top (i : Nat) : Stmt := PySem.Challenge.pw_platehalldesk_s18_tone.main.body.getD i (.Pass ⟨0, 0, 0, 0⟩)
abbrev s_is_lattice : Stmt := top 4
abbrev s_is_screen : Stmt := top 5
abbrev s_common_divisor : Stmt := top 6
abbrev s_corner_steps : Stmt := top 8
abbrev s_how_far : Stmt := top 9
abbrev s_class_ranks : Stmt := top 10
abbrev s_least_tone : Stmt := top 12
abbrev s_find_tone : Stmt := top 13
abbrev s_answer : Stmt := top 18
abbrev s_refusal : Stmt := top 19
abbrev s_row_size : Stmt := top 20
abbrev s_full_row : Stmt := top 21
abbrev s_sheet_fault : Stmt := top 22
abbrev s_rows_fault : Stmt := top 23
abbrev s_refuse_sheets : Stmt := top 24
abbrev s_sheet_rows : Stmt := top 25
abbrev s_row_dots : Stmt := top 26
abbrev s_tone : Stmt := top 27
abbrev s_m_init : Stmt := inClass (top 7) 0
abbrev s_m_along : Stmt := inClass (top 7) 1
abbrev s_m_across : Stmt := inClass (top 7) 2
abbrev s_m_has_place : Stmt := inClass (top 7) 3
abbrev s_m_find_slant : Stmt := inClass (top 7) 4
abbrev s_m_class_at : Stmt := inClass (top 7) 5
abbrev s_m_class_place : Stmt := inClass (top 7) 6
abbrev s_m_initS : Stmt := inClass (top 11) 0
abbrev s_m_rank_at : Stmt := inClass (top 11) 1
structure Txt (K : PySem.W.Frag) (mg : Str → Option Value) (C : Addr) : Prop where
  ct : CT K C
  mgC : mg "Screen" = some (.ref C)
  c_MOST_CLASSES : ∃ t, mg "MOST_CLASSES" = some (.int 64 t)
  c_MOST_SLOPE : ∃ t, mg "MOST_SLOPE" = some (.int 8 t)
  c_MOST_WAY : ∃ t, mg "MOST_WAY" = some (.int 2 t)
  c_MOST_HIGH : ∃ t, mg "MOST_HIGH" = some (.int 24 t)
  c_MOST_WIDE : ∃ t, mg "MOST_WIDE" = some (.int 24 t)
  c_MOST_BYTES : ∃ t, mg "MOST_BYTES" = some (.int 4096 t)
  b_abs : mg "abs" = none
  b_min : mg "min" = none
  b_enumerate : mg "enumerate" = none
  b_sorted : mg "sorted" = none
  b_range : mg "range" = none
  b_max : mg "max" = none
  b_len : mg "len" = none
section
variable {P : Program} {w : World} {K : PySem.W.Frag} {mg : Str → Option Value} {base : Heap} {C : Addr}
theorem sc_answer : FnScope ["number", "told", "numbers"] ["number", "told", "numbers"] (defScope s_answer) := ⟨rfl, rfl, rfl, by decide +kernel, rfl, by decide +kernel, by decide +kernel⟩
theorem ok_answer {f : Addr} {fd : FuncData} (F : Fun K "answer" "answer" s_answer f fd) (T : Txt K mg C) : FnOk P w K mg base CX0 1 f fd ["number", "told", "numbers"] (sp_answer K) := by
  refine F.ok sc_answer (fun vs H Q E h => ?_) (fun cdv A outer s H vs Q E hr h => ?_)
  · obtain ⟨n, t, m, bs, ns, rfl, _⟩ := h
    rfl
  · obtain ⟨n, t, m, bs, ns, rfl, ht, hm, h1, h2, g⟩ := h
    have nd := sc_answer.nd
    exact ⟨Rd_answer K, (pss_one (ps_ret (pe_op op_cat (pe_op op_cat (pe_op op_cat (pe_lst (pa_cons (pv 0) (pa_cons (pe_callB call_len_seq (by rfl) T.b_len PySem.boot_len (pa_cons (pv 1) pa_nil)) pa_nil))) (pv 1)) (pe_lst (pa_cons (pe_callB call_len_seq (by rfl) T.b_len PySem.boot_len (pa_cons (pv 2) pa_nil)) pa_nil))) (pv 2)))), rd_answer ht hm h1 h2 g⟩
theorem sc_common_divisor : FnScope ["a", "b", "rest"] ["a", "b"] (defScope s_common_divisor) := ⟨rfl, rfl, rfl, by decide +kernel, rfl, by decide +kernel, by decide +kernel⟩
theorem ok_common_divisor {f : Addr} {fd : FuncData} (F : Fun K "common_divisor" "common_divisor" s_common_divisor f fd) (T : Txt K mg C) : FnOk P w K mg base CX0 1 f fd ["a", "b"] (sp_common_divisor K) := by
  refine F.ok sc_common_divisor (fun vs H Q E h => ?_) (fun cdv A outer s H vs Q E hr h => ?_)
  · obtain ⟨a, b, rfl, _⟩ := h
    rfl
  · obtain ⟨a, b, rfl, g⟩ := h
    have nd := sc_common_divisor.nd
    exact ⟨Rd_common_divisor K, (pss_cons (ps_while PassesOwn.never (pt_cmpR op_gt (pv 1) pe_int (nomark _)) (pss_cons (ps_set (i := 2) nd rfl (Or.inl rfl) (pe_op op_mod (pv 0) (pv 1)))
      (pss_cons (ps_set (i := 0) nd rfl (Or.inl rfl) (pv 1))
      (pss_one (ps_set (i := 1) nd rfl (Or.inl rfl) (pv 2))))))
      (pss_one (ps_ret (pv 0)))), rd_common_divisor g⟩
theorem sc_full_row : FnScope ["w"] ["w"] (defScope s_full_row) := ⟨rfl, rfl, rfl, by decide +kernel, rfl, by decide +kernel, by decide +kernel⟩
theorem ok_full_row {f : Addr} {fd : FuncData} (F : Fun K "full_row" "full_row" s_full_row f fd) (T : Txt K mg C) : FnOk P w K mg base CX0 1 f fd ["w"] (sp_full_row K) := by
  refine F.ok sc_full_row (fun vs H Q E h => ?_) (fun cdv A outer s H vs Q E hr h => ?_)
  · obtain ⟨w0, rfl, _⟩ := h
    rfl
  · obtain ⟨w0, rfl, h1, g⟩ := h
    have nd := sc_full_row.nd
    exact ⟨Rd_full_row K, (pss_one (ps_ret (pe_op op_sub (pe_op op_shl pe_int (pv 0)) pe_int))), rd_full_row h1 g⟩
theorem sc_is_lattice : FnScope ["a", "b"] ["a", "b"] (defScope s_is_lattice) := ⟨rfl, rfl, rfl, by decide +kernel, rfl, by decide +kernel, by decide +kernel⟩
theorem ok_is_lattice {f : Addr} {fd : FuncData} (F : Fun K "is_lattice" "is_lattice" s_is_lattice f fd) (T : Txt K mg C) : FnOk P w K mg base CX0 1 f fd ["a", "b"] (sp_is_lattice K) := by
  refine F.ok sc_is_lattice (fun vs H Q E h => ?_) (fun cdv A outer s H vs Q E hr h => ?_)
  · obtain ⟨a, b, rfl, _⟩ := h
    rfl
  · obtain ⟨a, b, rfl, g⟩ := h
    have nd := sc_is_lattice.nd
    exact ⟨Rd_is_lattice K, (pss_one (ps_ret (pe_and (pe_chain op_le op_le pe_int (pv 0) (pe_gi (by rfl) T.c_MOST_SLOPE)) (pe_and (pe_cmpR op_le (pv 1) (pe_gi (by rfl) T.c_MOST_SLOPE) (nomark _)) (pe_one (pe_cmpR op_le (pe_op op_add (pe_op op_mul (pv 0) (pv 0)) (pe_op op_mul (pv 1) (pv 1))) (pe_gi (by rfl) T.c_MOST_CLASSES) (nomark _))))))), rd_is_lattice g⟩
theorem sc_m_across : FnScope ["self", "x", "y"] ["self", "x", "y"] (defScope s_m_across) := ⟨rfl, rfl, rfl, by decide +kernel, rfl, by decide +kernel, by decide +kernel⟩
theorem ok_m_across {f : Addr} {fd : FuncData} (F : Fun K "across" "Lattice.across" s_m_across f fd) (T : Txt K mg C) : FnOk P w K mg base CX0 1 f fd ["self", "x", "y"] (sp_m_across K C) := by
  refine F.ok sc_m_across (fun vs H Q E h => ?_) (fun cdv A outer s H vs Q E hr h => ?_)
  · obtain ⟨o, s0, x, y, rfl, _⟩ := h
    rfl
  · obtain ⟨o, s0, x, y, rfl, hL, g⟩ := h
    have nd := sc_m_across.nd
    exact ⟨Rd_m_across K C, (pss_one (ps_ret (pe_op op_sub (pe_op op_mul (pe_fld (pv 0) rfl) (pv 2)) (pe_op op_mul (pe_fld (pv 0) rfl) (pv 1))))), rd_m_across hL g⟩
theorem sc_m_along : FnScope ["self", "x", "y"] ["self", "x", "y"] (defScope s_m_along) := ⟨rfl, rfl, rfl, by decide +kernel, rfl, by decide +kernel, by decide +kernel⟩
theorem ok_m_along {f : Addr} {fd : FuncData} (F : Fun K "along" "Lattice.along" s_m_along f fd) (T : Txt K mg C) : FnOk P w K mg base CX0 1 f fd ["self", "x", "y"] (sp_m_along K C) := by
  refine F.ok sc_m_along (fun vs H Q E h => ?_) (fun cdv A outer s H vs Q E hr h => ?_)
  · obtain ⟨o, s0, x, y, rfl, _⟩ := h
    rfl
  · obtain ⟨o, s0, x, y, rfl, hL, g⟩ := h
    have nd := sc_m_along.nd
    exact ⟨Rd_m_along K C, (pss_one (ps_ret (pe_op op_add (pe_op op_mul (pe_fld (pv 0) rfl) (pv 1)) (pe_op op_mul (pe_fld (pv 0) rfl) (pv 2))))), rd_m_along hL g⟩
theorem sc_m_class_at : FnScope ["self", "x", "y", "steps"] ["self", "x", "y"] (defScope s_m_class_at) := ⟨rfl, rfl, rfl, by decide +kernel, rfl, by decide +kernel, by decide +kernel⟩
theorem ok_m_class_at {f : Addr} {fd : FuncData} (F : Fun K "class_at" "Lattice.class_at" s_m_class_at f fd) (T : Txt K mg C) : FnOk P w K mg base CX0 1 f fd ["self", "x", "y"] (sp_m_class_at K C) := by
  refine F.ok sc_m_class_at (fun vs H Q E h => ?_) (fun cdv A outer s H vs Q E hr h => ?_)
  · obtain ⟨o, s0, x, y, rfl, _⟩ := h
    rfl
  · obtain ⟨o, s0, x, y, rfl, hL, g⟩ := h
    have nd := sc_m_class_at.nd
    exact ⟨Rd_m_class_at K C, (pss_cons (ps_set (i := 3) nd rfl (Or.inl rfl) (pe_op op_fdiv (pv 2) (pe_fld (pv 0) rfl)))
      (pss_one (ps_ret (pe_op op_add (pe_op op_mul (pe_op op_mod (pv 2) (pe_fld (pv 0) rfl)) (pe_fld (pv 0) rfl)) (pe_op op_mod (pe_op op_sub (pv 1) (pe_op op_mul (pv 3) (pe_fld (pv 0) rfl))) (pe_fld (pv 0) rfl)))))), rd_m_class_at hL g⟩
theorem sc_m_class_place : FnScope ["self", "number"] ["self", "number"] (defScope s_m_class_place) := ⟨rfl, rfl, rfl, by decide +kernel, rfl, by decide +kernel, by decide +kernel⟩
theorem ok_m_class_place {f : Addr} {fd : FuncData} (F : Fun K "class_place" "Lattice.class_place" s_m_class_place f fd) (T : Txt K mg C) : FnOk P w K mg base CX0 1 f fd ["self", "number"] (sp_m_class_place K C) := by
  refine F.ok sc_m_class_place (fun vs H Q E h => ?_) (fun cdv A outer s H vs Q E hr h => ?_)
  · obtain ⟨o, s0, c, rfl, _⟩ := h
    rfl
  · obtain ⟨o, s0, c, rfl, hL, g⟩ := h
    have nd := sc_m_class_place.nd
    exact ⟨Rd_m_class_place K C, (pss_one (ps_ret (pe_tup (pa_cons (pe_op op_mod (pv 1) (pe_fld (pv 0) rfl)) (pa_cons (pe_op op_fdiv (pv 1) (pe_fld (pv 0) rfl)) pa_nil))))), rd_m_class_place hL g⟩
theorem sc_row_dots : FnScope ["w", "row", "x"] ["w", "row"] (defScope s_row_dots) := ⟨rfl, rfl, rfl, by decide +kernel, rfl, by decide +kernel, by decide +kernel⟩
theorem ok_row_dots {f : Addr} {fd : FuncData} (F : Fun K "row_dots" "row_dots" s_row_dots f fd) (T : Txt K mg C) : FnOk P w K mg base CX0 1 f fd ["w", "row"] (sp_row_dots K) := by
  refine F.ok sc_row_dots (fun vs H Q E h => ?_) (fun cdv A outer s H vs Q E hr h => ?_)
  · obtain ⟨w0, r, rfl, _⟩ := h
    rfl
  · obtain ⟨w0, r, rfl, hw, g⟩ := h
    have nd := sc_row_dots.nd
    exact ⟨Rd_row_dots K, (pss_one (ps_ret (pe_lc (own := [("x", 2)]) rfl nd (pi_range1 (by rfl) T.b_range (pa_cons (pv 0) pa_nil)) (blkOk_by (by show blkC (["w", "row", "x"] : List Str) (defScope s_row_dots) _ _ = true; decide +kernel)) (fun _ _ _ _ _ => (pg_name (i := 2) nd rfl (Or.inl rfl))) (fun _ _ _ _ _ => pts_nil) (fun _ _ _ _ _ => (pe_op op_and (pe_op op_shr (pv 1) (pv 2)) pe_int))))), rd_row_dots hw g⟩
theorem sc_row_size : FnScope ["w"] ["w"] (defScope s_row_size) := ⟨rfl, rfl, rfl, by decide +kernel, rfl, by decide +kernel, by decide +kernel⟩
theorem ok_row_size {f : Addr} {fd : FuncData} (F : Fun K "row_size" "row_size" s_row_size f fd) (T : Txt K mg C) : FnOk P w K mg base CX0 1 f fd ["w"] (sp_row_size K) := by
  refine F.ok sc_row_size (fun vs H Q E h => ?_) (fun cdv A outer s H vs Q E hr h => ?_)
  · obtain ⟨w0, rfl, _⟩ := h
    rfl
  · obtain ⟨w0, rfl, g⟩ := h
    have nd := sc_row_size.nd
    exact ⟨Rd_row_size K, (pss_one (ps_ret (pe_op op_fdiv (pe_op op_add (pv 0) pe_int) pe_int))), rd_row_size g⟩
theorem sc_corner_steps : FnScope ["lattice", "x", "y", "i", "j", "steps", "corner", "s", "t"] ["lattice", "x", "y"] (defScope s_corner_steps) := ⟨rfl, rfl, rfl, by decide +kernel, rfl, by decide +kernel, by decide +kernel⟩
theorem ok_corner_steps {f : Addr} {fd : FuncData} (F : Fun K "corner_steps" "corner_steps" s_corner_steps f fd) (T : Txt K mg C) (h_m_across : HasM P w K mg base 1 C "across" ["self", "x", "y"] (sp_m_across K C)) (h_m_along : HasM P w K mg base 1 C "along" ["self", "x", "y"] (sp_m_along K C)) : FnOk P w K mg base CX0 2 f fd ["lattice", "x", "y"] (sp_corner_steps K C) := by
  refine F.ok sc_corner_steps (fun vs H Q E h => ?_) (fun cdv A outer s H vs Q E hr h => ?_)
  · obtain ⟨o, s0, x, y, rfl, _⟩ := h
    rfl
  · obtain ⟨o, s0, x, y, rfl, hL, g⟩ := h
    have nd := sc_corner_steps.nd
    exact ⟨Rd_corner_steps K C, (pss_cons (ps_set (i := 3) nd rfl (Or.inl rfl) (pe_op op_fdiv (pe_mth (pv 0) T.ct.cl h_m_along (hr.mono (by decide)) (pa_cons (pv 1) (pa_cons (pv 2) pa_nil))) (pe_fld (pv 0) rfl)))
      (pss_cons (ps_set (i := 4) nd rfl (Or.inl rfl) (pe_op op_fdiv (pe_mth (pv 0) T.ct.cl h_m_across (hr.mono (by decide)) (pa_cons (pv 1) (pa_cons (pv 2) pa_nil))) (pe_fld (pv 0) rfl)))
      (pss_cons (ps_set (i := 5) nd rfl (Or.inl rfl) (pe_lst pa_nil))
      (pss_cons (ps_for PassesOwn.never rfl (pi_tup (pe_tup (pa_cons (pe_tup (pa_cons (pv 3) (pa_cons (pv 4) pa_nil))) (pa_cons (pe_tup (pa_cons (pe_op op_add (pv 3) pe_int) (pa_cons (pv 4) pa_nil))) (pa_cons (pe_tup (pa_cons (pv 3) (pa_cons (pe_op op_add (pv 4) pe_int) pa_nil))) (pa_cons (pe_tup (pa_cons (pe_op op_add (pv 3) pe_int) (pa_cons (pe_op op_add (pv 4) pe_int) pa_nil))) pa_nil)))))) (pg_name (i := 6) nd rfl (Or.inl rfl)) (pss_cons (ps_set (i := 7) nd rfl (Or.inl rfl) (pe_op op_sub (pe_op op_mul (pe_ix ix_tup (pv 6) pe_int (fun _ _ => rfl)) (pe_fld (pv 0) rfl)) (pe_op op_mul (pe_ix ix_tup (pv 6) pe_int (fun _ _ => rfl)) (pe_fld (pv 0) rfl))))
      (pss_cons (ps_set (i := 8) nd rfl (Or.inl rfl) (pe_op op_add (pe_op op_mul (pe_ix ix_tup (pv 6) pe_int (fun _ _ => rfl)) (pe_fld (pv 0) rfl)) (pe_op op_mul (pe_ix ix_tup (pv 6) pe_int (fun _ _ => rfl)) (pe_fld (pv 0) rfl))))
      (pss_one (ps_expr (pe_bm PySem.F.plainAttrs_list PySem.F.slot_list_append PySem.F.type_list_append mt_append (pv 5) (pa_cons (pe_tup (pa_cons (pe_callB call_abs (by rfl) T.b_abs boot_abs (pa_cons (pe_op op_sub (pv 1) (pv 7)) pa_nil)) (pa_cons (pe_callB call_abs (by rfl) T.b_abs boot_abs (pa_cons (pe_op op_sub (pv 2) (pv 8)) pa_nil)) pa_nil))) pa_nil)))))))
      (pss_one (ps_ret (pv 5))))))), rd_corner_steps hL g⟩
theorem sc_is_screen : FnScope ["a", "b", "way"] ["a", "b", "way"] (defScope s_is_screen) := ⟨rfl, rfl, rfl, by decide +kernel, rfl, by decide +kernel, by decide +kernel⟩
theorem ok_is_screen {f : Addr} {fd : FuncData} (F : Fun K "is_screen" "is_screen" s_is_screen f fd) (T : Txt K mg C) (h_is_lattice : Has P w K mg base 1 "is_lattice" ["a", "b"] (sp_is_lattice K)) : FnOk P w K mg base CX0 2 f fd ["a", "b", "way"] (sp_is_screen K) := by
  refine F.ok sc_is_screen (fun vs H Q E h => ?_) (fun cdv A outer s H vs Q E hr h => ?_)
  · obtain ⟨a, b, way, rfl, _⟩ := h
    rfl
  · obtain ⟨a, b, way, rfl, g⟩ := h
    have nd := sc_is_screen.nd
    exact ⟨Rd_is_screen K, (pss_one (ps_ret (pe_and (pe_own h_is_lattice (hr.mono (by decide)) (by rfl) (pa_cons (pv 0) (pa_cons (pv 1) pa_nil))) (pe_one (pe_cmpR op_le (pv 2) (pe_gi (by rfl) T.c_MOST_WAY) (nomark _)))))), rd_is_screen g⟩
theorem sc_m_has_place : FnScope ["self", "x", "y"] ["self", "x", "y"] (defScope s_m_has_place) := ⟨rfl, rfl, rfl, by decide +kernel, rfl, by decide +kernel, by decide +kernel⟩
theorem ok_m_has_place {f : Addr} {fd : FuncData} (F : Fun K "has_place" "Lattice.has_place" s_m_has_place f fd) (T : Txt K mg C) (h_m_across : HasM P w K mg base 1 C "across" ["self", "x", "y"] (sp_m_across K C)) (h_m_along : HasM P w K mg base 1 C "along" ["self", "x", "y"] (sp_m_along K C)) : FnOk P w K mg base CX0 2 f fd ["self", "x", "y"] (sp_m_has_place K C) := by
  refine F.ok sc_m_has_place (fun vs H Q E h => ?_) (fun cdv A outer s H vs Q E hr h => ?_)
  · obtain ⟨o, s0, x, y, rfl, _⟩ := h
    rfl
  · obtain ⟨o, s0, x, y, rfl, hL, g⟩ := h
    have nd := sc_m_has_place.nd
    exact ⟨Rd_m_has_place K C, (pss_one (ps_ret (pe_and (pe_cmpR op_eq (pe_op op_mod (pe_mth (pv 0) T.ct.cl h_m_along (hr.mono (by decide)) (pa_cons (pv 1) (pa_cons (pv 2) pa_nil))) (pe_fld (pv 0) rfl)) pe_int (nomark _)) (pe_one (pe_cmpR op_eq (pe_op op_mod (pe_mth (pv 0) T.ct.cl h_m_across (hr.mono (by decide)) (pa_cons (pv 1) (pa_cons (pv 2) pa_nil))) (pe_fld (pv 0) rfl)) pe_int (nomark _)))))), rd_m_has_place hL g⟩
theorem sc_m_rank_at : FnScope ["self", "x", "y"] ["self", "x", "y"] (defScope s_m_rank_at) := ⟨rfl, rfl, rfl, by decide +kernel, rfl, by decide +kernel, by decide +kernel⟩
theorem ok_m_rank_at {f : Addr} {fd : FuncData} (F : Fun K "rank_at" "Screen.rank_at" s_m_rank_at f fd) (T : Txt K mg C) (h_m_class_at : HasM P w K mg base 1 C "class_at" ["self", "x", "y"] (sp_m_class_at K C)) : FnOk P w K mg base CX0 2 f fd ["self", "x", "y"] (sp_m_rank_at K C) := by
  refine F.ok sc_m_rank_at (fun vs H Q E h => ?_) (fun cdv A outer s H vs Q E hr h => ?_)
  · obtain ⟨o, s0, x, y, rfl, _⟩ := h
    rfl
  · obtain ⟨o, s0, x, y, rfl, hL, g⟩ := h
    have nd := sc_m_rank_at.nd
    exact ⟨Rd_m_rank_at K C, (pss_one (ps_ret (pe_ix ix_list (pe_fld (pv 0) rfl) (pe_mth (pv 0) T.ct.cl h_m_class_at (hr.mono (by decide)) (pa_cons (pv 1) (pa_cons (pv 2) pa_nil))) (fun _ _ => rfl)))), rd_m_rank_at hL g⟩
theorem sc_refusal : FnScope ["number"] ["number"] (defScope s_refusal) := ⟨rfl, rfl, rfl, by decide +kernel, rfl, by decide +kernel, by decide +kernel⟩
theorem ok_refusal {f : Addr} {fd : FuncData} (F : Fun K "refusal" "refusal" s_refusal f fd) (T : Txt K mg C) (h_answer : Has P w K mg base 1 "answer" ["number", "told", "numbers"] (sp_answer K)) : FnOk P w K mg base CX0 2 f fd ["number"] (sp_refusal K) := by
  refine F.ok sc_refusal (fun vs H Q E h => ?_) (fun cdv A outer s H vs Q E hr h => ?_)
  · obtain ⟨n, rfl, _⟩ := h
    rfl
  · obtain ⟨n, rfl, g⟩ := h
    have nd := sc_refusal.nd
    exact ⟨Rd_refusal K, (pss_one (ps_ret (pe_own h_answer (hr.mono (by decide)) (by rfl) (pa_cons (pv 0) (pa_cons (pe_lst pa_nil) (pa_cons (pe_lst pa_nil) pa_nil)))))), rd_refusal g⟩
theorem sc_rows_fault : FnScope ["a", "w", "h", "size", "last_byte_full", "end", "y"] ["a", "w", "h"] (defScope s_rows_fault) := ⟨rfl, rfl, rfl, by decide +kernel, rfl, by decide +kernel, by decide +kernel⟩
theorem ok_rows_fault {f : Addr} {fd : FuncData} (F : Fun K "rows_fault" "rows_fault" s_rows_fault f fd) (T : Txt K mg C) (h_full_row : Has P w K mg base 1 "full_row" ["w"] (sp_full_row K)) (h_row_size : Has P w K mg base 1 "row_size" ["w"] (sp_row_size K)) : FnOk P w K mg base CX0 2 f fd ["a", "w", "h"] (sp_rows_fault K) := by
  refine F.ok sc_rows_fault (fun vs H Q E h => ?_) (fun cdv A outer s H vs Q E hr h => ?_)
  · obtain ⟨a, b, w0, h0, rfl, _⟩ := h
    rfl
  · obtain ⟨a, b, w0, h0, rfl, hS, w1, w2, h2, h4, g⟩ := h
    have nd := sc_rows_fault.nd
    exact ⟨Rd_rows_fault K, (pss_cons (ps_set (i := 3) nd rfl (Or.inl rfl) (pe_own h_row_size (hr.mono (by decide)) (by rfl) (pa_cons (pv 1) pa_nil)))
      (pss_cons (ps_set (i := 4) nd rfl (Or.inl rfl) (pe_own h_full_row (hr.mono (by decide)) (by rfl) (pa_cons (pe_op op_sub (pv 1) (pe_op op_mul pe_int (pe_op op_sub (pv 3) pe_int))) pa_nil)))
      (pss_cons (ps_set (i := 5) nd rfl (Or.inl rfl) pe_int)
      (pss_cons (ps_for PassesOwn.never rfl (pi_range1 (by rfl) T.b_range (pa_cons (pv 2) pa_nil)) (pg_name (i := 6) nd rfl (Or.inl rfl)) (pss_cons (ps_set (i := 5) nd rfl (Or.inl rfl) (pe_op op_add (pv 5) (pv 3)))
      (pss_cons (ps_if (pt_cmpR op_lt (pe_callB call_len_seq (by rfl) T.b_len PySem.boot_len (pa_cons (pv 0) pa_nil)) (pv 5) (nomark _)) (pss_one (ps_ret (pe_lst (pa_cons pe_int (pa_cons (pe_callB call_len_seq (by rfl) T.b_len PySem.boot_len (pa_cons (pv 0) pa_nil)) pa_nil))))) pss_nil)
      (pss_one (ps_if (pt_cmpR op_gt (pe_ix ix_list (pv 0) (pe_op op_sub (pv 5) pe_int) (fun _ _ => rfl)) (pv 4) (nomark _)) (pss_one (ps_ret (pe_lst (pa_cons pe_int (pa_cons (pe_op op_sub (pv 5) pe_int) pa_nil))))) pss_nil)))))
      (pss_cons (ps_if (pt_cmpR op_gt (pe_callB call_len_seq (by rfl) T.b_len PySem.boot_len (pa_cons (pv 0) pa_nil)) (pv 5) (nomark _)) (pss_one (ps_ret (pe_lst (pa_cons pe_int (pa_cons (pv 5) pa_nil))))) pss_nil)
      (pss_one (ps_ret (pe_lst pa_nil)))))))), rd_rows_fault hS w1 w2 h2 h4 g⟩
theorem sc_sheet_rows : FnScope ["a", "size", "rows", "start", "row", "i"] ["a"] (defScope s_sheet_rows) := ⟨rfl, rfl, rfl, by decide +kernel, rfl, by decide +kernel, by decide +kernel⟩
theorem ok_sheet_rows {f : Addr} {fd : FuncData} (F : Fun K "sheet_rows" "sheet_rows" s_sheet_rows f fd) (T : Txt K mg C) (h_row_size : Has P w K mg base 1 "row_size" ["w"] (sp_row_size K)) : FnOk P w K mg base CX0 2 f fd ["a"] (sp_sheet_rows K) := by
  refine F.ok sc_sheet_rows (fun vs H Q E h => ?_) (fun cdv A outer s H vs Q E hr h => ?_)
  · obtain ⟨a, b, s0, rfl, _⟩ := h
    rfl
  · obtain ⟨a, b, s0, rfl, hS, F0, g⟩ := h
    have nd := sc_sheet_rows.nd
    exact ⟨Rd_sheet_rows K, (pss_cons (ps_set (i := 1) nd rfl (Or.inl rfl) (pe_own h_row_size (hr.mono (by decide)) (by rfl) (pa_cons (pe_ix ix_list (pv 0) pe_int (fun _ _ => rfl)) pa_nil)))
      (pss_cons (ps_set (i := 2) nd rfl (Or.inl rfl) (pe_lst pa_nil))
      (pss_cons (ps_for PassesOwn.never rfl (pi_range3 (by rfl) T.b_range (pa_cons pe_int (pa_cons (pe_callB call_len_seq (by rfl) T.b_len PySem.boot_len (pa_cons (pv 0) pa_nil)) (pa_cons (pv 1) pa_nil)))) (pg_name (i := 3) nd rfl (Or.inl rfl)) (pss_cons (ps_set (i := 4) nd rfl (Or.inl rfl) pe_int)
      (pss_cons (ps_for PassesOwn.never rfl (pi_range1 (by rfl) T.b_range (pa_cons (pv 1) pa_nil)) (pg_name (i := 5) nd rfl (Or.inl rfl)) (pss_one (ps_set (i := 4) nd rfl (Or.inl rfl) (pe_op op_or (pv 4) (pe_op op_shl (pe_ix ix_list (pv 0) (pe_op op_add (pv 3) (pv 5)) (fun _ _ => rfl)) (pe_op op_mul pe_int (pv 5)))))))
      (pss_one (ps_expr (pe_bm PySem.F.plainAttrs_list PySem.F.slot_list_append PySem.F.type_list_append mt_append (pv 2) (pa_cons (pv 4) pa_nil)))))))
      (pss_one (ps_ret (pv 2)))))), rd_sheet_rows hS F0 g⟩
theorem sc_how_far : FnScope ["lattice", "way", "x", "y", "rest", "steps", "step"] ["lattice", "way", "x", "y"] (defScope s_how_far) := ⟨rfl, rfl, rfl, by decide +kernel, rfl, by decide +kernel, by decide +kernel⟩
theorem ok_how_far {f : Addr} {fd : FuncData} (F : Fun K "how_far" "how_far" s_how_far f fd) (T : Txt K mg C) (h_corner_steps : Has P w K mg base 2 "corner_steps" ["lattice", "x", "y"] (sp_corner_steps K C)) (h_m_across : HasM P w K mg base 1 C "across" ["self", "x", "y"] (sp_m_across K C)) : FnOk P w K mg base CX0 3 f fd ["lattice", "way", "x", "y"] (sp_how_far K C) := by
  refine F.ok sc_how_far (fun vs H Q E h => ?_) (fun cdv A outer s H vs Q E hr h => ?_)
  · obtain ⟨o, s0, c, rfl, _⟩ := h
    rfl
  · obtain ⟨o, s0, c, rfl, hL, hw, hc, g⟩ := h
    have nd := sc_how_far.nd
    exact ⟨Rd_how_far K C, (pss_cons (ps_if (pt_cmpR op_eq (pv 1) pe_int (nomark _)) (pss_cons (ps_set (i := 4) nd rfl (Or.inl rfl) (pe_op op_mod (pe_mth (pv 0) T.ct.cl h_m_across (hr.mono (by decide)) (pa_cons (pv 2) (pa_cons (pv 3) pa_nil))) (pe_fld (pv 0) rfl)))
      (pss_one (ps_ret (pe_callB (call_min2 rfl) (by rfl) T.b_min boot_min (pa_cons (pv 4) (pa_cons (pe_op op_sub (pe_fld (pv 0) rfl) (pv 4)) pa_nil)))))) pss_nil)
      (pss_cons (ps_set (i := 5) nd rfl (Or.inl rfl) (pe_own h_corner_steps (hr.mono (by decide)) (by rfl) (pa_cons (pv 0) (pa_cons (pv 2) (pa_cons (pv 3) pa_nil)))))
      (pss_cons (ps_if (pt_cmpR op_eq (pv 1) pe_int (nomark _)) (pss_one (ps_ret (pe_callB (cr_min rfl) (by rfl) T.b_min boot_min (pa_cons (pe_lc (own := [("step", 6)]) rfl nd (pi_list (pv 5)) (blkOk_by (by show blkC (["lattice", "way", "x", "y", "rest", "steps", "step"] : List Str) (defScope s_how_far) _ _ = true; decide +kernel)) (fun _ _ _ _ _ => (pg_name (i := 6) nd rfl (Or.inl rfl))) (fun _ _ _ _ _ => pts_nil) (fun _ _ _ _ _ => (pe_op op_add (pe_op op_mul (pe_ix ix_tup (pv 6) pe_int (fun _ _ => rfl)) (pe_ix ix_tup (pv 6) pe_int (fun _ _ => rfl))) (pe_op op_mul (pe_ix ix_tup (pv 6) pe_int (fun _ _ => rfl)) (pe_ix ix_tup (pv 6) pe_int (fun _ _ => rfl)))))) pa_nil)))) pss_nil)
      (pss_one (ps_ret (pe_callB (cr_min rfl) (by rfl) T.b_min boot_min (pa_cons (pe_lc (own := [("step", 6)]) rfl nd (pi_list (pv 5)) (blkOk_by (by show blkC (["lattice", "way", "x", "y", "rest", "steps", "step"] : List Str) (defScope s_how_far) _ _ = true; decide +kernel)) (fun _ _ _ _ _ => (pg_name (i := 6) nd rfl (Or.inl rfl))) (fun _ _ _ _ _ => pts_nil) (fun _ _ _ _ _ => (pe_op op_add (pe_ix ix_tup (pv 6) pe_int (fun _ _ => rfl)) (pe_ix ix_tup (pv 6) pe_int (fun _ _ => rfl))))) pa_nil))))))), rd_how_far hL hw hc g⟩
theorem sc_least_tone : FnScope ["screen", "x", "y", "rows", "least", "most", "j", "row", "i", "dot", "met"] ["screen", "x", "y", "rows"] (defScope s_least_tone) := ⟨rfl, rfl, rfl, by decide +kernel, rfl, by decide +kernel, by decide +kernel⟩
theorem ok_least_tone {f : Addr} {fd : FuncData} (F : Fun K "least_tone" "least_tone" s_least_tone f fd) (T : Txt K mg C) (h_m_rank_at : HasM P w K mg base 2 C "rank_at" ["self", "x", "y"] (sp_m_rank_at K C)) : FnOk P w K mg base CX0 3 f fd ["screen", "x", "y", "rows"] (sp_least_tone K C) := by
  refine F.ok sc_least_tone (fun vs H Q E h => ?_) (fun cdv A outer s H vs Q E hr h => ?_)
  · obtain ⟨o, s0, c, l, q, rfl, _⟩ := h
    rfl
  · obtain ⟨o, s0, c, l, q, rfl, hL, hG, hf, g⟩ := h
    have nd := sc_least_tone.nd
    exact ⟨Rd_least_tone K C, (pss_cons (ps_set (i := 4) nd rfl (Or.inl rfl) pe_int)
      (pss_cons (ps_set (i := 5) nd rfl (Or.inl rfl) (pe_fld (pv 0) rfl))
      (pss_cons (ps_for PassesOwn.never rfl (pi_enum (by rfl) T.b_enumerate (pa_cons (pv 3) pa_nil)) (pg_tup rfl (pgs_cons (pg_name (i := 6) nd rfl (Or.inl rfl)) (pgs_cons (pg_name (i := 7) nd rfl (Or.inl rfl)) pgs_nil))) (pss_one (ps_for PassesOwn.never rfl (pi_enum (by rfl) T.b_enumerate (pa_cons (pv 7) pa_nil)) (pg_tup rfl (pgs_cons (pg_name (i := 8) nd rfl (Or.inl rfl)) (pgs_cons (pg_name (i := 9) nd rfl (Or.inl rfl)) pgs_nil))) (pss_cons (ps_set (i := 10) nd rfl (Or.inl rfl) (pe_mth (pv 0) T.ct.cl h_m_rank_at (hr.mono (by decide)) (pa_cons (pe_op op_add (pv 1) (pv 8)) (pa_cons (pe_op op_add (pv 2) (pv 6)) pa_nil))))
      (pss_one (ps_if (pt_truth (pv 9) (fun _ => rfl)) (pss_one (ps_set (i := 4) nd rfl (Or.inl rfl) (pe_callB (call_max2 rfl) (by rfl) T.b_max boot_max (pa_cons (pv 4) (pa_cons (pe_op op_add (pv 10) pe_int) pa_nil))))) (pss_one (ps_set (i := 5) nd rfl (Or.inl rfl) (pe_callB (call_min2 rfl) (by rfl) T.b_min boot_min (pa_cons (pv 5) (pa_cons (pv 10) pa_nil)))))))))))
      (pss_one (ps_ret (pe_ifExp (pt_cmpR op_le (pv 4) (pv 5) (nomark _)) (pv 4) (pe_un un_neg pe_int))))))), rd_least_tone hL hG hf g⟩
theorem sc_m_find_slant : FnScope ["self", "x"] ["self"] (defScope s_m_find_slant) := ⟨rfl, rfl, rfl, by decide +kernel, rfl, by decide +kernel, by decide +kernel⟩
theorem ok_m_find_slant {f : Addr} {fd : FuncData} (F : Fun K "find_slant" "Lattice.find_slant" s_m_find_slant f fd) (T : Txt K mg C) (h_m_has_place : HasM P w K mg base 2 C "has_place" ["self", "x", "y"] (sp_m_has_place K C)) : FnOk P w K mg base CX0 3 f fd ["self"] (sp_m_find_slant K C) := by
  refine F.ok sc_m_find_slant (fun vs H Q E h => ?_) (fun cdv A outer s H vs Q E hr h => ?_)
  · obtain ⟨o, s0, rfl, _⟩ := h
    rfl
  · obtain ⟨o, s0, rfl, hL, g⟩ := h
    have nd := sc_m_find_slant.nd
    exact ⟨Rd_m_find_slant K C, (pss_cons (ps_set (i := 1) nd rfl (Or.inl rfl) pe_int)
      (pss_cons (ps_while PassesOwn.never (pt_not (pt_truth (pe_mth (pv 0) T.ct.cl h_m_has_place (hr.mono (by decide)) (pa_cons (pv 1) (pa_cons (pe_fld (pv 0) rfl) pa_nil))) (fun _ => rfl))) (pss_one (ps_set (i := 1) nd rfl (Or.inl rfl) (pe_op op_add (pv 1) pe_int))))
      (pss_one (ps_ret (pv 1))))), rd_m_find_slant hL g⟩
theorem sc_sheet_fault : FnScope ["a", "w", "h"] ["a"] (defScope s_sheet_fault) := ⟨rfl, rfl, rfl, by decide +kernel, rfl, by decide +kernel, by decide +kernel⟩
theorem ok_sheet_fault {f : Addr} {fd : FuncData} (F : Fun K "sheet_fault" "sheet_fault" s_sheet_fault f fd) (T : Txt K mg C) (h_rows_fault : Has P w K mg base 2 "rows_fault" ["a", "w", "h"] (sp_rows_fault K)) : FnOk P w K mg base CX0 3 f fd ["a"] (sp_sheet_fault K) := by
  refine F.ok sc_sheet_fault (fun vs H Q E h => ?_) (fun cdv A outer s H vs Q E hr h => ?_)
  · obtain ⟨a, b, rfl, _⟩ := h
    rfl
  · obtain ⟨a, b, rfl, hS, g⟩ := h
    have nd := sc_sheet_fault.nd
    exact ⟨Rd_sheet_fault K, (pss_cons (ps_if (pt_cmpR op_lt (pe_callB call_len_seq (by rfl) T.b_len PySem.boot_len (pa_cons (pv 0) pa_nil)) pe_int (nomark _)) (pss_one (ps_ret (pe_lst (pa_cons pe_int (pa_cons (pe_callB call_len_seq (by rfl) T.b_len PySem.boot_len (pa_cons (pv 0) pa_nil)) pa_nil))))) pss_nil)
      (pss_cons (ps_set (i := 1) nd rfl (Or.inl rfl) (pe_op op_add (pe_ix ix_list (pv 0) pe_int (fun _ _ => rfl)) (pe_op op_mul pe_int (pe_ix ix_list (pv 0) pe_int (fun _ _ => rfl)))))
      (pss_cons (ps_if (PW.pt (pw_or (pt_cmpR op_eq (pv 1) pe_int (nomark _)) (pw_or1 (pt_cmpR op_gt (pv 1) (pe_gi (by rfl) T.c_MOST_WIDE) (nomark _))))) (pss_one (ps_ret (pe_lst (pa_cons pe_int (pa_cons pe_int pa_nil))))) pss_nil)
      (pss_cons (ps_if (pt_cmpR op_lt (pe_callB call_len_seq (by rfl) T.b_len PySem.boot_len (pa_cons (pv 0) pa_nil)) pe_int (nomark _)) (pss_one (ps_ret (pe_lst (pa_cons pe_int (pa_cons (pe_callB call_len_seq (by rfl) T.b_len PySem.boot_len (pa_cons (pv 0) pa_nil)) pa_nil))))) pss_nil)
      (pss_cons (ps_set (i := 2) nd rfl (Or.inl rfl) (pe_op op_add (pe_ix ix_list (pv 0) pe_int (fun _ _ => rfl)) (pe_op op_mul pe_int (pe_ix ix_list (pv 0) pe_int (fun _ _ => rfl)))))
      (pss_cons (ps_if (PW.pt (pw_or (pt_cmpR op_eq (pv 2) pe_int (nomark _)) (pw_or1 (pt_cmpR op_gt (pv 2) (pe_gi (by rfl) T.c_MOST_HIGH) (nomark _))))) (pss_one (ps_ret (pe_lst (pa_cons pe_int (pa_cons pe_int pa_nil))))) pss_nil)
      (pss_one (ps_ret (pe_own h_rows_fault (hr.mono (by decide)) (by rfl) (pa_cons (pv 0) (pa_cons (pv 1) (pa_cons (pv 2) pa_nil)))))))))))), rd_sheet_fault hS g⟩
theorem sc_class_ranks : FnScope ["lattice", "way", "order", "number", "place", "ranks", "position", "pair"] ["lattice", "way"] (defScope s_class_ranks) := ⟨rfl, rfl, rfl, by decide +kernel, rfl, by decide +kernel, by decide +kernel⟩
theorem ok_class_ranks {f : Addr} {fd : FuncData} (F : Fun K "class_ranks" "class_ranks" s_class_ranks f fd) (T : Txt K mg C) (h_how_far : Has P w K mg base 3 "how_far" ["lattice", "way", "x", "y"] (sp_how_far K C)) (h_m_class_place : HasM P w K mg base 1 C "class_place" ["self", "number"] (sp_m_class_place K C)) : FnOk P w K mg base CX0 4 f fd ["lattice", "way"] (sp_class_ranks K C) := by
  refine F.ok sc_class_ranks (fun vs H Q E h => ?_) (fun cdv A outer s H vs Q E hr h => ?_)
  · obtain ⟨o, s0, rfl, _⟩ := h
    rfl
  · obtain ⟨o, s0, rfl, hL, hw, g⟩ := h
    have nd := sc_class_ranks.nd
    exact ⟨Rd_class_ranks K C, (pss_cons (ps_set (i := 2) nd rfl (Or.inl rfl) (pe_lst pa_nil))
      (pss_cons (ps_for PassesOwn.never rfl (pi_range1 (by rfl) T.b_range (pa_cons (pe_fld (pv 0) rfl) pa_nil)) (pg_name (i := 3) nd rfl (Or.inl rfl)) (pss_cons (ps_set (i := 4) nd rfl (Or.inl rfl) (pe_mth (pv 0) T.ct.cl h_m_class_place (hr.mono (by decide)) (pa_cons (pv 3) pa_nil)))
      (pss_one (ps_expr (pe_bm PySem.F.plainAttrs_list PySem.F.slot_list_append PySem.F.type_list_append mt_append (pv 2) (pa_cons (pe_tup (pa_cons (pe_own h_how_far (hr.mono (by decide)) (by rfl) (pa_cons (pv 0) (pa_cons (pv 1) (pa_cons (pe_ix ix_tup (pv 4) pe_int (fun _ _ => rfl)) (pa_cons (pe_ix ix_tup (pv 4) pe_int (fun _ _ => rfl)) pa_nil))))) (pa_cons (pv 3) pa_nil))) pa_nil))))))
      (pss_cons (ps_set (i := 5) nd rfl (Or.inl rfl) (pe_op op_rep (pe_lst (pa_cons pe_int pa_nil)) (pe_fld (pv 0) rfl)))
      (pss_cons (ps_for PassesOwn.never rfl (pi_enum (by rfl) T.b_enumerate (pa_cons (pe_callB cr_sortedT (by rfl) T.b_sorted boot_sorted (pa_cons (pv 2) pa_nil)) pa_nil)) (pg_tup rfl (pgs_cons (pg_name (i := 6) nd rfl (Or.inl rfl)) (pgs_cons (pg_name (i := 7) nd rfl (Or.inl rfl)) pgs_nil))) (pss_one (ps_asg (pv 6) (pg_sub (pv 5) (pe_ix ix_tup (pv 7) pe_int (fun _ _ => rfl)) set_list))))
      (pss_one (ps_ret (pv 5))))))), rd_class_ranks hL hw g⟩
theorem sc_find_tone : FnScope ["screen", "rows", "found", "number", "place", "t"] ["screen", "rows"] (defScope s_find_tone) := ⟨rfl, rfl, rfl, by decide +kernel, rfl, by decide +kernel, by decide +kernel⟩
theorem ok_find_tone {f : Addr} {fd : FuncData} (F : Fun K "find_tone" "find_tone" s_find_tone f fd) (T : Txt K mg C) (h_least_tone : Has P w K mg base 3 "least_tone" ["screen", "x", "y", "rows"] (sp_least_tone K C)) (h_m_class_place : HasM P w K mg base 1 C "class_place" ["self", "number"] (sp_m_class_place K C)) : FnOk P w K mg base CX0 4 f fd ["screen", "rows"] (sp_find_tone K C) := by
  refine F.ok sc_find_tone (fun vs H Q E h => ?_) (fun cdv A outer s H vs Q E hr h => ?_)
  · obtain ⟨o, s0, l, q, rfl, _⟩ := h
    rfl
  · obtain ⟨o, s0, l, q, rfl, hL, hG, hf, g⟩ := h
    have nd := sc_find_tone.nd
    exact ⟨Rd_find_tone K C, (pss_cons (ps_set (i := 2) nd rfl (Or.inl rfl) (pe_lst pa_nil))
      (pss_cons (ps_for PassesOwn.never rfl (pi_range1 (by rfl) T.b_range (pa_cons (pe_fld (pv 0) rfl) pa_nil)) (pg_name (i := 3) nd rfl (Or.inl rfl)) (pss_cons (ps_set (i := 4) nd rfl (Or.inl rfl) (pe_mth (pv 0) T.ct.cl h_m_class_place (hr.mono (by decide)) (pa_cons (pv 3) pa_nil)))
      (pss_cons (ps_set (i := 5) nd rfl (Or.inl rfl) (pe_own h_least_tone (hr.mono (by decide)) (by rfl) (pa_cons (pv 0) (pa_cons (pe_ix ix_tup (pv 4) pe_int (fun _ _ => rfl)) (pa_cons (pe_ix ix_tup (pv 4) pe_int (fun _ _ => rfl)) (pa_cons (pv 1) pa_nil))))))
      (pss_one (ps_if (PW.pt (pw_and (pt_cmpR op_ge (pv 5) pe_int (nomark _)) (pw_and1 (PW.pt (pw_or (pt_not (pt_truth (pv 2) (fun _ => rfl))) (pw_or1 (pt_cmpR op_lt (pv 5) (pe_ix ix_list (pv 2) pe_int (fun _ _ => rfl)) (nomark _)))))))) (pss_one (ps_set (i := 2) nd rfl (Or.inl rfl) (pe_lst (pa_cons (pv 5) (pa_cons (pe_ix ix_tup (pv 4) pe_int (fun _ _ => rfl)) (pa_cons (pe_ix ix_tup (pv 4) pe_int (fun _ _ => rfl)) pa_nil)))))) pss_nil)))))
      (pss_one (ps_ret (pv 2))))), rd_find_tone hL hG hf g⟩
theorem sc_m_init : FnScope ["self", "a", "b"] ["self", "a", "b"] (defScope s_m_init) := ⟨rfl, rfl, rfl, by decide +kernel, rfl, by decide +kernel, by decide +kernel⟩
theorem ok_m_init {f : Addr} {fd : FuncData} (F : Fun K "__init__" "Lattice.__init__" s_m_init f fd) (T : Txt K mg C) (h_m_find_slant : HasM P w K mg base 3 C "find_slant" ["self"] (sp_m_find_slant K C)) (h_common_divisor : Has P w K mg base 1 "common_divisor" ["a", "b"] (sp_common_divisor K)) : FnOk P w K mg base CX0 4 f fd ["self", "a", "b"] (sp_m_init K C) := by
  refine F.ok sc_m_init (fun vs H Q E h => ?_) (fun cdv A outer s H vs Q E hr h => ?_)
  · obtain ⟨o, dx, s0, rfl, _⟩ := h
    rfl
  · obtain ⟨o, dx, s0, rfl, hT, hL, h1, g⟩ := h
    have nd := sc_m_init.nd
    exact ⟨Rd_m_init K C, (pss_cons (ps_fld (pv 0) (pv 1) rfl)
      (pss_cons (ps_fld (pv 0) (pv 2) rfl)
      (pss_cons (ps_fld (pv 0) (pe_op op_add (pe_op op_mul (pv 1) (pv 1)) (pe_op op_mul (pv 2) (pv 2))) rfl)
      (pss_cons (ps_fld (pv 0) (pe_own h_common_divisor (hr.mono (by decide)) (by rfl) (pa_cons (pv 1) (pa_cons (pv 2) pa_nil))) rfl)
      (pss_cons (ps_fld (pv 0) (pe_op op_fdiv (pe_fld (pv 0) rfl) (pe_fld (pv 0) rfl)) rfl)
      (pss_one (ps_fld (pv 0) (pe_mth0 (pv 0) T.ct.cl h_m_find_slant (hr.mono (by decide))) rfl))))))), rd_m_init hT hL h1 g⟩
theorem sc_refuse_sheets : FnScope ["sheets", "a", "number", "fault"] ["sheets"] (defScope s_refuse_sheets) := ⟨rfl, rfl, rfl, by decide +kernel, rfl, by decide +kernel, by decide +kernel⟩
theorem ok_refuse_sheets {f : Addr} {fd : FuncData} (F : Fun K "refuse_sheets" "refuse_sheets" s_refuse_sheets f fd) (T : Txt K mg C) (h_answer : Has P w K mg base 1 "answer" ["number", "told", "numbers"] (sp_answer K)) (h_sheet_fault : Has P w K mg base 3 "sheet_fault" ["a"] (sp_sheet_fault K)) (h_refusal : Has P w K mg base 2 "refusal" ["number"] (sp_refusal K)) : FnOk P w K mg base CX0 4 f fd ["sheets"] (sp_refuse_sheets K) := by
  refine F.ok sc_refuse_sheets (fun vs H Q E h => ?_) (fun cdv A outer s H vs Q E hr h => ?_)
  · obtain ⟨l, ps, rfl, _⟩ := h
    rfl
  · obtain ⟨l, ps, rfl, hl, hS, h2, g⟩ := h
    have nd := sc_refuse_sheets.nd
    exact ⟨Rd_refuse_sheets K, (pss_cons (ps_for PassesOwn.never rfl (pi_list (pv 0)) (pg_name (i := 1) nd rfl (Or.inl rfl)) (pss_one (ps_if (pt_cmpR op_gt (pe_callB call_len_seq (by rfl) T.b_len PySem.boot_len (pa_cons (pv 1) pa_nil)) (pe_gi (by rfl) T.c_MOST_BYTES) (nomark _)) (pss_one (ps_ret (pe_own h_refusal (hr.mono (by decide)) (by rfl) (pa_cons (pe_un un_neg pe_int) pa_nil)))) pss_nil)))
      (pss_cons (ps_for PassesOwn.never rfl (pi_enum (by rfl) T.b_enumerate (pa_cons (pv 0) pa_nil)) (pg_tup rfl (pgs_cons (pg_name (i := 2) nd rfl (Or.inl rfl)) (pgs_cons (pg_name (i := 1) nd rfl (Or.inl rfl)) pgs_nil))) (pss_cons (ps_set (i := 3) nd rfl (Or.inl rfl) (pe_own h_sheet_fault (hr.mono (by decide)) (by rfl) (pa_cons (pv 1) pa_nil)))
      (pss_one (ps_if (pt_truth (pv 3) (fun _ => rfl)) (pss_one (ps_ret (pe_own h_answer (hr.mono (by decide)) (by rfl) (pa_cons (pe_un un_neg pe_int) (pa_cons (pe_lst pa_nil) (pa_cons (pe_lst (pa_cons (pe_op op_add (pe_ix ix_list (pv 3) pe_int (fun _ _ => rfl)) (pe_op op_mul pe_int (pv 2))) (pa_cons (pe_ix ix_list (pv 3) pe_int (fun _ _ => rfl)) pa_nil))) pa_nil)))))) pss_nil))))
      (pss_one (ps_ret (pe_lst pa_nil))))), rd_refuse_sheets hl hS g⟩
theorem sc_m_initS : FnScope ["self", "a", "b", "way"] ["self", "a", "b", "way"] (defScope s_m_initS) := ⟨rfl, rfl, rfl, by decide +kernel, rfl, by decide +kernel, by decide +kernel⟩
theorem ok_m_initS {f : Addr} {fd : FuncData} (F : Fun K "__init__" "Screen.__init__" s_m_initS f fd) (T : Txt K mg C) (h_class_ranks : Has P w K mg base 4 "class_ranks" ["lattice", "way"] (sp_class_ranks K C)) (h_m_init : HasL P w K mg base 4 "Lattice" "__init__" ["self", "a", "b"] (sp_m_init K C)) : FnOk P w K mg base CX0 5 f fd ["self", "a", "b", "way"] (sp_m_initS K C) := by
  refine F.ok sc_m_initS (fun vs H Q E h => ?_) (fun cdv A outer s H vs Q E hr h => ?_)
  · obtain ⟨o, dx, s0, rfl, _⟩ := h
    rfl
  · obtain ⟨o, dx, s0, rfl, hT, hL, hw, h1, g⟩ := h
    have nd := sc_m_initS.nd
    exact ⟨Rd_m_initS K C, (pss_cons (ps_expr (pe_clsm h_m_init (hr.mono (by decide)) (by rfl) (pa_cons (pv 0) (pa_cons (pv 1) (pa_cons (pv 2) pa_nil)))))
      (pss_one (ps_fld (pv 0) (pe_own h_class_ranks (hr.mono (by decide)) (by rfl) (pa_cons (pv 0) (pa_cons (pv 3) pa_nil))) rfl))), rd_m_initS hT hL hw h1 g⟩
theorem sc_tone : FnScope ["a", "b", "way", "s", "refused", "found", "row"] ["a", "b", "way", "s"] (defScope s_tone) := ⟨rfl, rfl, rfl, by decide +kernel, rfl, by decide +kernel, by decide +kernel⟩
theorem ok_tone {f : Addr} {fd : FuncData} (F : Fun K "tone" "tone" s_tone f fd) (T : Txt K mg C) (h_answer : Has P w K mg base 1 "answer" ["number", "told", "numbers"] (sp_answer K)) (h_refusal : Has P w K mg base 2 "refusal" ["number"] (sp_refusal K)) (h_find_tone : Has P w K mg base 4 "find_tone" ["screen", "rows"] (sp_find_tone K C)) (h_sheet_rows : Has P w K mg base 2 "sheet_rows" ["a"] (sp_sheet_rows K)) (h_row_dots : Has P w K mg base 1 "row_dots" ["w", "row"] (sp_row_dots K)) (h_m_initS : HasI P w K mg base 5 C ["self", "a", "b", "way"] (sp_m_initS K C)) (h_is_screen : Has P w K mg base 2 "is_screen" ["a", "b", "way"] (sp_is_screen K)) (h_refuse_sheets : Has P w K mg base 4 "refuse_sheets" ["sheets"] (sp_refuse_sheets K)) : FnOk P w K mg base CX0 7 f fd ["a", "b", "way", "s"] (sp_tone K) := by
  refine F.ok sc_tone (fun vs H Q E h => ?_) (fun cdv A outer s H vs Q E hr h => ?_)
  · obtain ⟨a, b, way, p, a1, rfl, _⟩ := h
    rfl
  · obtain ⟨a, b, way, p, a1, rfl, hS, g⟩ := h
    have nd := sc_tone.nd
    exact ⟨Rd_tone K C, (pss_cons (ps_set (i := 4) nd rfl (Or.inl rfl) (pe_own h_refuse_sheets (hr.mono (by decide)) (by rfl) (pa_cons (pe_lst (pa_cons (pv 3) pa_nil)) pa_nil)))
      (pss_cons (ps_if (pt_truth (pv 4) (fun _ => rfl)) (pss_one (ps_ret (pv 4))) pss_nil)
      (pss_cons (ps_if (pt_not (pt_truth (pe_own h_is_screen (hr.mono (by decide)) (by rfl) (pa_cons (pv 0) (pa_cons (pv 1) (pa_cons (pv 2) pa_nil)))) (fun _ => rfl))) (pss_one (ps_ret (pe_own h_refusal (hr.mono (by decide)) (by rfl) (pa_cons (pe_un un_neg pe_int) pa_nil)))) pss_nil)
      (pss_cons (ps_set (i := 5) nd rfl (Or.inl rfl) (pe_own h_find_tone (hr.mono (by decide)) (by rfl) (pa_cons (pe_mk h_m_initS (hr.mono (by decide)) (by rfl) T.mgC (pa_cons (pv 0) (pa_cons (pv 1) (pa_cons (pv 2) pa_nil)))) (pa_cons (pe_lc (own := [("row", 6)]) rfl nd (pi_list (pe_own h_sheet_rows (hr.mono (by decide)) (by rfl) (pa_cons (pv 3) pa_nil))) (blkOk_by (by show blkC (["a", "b", "way", "s", "refused", "found", "row"] : List Str) (defScope s_tone) _ _ = true; decide +kernel)) (fun _ _ _ _ _ => (pg_name (i := 6) nd rfl (Or.inl rfl))) (fun _ _ _ _ _ => pts_nil) (fun _ _ _ _ _ => (pe_own h_row_dots (hr.mono (by decide)) (by rfl) (pa_cons (pe_ix ix_list (pv 3) pe_int (fun _ _ => rfl)) (pa_cons (pv 6) pa_nil))))) pa_nil))))
      (pss_cons (ps_if (pt_not (pt_truth (pv 5) (fun _ => rfl))) (pss_one (ps_ret (pe_own h_refusal (hr.mono (by decide)) (by rfl) (pa_cons (pe_un un_neg pe_int) pa_nil)))) pss_nil)
      (pss_one (ps_ret (pe_own h_answer (hr.mono (by decide)) (by rfl) (pa_cons (pe_ix ix_list (pv 5) pe_int (fun _ _ => rfl)) (pa_cons (pe_lst pa_nil) (pa_cons (pe_slice sl_list (pv 5) (po_some pe_int) po_none) pa_nil))))))))))), rd_tone T.ct hS g⟩
end
theorem all_mk {P : Program} {w : World} {K : PySem.W.Frag} {h : Heap} {mg : Str → Option Value} {fa : Addr} (X : K.In h) (G : h.Ns mainGlobals mg) (hfa : mg "tone" = some (.ref fa))
    {C : Addr} (aC : PySem.W.nsIn K mainGlobals "Screen" = some (some (.ref C)))
    {CL : Addr} (aL : PySem.W.nsIn K mainGlobals "Lattice" = some (some (.ref CL))) (rL : PySem.W.readsIn K CL (.type "type") = true) (gL : PySem.W.specialIn K (.ref CL) "__getattribute__" = some (some (.builtin "type.__getattribute__")))
    {f0 : Addr} {od0 an0 : Option Addr} {sl0 : Array (Option Value)} {oc0 kV0 dc0 pm0 cd0 ct0 : Value} (a0 : PySem.W.nsIn K mainGlobals "answer" = some (some (.ref f0))) (l0 : K.lookup f0 = some ⟨oc0, od0, .func (PySem.W.fnOf "answer" "answer" (defArgs s_answer) (defBody s_answer) (defScope s_answer) .none kV0 dc0 pm0 an0 cd0 ct0), sl0⟩) (c0 : PySem.W.codeIn K cd0 "answer" = true) (k0 : PySem.W.keepIn K (.ref f0) = true)
    {f1 : Addr} {od1 an1 : Option Addr} {sl1 : Array (Option Value)} {oc1 kV1 dc1 pm1 cd1 ct1 : Value} (a1 : PySem.W.nsIn K mainGlobals "common_divisor" = some (some (.ref f1))) (l1 : K.lookup f1 = some ⟨oc1, od1, .func (PySem.W.fnOf "common_divisor" "common_divisor" (defArgs s_common_divisor) (defBody s_common_divisor) (defScope s_common_divisor) .none kV1 dc1 pm1 an1 cd1 ct1), sl1⟩) (c1 : PySem.W.codeIn K cd1 "common_divisor" = true) (k1 : PySem.W.keepIn K (.ref f1) = true)
    {f2 : Addr} {od2 an2 : Option Addr} {sl2 : Array (Option Value)} {oc2 kV2 dc2 pm2 cd2 ct2 : Value} (a2 : PySem.W.nsIn K mainGlobals "full_row" = some (some (.ref f2))) (l2 : K.lookup f2 = some ⟨oc2, od2, .func (PySem.W.fnOf "full_row" "full_row" (defArgs s_full_row) (defBody s_full_row) (defScope s_full_row) .none kV2 dc2 pm2 an2 cd2 ct2), sl2⟩) (c2 : PySem.W.codeIn K cd2 "full_row" = true) (k2 : PySem.W.keepIn K (.ref f2) = true)
    {f3 : Addr} {od3 an3 : Option Addr} {sl3 : Array (Option Value)} {oc3 kV3 dc3 pm3 cd3 ct3 : Value} (a3 : PySem.W.nsIn K mainGlobals "is_lattice" = some (some (.ref f3))) (l3 : K.lookup f3 = some ⟨oc3, od3, .func (PySem.W.fnOf "is_lattice" "is_lattice" (defArgs s_is_lattice) (defBody s_is_lattice) (defScope s_is_lattice) .none kV3 dc3 pm3 an3 cd3 ct3), sl3⟩) (c3 : PySem.W.codeIn K cd3 "is_lattice" = true) (k3 : PySem.W.keepIn K (.ref f3) = true)
    {f4 : Addr} {od4 an4 : Option Addr} {sl4 : Array (Option Value)} {oc4 kV4 dc4 pm4 cd4 ct4 : Value} (a4 : PySem.W.findIn K (.ref C) "across" = some (some (.ref f4))) (i4 : PySem.W.isFn K (.ref f4) = true) (l4 : K.lookup f4 = some ⟨oc4, od4, .func (PySem.W.fnOf "across" "Lattice.across" (defArgs s_m_across) (defBody s_m_across) (defScope s_m_across) .none kV4 dc4 pm4 an4 cd4 ct4), sl4⟩) (c4 : PySem.W.codeIn K cd4 "Lattice.across" = true) (k4 : PySem.W.keepIn K (.ref f4) = true)
    {f5 : Addr} {od5 an5 : Option Addr} {sl5 : Array (Option Value)} {oc5 kV5 dc5 pm5 cd5 ct5 : Value} (a5 : PySem.W.findIn K (.ref C) "along" = some (some (.ref f5))) (i5 : PySem.W.isFn K (.ref f5) = true) (l5 : K.lookup f5 = some ⟨oc5, od5, .func (PySem.W.fnOf "along" "Lattice.along" (defArgs s_m_along) (defBody s_m_along) (defScope s_m_along) .none kV5 dc5 pm5 an5 cd5 ct5), sl5⟩) (c5 : PySem.W.codeIn K cd5 "Lattice.along" = true) (k5 : PySem.W.keepIn K (.ref f5) = true)
    {f6 : Addr} {od6 an6 : Option Addr} {sl6 : Array (Option Value)} {oc6 kV6 dc6 pm6 cd6 ct6 : Value} (a6 : PySem.W.findIn K (.ref C) "class_at" = some (some (.ref f6))) (i6 : PySem.W.isFn K (.ref f6) = true) (l6 : K.lookup f6 = some ⟨oc6, od6, .func (PySem.W.fnOf "class_at" "Lattice.class_at" (defArgs s_m_class_at) (defBody s_m_class_at) (defScope s_m_class_at) .none kV6 dc6 pm6 an6 cd6 ct6), sl6⟩) (c6 : PySem.W.codeIn K cd6 "Lattice.class_at" = true) (k6 : PySem.W.keepIn K (.ref f6) = true)
    {f7 : Addr} {od7 an7 : Option Addr} {sl7 : Array (Option Value)} {oc7 kV7 dc7 pm7 cd7 ct7 : Value} (a7 : PySem.W.findIn K (.ref C) "class_place" = some (some (.ref f7))) (i7 : PySem.W.isFn K (.ref f7) = true) (l7 : K.lookup f7 = some ⟨oc7, od7, .func (PySem.W.fnOf "class_place" "Lattice.class_place" (defArgs s_m_class_place) (defBody s_m_class_place) (defScope s_m_class_place) .none kV7 dc7 pm7 an7 cd7 ct7), sl7⟩) (c7 : PySem.W.codeIn K cd7 "Lattice.class_place" = true) (k7 : PySem.W.keepIn K (.ref f7) = true)
    {f8 : Addr} {od8 an8 : Option Addr} {sl8 : Array (Option Value)} {oc8 kV8 dc8 pm8 cd8 ct8 : Value} (a8 : PySem.W.nsIn K mainGlobals "row_dots" = some (some (.ref f8))) (l8 : K.lookup f8 = some ⟨oc8, od8, .func (PySem.W.fnOf "row_dots" "row_dots" (defArgs s_row_dots) (defBody s_row_dots) (defScope s_row_dots) .none kV8 dc8 pm8 an8 cd8 ct8), sl8⟩) (c8 : PySem.W.codeIn K cd8 "row_dots" = true) (k8 : PySem.W.keepIn K (.ref f8) = true)
    {f9 : Addr} {od9 an9 : Option Addr} {sl9 : Array (Option Value)} {oc9 kV9 dc9 pm9 cd9 ct9 : Value} (a9 : PySem.W.nsIn K mainGlobals "row_size" = some (some (.ref f9))) (l9 : K.lookup f9 = some ⟨oc9, od9, .func (PySem.W.fnOf "row_size" "row_size" (defArgs s_row_size) (defBody s_row_size) (defScope s_row_size) .none kV9 dc9 pm9 an9 cd9 ct9), sl9⟩) (c9 : PySem.W.codeIn K cd9 "row_size" = true) (k9 : PySem.W.keepIn K (.ref f9) = true)
    {f10 : Addr} {od10 an10 : Option Addr} {sl10 : Array (Option Value)} {oc10 kV10 dc10 pm10 cd10 ct10 : Value} (a10 : PySem.W.nsIn K mainGlobals "corner_steps" = some (some (.ref f10))) (l10 : K.lookup f10 = some ⟨oc10, od10, .func (PySem.W.fnOf "corner_steps" "corner_steps" (defArgs s_corner_steps) (defBody s_corner_steps) (defScope s_corner_steps) .none kV10 dc10 pm10 an10 cd10 ct10), sl10⟩) (c10 : PySem.W.codeIn K cd10 "corner_steps" = true) (k10 : PySem.W.keepIn K (.ref f10) = true)
    {f11 : Addr} {od11 an11 : Option Addr} {sl11 : Array (Option Value)} {oc11 kV11 dc11 pm11 cd11 ct11 : Value} (a11 : PySem.W.nsIn K mainGlobals "is_screen" = some (some (.ref f11))) (l11 : K.lookup f11 = some ⟨oc11, od11, .func (PySem.W.fnOf "is_screen" "is_screen" (defArgs s_is_screen) (defBody s_is_screen) (defScope s_is_screen) .none kV11 dc11 pm11 an11 cd11 ct11), sl11⟩) (c11 : PySem.W.codeIn K cd11 "is_screen" = true) (k11 : PySem.W.keepIn K (.ref f11) = true)
    {f12 : Addr} {od12 an12 : Option Addr} {sl12 : Array (Option Value)} {oc12 kV12 dc12 pm12 cd12 ct12 : Value} (a12 : PySem.W.findIn K (.ref C) "has_place" = some (some (.ref f12))) (i12 : PySem.W.isFn K (.ref f12) = true) (l12 : K.lookup f12 = some ⟨oc12, od12, .func (PySem.W.fnOf "has_place" "Lattice.has_place" (defArgs s_m_has_place) (defBody s_m_has_place) (defScope s_m_has_place) .none kV12 dc12 pm12 an12 cd12 ct12), sl12⟩) (c12 : PySem.W.codeIn K cd12 "Lattice.has_place" = true) (k12 : PySem.W.keepIn K (.ref f12) = true)
    {f13 : Addr} {od13 an13 : Option Addr} {sl13 : Array (Option Value)} {oc13 kV13 dc13 pm13 cd13 ct13 : Value} (a13 : PySem.W.findIn K (.ref C) "rank_at" = some (some (.ref f13))) (i13 : PySem.W.isFn K (.ref f13) = true) (l13 : K.lookup f13 = some ⟨oc13, od13, .func (PySem.W.fnOf "rank_at" "Screen.rank_at" (defArgs s_m_rank_at) (defBody s_m_rank_at) (defScope s_m_rank_at) .none kV13 dc13 pm13 an13 cd13 ct13), sl13⟩) (c13 : PySem.W.codeIn K cd13 "Screen.rank_at" = true) (k13 : PySem.W.keepIn K (.ref f13) = true)
    {f14 : Addr} {od14 an14 : Option Addr} {sl14 : Array (Option Value)} {oc14 kV14 dc14 pm14 cd14 ct14 : Value} (a14 : PySem.W.nsIn K mainGlobals "refusal" = some (some (.ref f14))) (l14 : K.lookup f14 = some ⟨oc14, od14, .func (PySem.W.fnOf "refusal" "refusal" (defArgs s_refusal) (defBody s_refusal) (defScope s_refusal) .none kV14 dc14 pm14 an14 cd14 ct14), sl14⟩) (c14 : PySem.W.codeIn K cd14 "refusal" = true) (k14 : PySem.W.keepIn K (.ref f14) = true)
    {f15 : Addr} {od15 an15 : Option Addr} {sl15 : Array (Option Value)} {oc15 kV15 dc15 pm15 cd15 ct15 : Value} (a15 : PySem.W.nsIn K mainGlobals "rows_fault" = some (some (.ref f15))) (l15 : K.lookup f15 = some ⟨oc15, od15, .func (PySem.W.fnOf "rows_fault" "rows_fault" (defArgs s_rows_fault) (defBody s_rows_fault) (defScope s_rows_fault) .none kV15 dc15 pm15 an15 cd15 ct15), sl15⟩) (c15 : PySem.W.codeIn K cd15 "rows_fault" = true) (k15 : PySem.W.keepIn K (.ref f15) = true)
    {f16 : Addr} {od16 an16 : Option Addr} {sl16 : Array (Option Value)} {oc16 kV16 dc16 pm16 cd16 ct16 : Value} (a16 : PySem.W.nsIn K mainGlobals "sheet_rows" = some (some (.ref f16))) (l16 : K.lookup f16 = some ⟨oc16, od16, .func (PySem.W.fnOf "sheet_rows" "sheet_rows" (defArgs s_sheet_rows) (defBody s_sheet_rows) (defScope s_sheet_rows) .none kV16 dc16 pm16 an16 cd16 ct16), sl16⟩) (c16 : PySem.W.codeIn K cd16 "sheet_rows" = true) (k16 : PySem.W.keepIn K (.ref f16) = true)
    {f17 : Addr} {od17 an17 : Option Addr} {sl17 : Array (Option Value)} {oc17 kV17 dc17 pm17 cd17 ct17 : Value} (a17 : PySem.W.nsIn K mainGlobals "how_far" = some (some (.ref f17))) (l17 : K.lookup f17 = some ⟨oc17, od17, .func (PySem.W.fnOf "how_far" "how_far" (defArgs s_how_far) (defBody s_how_far) (defScope s_how_far) .none kV17 dc17 pm17 an17 cd17 ct17), sl17⟩) (c17 : PySem.W.codeIn K cd17 "how_far" = true) (k17 : PySem.W.keepIn K (.ref f17) = true)
    {f18 : Addr} {od18 an18 : Option Addr} {sl18 : Array (Option Value)} {oc18 kV18 dc18 pm18 cd18 ct18 : Value} (a18 : PySem.W.nsIn K mainGlobals "least_tone" = some (some (.ref f18))) (l18 : K.lookup f18 = some ⟨oc18, od18, .func (PySem.W.fnOf "least_tone" "least_tone" (defArgs s_least_tone) (defBody s_least_tone) (defScope s_least_tone) .none kV18 dc18 pm18 an18 cd18 ct18), sl18⟩) (c18 : PySem.W.codeIn K cd18 "least_tone" = true) (k18 : PySem.W.keepIn K (.ref f18) = true)
    {f19 : Addr} {od19 an19 : Option Addr} {sl19 : Array (Option Value)} {oc19 kV19 dc19 pm19 cd19 ct19 : Value} (a19 : PySem.W.findIn K (.ref C) "find_slant" = some (some (.ref f19))) (i19 : PySem.W.isFn K (.ref f19) = true) (l19 : K.lookup f19 = some ⟨oc19, od19, .func (PySem.W.fnOf "find_slant" "Lattice.find_slant" (defArgs s_m_find_slant) (defBody s_m_find_slant) (defScope s_m_find_slant) .none kV19 dc19 pm19 an19 cd19 ct19), sl19⟩) (c19 : PySem.W.codeIn K cd19 "Lattice.find_slant" = true) (k19 : PySem.W.keepIn K (.ref f19) = true)
    {f20 : Addr} {od20 an20 : Option Addr} {sl20 : Array (Option Value)} {oc20 kV20 dc20 pm20 cd20 ct20 : Value} (a20 : PySem.W.nsIn K mainGlobals "sheet_fault" = some (some (.ref f20))) (l20 : K.lookup f20 = some ⟨oc20, od20, .func (PySem.W.fnOf "sheet_fault" "sheet_fault" (defArgs s_sheet_fault) (defBody s_sheet_fault) (defScope s_sheet_fault) .none kV20 dc20 pm20 an20 cd20 ct20), sl20⟩) (c20 : PySem.W.codeIn K cd20 "sheet_fault" = true) (k20 : PySem.W.keepIn K (.ref f20) = true)
    {f21 : Addr} {od21 an21 : Option Addr} {sl21 : Array (Option Value)} {oc21 kV21 dc21 pm21 cd21 ct21 : Value} (a21 : PySem.W.nsIn K mainGlobals "class_ranks" = some (some (.ref f21))) (l21 : K.lookup f21 = some ⟨oc21, od21, .func (PySem.W.fnOf "class_ranks" "class_ranks" (defArgs s_class_ranks) (defBody s_class_ranks) (defScope s_class_ranks) .none kV21 dc21 pm21 an21 cd21 ct21), sl21⟩) (c21 : PySem.W.codeIn K cd21 "class_ranks" = true) (k21 : PySem.W.keepIn K (.ref f21) = true)
    {f22 : Addr} {od22 an22 : Option Addr} {sl22 : Array (Option Value)} {oc22 kV22 dc22 pm22 cd22 ct22 : Value} (a22 : PySem.W.nsIn K mainGlobals "find_tone" = some (some (.ref f22))) (l22 : K.lookup f22 = some ⟨oc22, od22, .func (PySem.W.fnOf "find_tone" "find_tone" (defArgs s_find_tone) (defBody s_find_tone) (defScope s_find_tone) .none kV22 dc22 pm22 an22 cd22 ct22), sl22⟩) (c22 : PySem.W.codeIn K cd22 "find_tone" = true) (k22 : PySem.W.keepIn K (.ref f22) = true)
    {f23 : Addr} {od23 an23 : Option Addr} {sl23 : Array (Option Value)} {oc23 kV23 dc23 pm23 cd23 ct23 : Value} (a23 : PySem.W.findCls K (.ref CL) (.type "type") "__init__" = some (.val (.ref f23))) (l23 : K.lookup f23 = some ⟨oc23, od23, .func (PySem.W.fnOf "__init__" "Lattice.__init__" (defArgs s_m_init) (defBody s_m_init) (defScope s_m_init) .none kV23 dc23 pm23 an23 cd23 ct23), sl23⟩) (c23 : PySem.W.codeIn K cd23 "Lattice.__init__" = true) (k23 : PySem.W.keepIn K (.ref f23) = true)
    {f24 : Addr} {od24 an24 : Option Addr} {sl24 : Array (Option Value)} {oc24 kV24 dc24 pm24 cd24 ct24 : Value} (a24 : PySem.W.nsIn K mainGlobals "refuse_sheets" = some (some (.ref f24))) (l24 : K.lookup f24 = some ⟨oc24, od24, .func (PySem.W.fnOf "refuse_sheets" "refuse_sheets" (defArgs s_refuse_sheets) (defBody s_refuse_sheets) (defScope s_refuse_sheets) .none kV24 dc24 pm24 an24 cd24 ct24), sl24⟩) (c24 : PySem.W.codeIn K cd24 "refuse_sheets" = true) (k24 : PySem.W.keepIn K (.ref f24) = true)
    {f25 : Addr} {od25 an25 : Option Addr} {sl25 : Array (Option Value)} {oc25 kV25 dc25 pm25 cd25 ct25 : Value} (a25 : PySem.W.findIn K (.ref C) "__init__" = some (some (.ref f25))) (i25 : PySem.W.isFn K (.ref f25) = true) (l25 : K.lookup f25 = some ⟨oc25, od25, .func (PySem.W.fnOf "__init__" "Screen.__init__" (defArgs s_m_initS) (defBody s_m_initS) (defScope s_m_initS) .none kV25 dc25 pm25 an25 cd25 ct25), sl25⟩) (c25 : PySem.W.codeIn K cd25 "Screen.__init__" = true) (k25 : PySem.W.keepIn K (.ref f25) = true)
    {f26 : Addr} {od26 an26 : Option Addr} {sl26 : Array (Option Value)} {oc26 kV26 dc26 pm26 cd26 ct26 : Value} (a26 : PySem.W.nsIn K mainGlobals "tone" = some (some (.ref f26))) (l26 : K.lookup f26 = some ⟨oc26, od26, .func (PySem.W.fnOf "tone" "tone" (defArgs s_tone) (defBody s_tone) (defScope s_tone) .none kV26 dc26 pm26 an26 cd26 ct26), sl26⟩) (c26 : PySem.W.codeIn K cd26 "tone" = true) (k26 : PySem.W.keepIn K (.ref f26) = true)
    (pg : PySem.W.plainGet K C Str.empty = true) (hd : PySem.W.hasDictIn K C = true) (po : PySem.W.plainOver K C = true) (sa : PySem.W.findIn K (.ref C) "__setattr__" = some (some (.builtin "object.__setattr__"))) (mk : PySem.W.makesIn K C = true) (kc : PySem.W.keepIn K (.ref C) = true)
    (q_a : PySem.W.findIn K (.ref C) "a" = some none)
    (q_b : PySem.W.findIn K (.ref C) "b" = some none)
    (q_n : PySem.W.findIn K (.ref C) "n" = some none)
    (q_g : PySem.W.findIn K (.ref C) "g" = some none)
    (q_p : PySem.W.findIn K (.ref C) "p" = some none)
    (q_slant : PySem.W.findIn K (.ref C) "slant" = some none)
    (q_ranks : PySem.W.findIn K (.ref C) "ranks" = some none)
    {tk0 : Tok} (n0 : PySem.W.nsIn K mainGlobals "MOST_CLASSES" = some (some (.int 64 tk0)))
    {tk1 : Tok} (n1 : PySem.W.nsIn K mainGlobals "MOST_SLOPE" = some (some (.int 8 tk1)))
    {tk2 : Tok} (n2 : PySem.W.nsIn K mainGlobals "MOST_WAY" = some (some (.int 2 tk2)))
    {tk3 : Tok} (n3 : PySem.W.nsIn K mainGlobals "MOST_HIGH" = some (some (.int 24 tk3)))
    {tk4 : Tok} (n4 : PySem.W.nsIn K mainGlobals "MOST_WIDE" = some (some (.int 24 tk4)))
    {tk5 : Tok} (n5 : PySem.W.nsIn K mainGlobals "MOST_BYTES" = some (some (.int 4096 tk5)))
    (z0 : PySem.W.nsIn K mainGlobals "abs" = some none)
    (z1 : PySem.W.nsIn K mainGlobals "min" = some none)
    (z2 : PySem.W.nsIn K mainGlobals "enumerate" = some none)
    (z3 : PySem.W.nsIn K mainGlobals "sorted" = some none)
    (z4 : PySem.W.nsIn K mainGlobals "range" = some none)
    (z5 : PySem.W.nsIn K mainGlobals "max" = some none)
    (z6 : PySem.W.nsIn K mainGlobals "len" = some none)
    : ∃ fd : FuncData, (∀ (s : Shared) (us : List Value), us.length = (["a", "b", "way", "s"] : List Str).length → BindsTo s fd ⟨us, []⟩ ((["a", "b", "way", "s"] : List Str).zip us)) ∧ ∀ base : Heap, K.In base → base.Ns mainGlobals mg → FnOk P w K mg base CX0 7 fa fd ["a", "b", "way", "s"] (sp_tone K) := by
  have e := hfa.symm.trans (PySem.W.mg_of X G a26)
  cases e
  have T : Txt K mg C := ⟨⟨⟨pg, hd, po, sa⟩, q_a, q_b, q_n, q_g, q_p, q_slant, q_ranks⟩, PySem.W.mg_of X G aC, ⟨_, PySem.W.mg_of X G n0⟩, ⟨_, PySem.W.mg_of X G n1⟩, ⟨_, PySem.W.mg_of X G n2⟩, ⟨_, PySem.W.mg_of X G n3⟩, ⟨_, PySem.W.mg_of X G n4⟩, ⟨_, PySem.W.mg_of X G n5⟩, PySem.W.mg_none_of X G z0, PySem.W.mg_none_of X G z1, PySem.W.mg_none_of X G z2, PySem.W.mg_none_of X G z3, PySem.W.mg_none_of X G z4, PySem.W.mg_none_of X G z5, PySem.W.mg_none_of X G z6⟩
  have F0 := fun_mk (st := s_answer) l0 c0 k0
  have b0 := F0.binds (ps := ["number", "told", "numbers"]) fun _ _ _ _ _ _ us hl => match us, hl with | [_, _, _], _ => rfl
  have F1 := fun_mk (st := s_common_divisor) l1 c1 k1
  have b1 := F1.binds (ps := ["a", "b"]) fun _ _ _ _ _ _ us hl => match us, hl with | [_, _], _ => rfl
  have F2 := fun_mk (st := s_full_row) l2 c2 k2
  have b2 := F2.binds (ps := ["w"]) fun _ _ _ _ _ _ us hl => match us, hl with | [_], _ => rfl
  have F3 := fun_mk (st := s_is_lattice) l3 c3 k3
  have b3 := F3.binds (ps := ["a", "b"]) fun _ _ _ _ _ _ us hl => match us, hl with | [_, _], _ => rfl
  have F4 := fun_mk (st := s_m_across) l4 c4 k4
  have b4 := F4.binds (ps := ["self", "x", "y"]) fun _ _ _ _ _ _ us hl => match us, hl with | [_, _, _], _ => rfl
  have F5 := fun_mk (st := s_m_along) l5 c5 k5
  have b5 := F5.binds (ps := ["self", "x", "y"]) fun _ _ _ _ _ _ us hl => match us, hl with | [_, _, _], _ => rfl
  have F6 := fun_mk (st := s_m_class_at) l6 c6 k6
  have b6 := F6.binds (ps := ["self", "x", "y"]) fun _ _ _ _ _ _ us hl => match us, hl with | [_, _, _], _ => rfl
  have F7 := fun_mk (st := s_m_class_place) l7 c7 k7
  have b7 := F7.binds (ps := ["self", "number"]) fun _ _ _ _ _ _ us hl => match us, hl with | [_, _], _ => rfl
  have F8 := fun_mk (st := s_row_dots) l8 c8 k8
  have b8 := F8.binds (ps := ["w", "row"]) fun _ _ _ _ _ _ us hl => match us, hl with | [_, _], _ => rfl
  have F9 := fun_mk (st := s_row_size) l9 c9 k9
  have b9 := F9.binds (ps := ["w"]) fun _ _ _ _ _ _ us hl => match us, hl with | [_], _ => rfl
  have F10 := fun_mk (st := s_corner_steps) l10 c10 k10
  have b10 := F10.binds (ps := ["lattice", "x", "y"]) fun _ _ _ _ _ _ us hl => match us, hl with | [_, _, _], _ => rfl
  have F11 := fun_mk (st := s_is_screen) l11 c11 k11
  have b11 := F11.binds (ps := ["a", "b", "way"]) fun _ _ _ _ _ _ us hl => match us, hl with | [_, _, _], _ => rfl
  have F12 := fun_mk (st := s_m_has_place) l12 c12 k12
  have b12 := F12.binds (ps := ["self", "x", "y"]) fun _ _ _ _ _ _ us hl => match us, hl with | [_, _, _], _ => rfl
  have F13 := fun_mk (st := s_m_rank_at) l13 c13 k13
  have b13 := F13.binds (ps := ["self", "x", "y"]) fun _ _ _ _ _ _ us hl => match us, hl with | [_, _, _], _ => rfl
  have F14 := fun_mk (st := s_refusal) l14 c14 k14
  have b14 := F14.binds (ps := ["number"]) fun _ _ _ _ _ _ us hl => match us, hl with | [_], _ => rfl
  have F15 := fun_mk (st := s_rows_fault) l15 c15 k15
  have b15 := F15.binds (ps := ["a", "w", "h"]) fun _ _ _ _ _ _ us hl => match us, hl with | [_, _, _], _ => rfl
  have F16 := fun_mk (st := s_sheet_rows) l16 c16 k16
  have b16 := F16.binds (ps := ["a"]) fun _ _ _ _ _ _ us hl => match us, hl with | [_], _ => rfl
  have F17 := fun_mk (st := s_how_far) l17 c17 k17
  have b17 := F17.binds (ps := ["lattice", "way", "x", "y"]) fun _ _ _ _ _ _ us hl => match us, hl with | [_, _, _, _], _ => rfl
  have F18 := fun_mk (st := s_least_tone) l18 c18 k18
  have b18 := F18.binds (ps := ["screen", "x", "y", "rows"]) fun _ _ _ _ _ _ us hl => match us, hl with | [_, _, _, _], _ => rfl
  have F19 := fun_mk (st := s_m_find_slant) l19 c19 k19
  have b19 := F19.binds (ps := ["self"]) fun _ _ _ _ _ _ us hl => match us, hl with | [_], _ => rfl
  have F20 := fun_mk (st := s_sheet_fault) l20 c20 k20
  have b20 := F20.binds (ps := ["a"]) fun _ _ _ _ _ _ us hl => match us, hl with | [_], _ => rfl
  have F21 := fun_mk (st := s_class_ranks) l21 c21 k21
  have b21 := F21.binds (ps := ["lattice", "way"]) fun _ _ _ _ _ _ us hl => match us, hl with | [_, _], _ => rfl
  have F22 := fun_mk (st := s_find_tone) l22 c22 k22
  have b22 := F22.binds (ps := ["screen", "rows"]) fun _ _ _ _ _ _ us hl => match us, hl with | [_, _], _ => rfl
  have F23 := fun_mk (st := s_m_init) l23 c23 k23
  have b23 := F23.binds (ps := ["self", "a", "b"]) fun _ _ _ _ _ _ us hl => match us, hl with | [_, _, _], _ => rfl
  have F24 := fun_mk (st := s_refuse_sheets) l24 c24 k24
  have b24 := F24.binds (ps := ["sheets"]) fun _ _ _ _ _ _ us hl => match us, hl with | [_], _ => rfl
  have F25 := fun_mk (st := s_m_initS) l25 c25 k25
  have b25 := F25.binds (ps := ["self", "a", "b", "way"]) fun _ _ _ _ _ _ us hl => match us, hl with | [_, _, _, _], _ => rfl
  have F26 := fun_mk (st := s_tone) l26 c26 k26
  refine ⟨PySem.W.fnOf "tone" "tone" (defArgs s_tone) (defBody s_tone) (defScope s_tone) .none kV26 dc26 pm26 an26 cd26 ct26, fun s us hu => match us, hu with | [_, _, _, _], _ => .of_eq rfl, fun base _ _ => ?_⟩
  have h_answer : Has P w K mg base 1 "answer" ["number", "told", "numbers"] (sp_answer K) := ⟨_, _, ok_answer F0 T , b0, k0, PySem.W.mg_of X G a0⟩
  have h_common_divisor : Has P w K mg base 1 "common_divisor" ["a", "b"] (sp_common_divisor K) := ⟨_, _, ok_common_divisor F1 T , b1, k1, PySem.W.mg_of X G a1⟩
  have h_full_row : Has P w K mg base 1 "full_row" ["w"] (sp_full_row K) := ⟨_, _, ok_full_row F2 T , b2, k2, PySem.W.mg_of X G a2⟩
  have h_is_lattice : Has P w K mg base 1 "is_lattice" ["a", "b"] (sp_is_lattice K) := ⟨_, _, ok_is_lattice F3 T , b3, k3, PySem.W.mg_of X G a3⟩
  have h_m_across : HasM P w K mg base 1 C "across" ["self", "x", "y"] (sp_m_across K C) := ⟨_, _, ok_m_across F4 T , b4, ⟨a4, i4, k4⟩⟩
  have h_m_along : HasM P w K mg base 1 C "along" ["self", "x", "y"] (sp_m_along K C) := ⟨_, _, ok_m_along F5 T , b5, ⟨a5, i5, k5⟩⟩
  have h_m_class_at : HasM P w K mg base 1 C "class_at" ["self", "x", "y"] (sp_m_class_at K C) := ⟨_, _, ok_m_class_at F6 T , b6, ⟨a6, i6, k6⟩⟩
  have h_m_class_place : HasM P w K mg base 1 C "class_place" ["self", "number"] (sp_m_class_place K C) := ⟨_, _, ok_m_class_place F7 T , b7, ⟨a7, i7, k7⟩⟩
  have h_row_dots : Has P w K mg base 1 "row_dots" ["w", "row"] (sp_row_dots K) := ⟨_, _, ok_row_dots F8 T , b8, k8, PySem.W.mg_of X G a8⟩
  have h_row_size : Has P w K mg base 1 "row_size" ["w"] (sp_row_size K) := ⟨_, _, ok_row_size F9 T , b9, k9, PySem.W.mg_of X G a9⟩
  have h_corner_steps : Has P w K mg base 2 "corner_steps" ["lattice", "x", "y"] (sp_corner_steps K C) := ⟨_, _, ok_corner_steps F10 T h_m_across h_m_along, b10, k10, PySem.W.mg_of X G a10⟩
  have h_is_screen : Has P w K mg base 2 "is_screen" ["a", "b", "way"] (sp_is_screen K) := ⟨_, _, ok_is_screen F11 T h_is_lattice, b11, k11, PySem.W.mg_of X G a11⟩
  have h_m_has_place : HasM P w K mg base 2 C "has_place" ["self", "x", "y"] (sp_m_has_place K C) := ⟨_, _, ok_m_has_place F12 T h_m_across h_m_along, b12, ⟨a12, i12, k12⟩⟩
  have h_m_rank_at : HasM P w K mg base 2 C "rank_at" ["self", "x", "y"] (sp_m_rank_at K C) := ⟨_, _, ok_m_rank_at F13 T h_m_class_at, b13, ⟨a13, i13, k13⟩⟩
  have h_refusal : Has P w K mg base 2 "refusal" ["number"] (sp_refusal K) := ⟨_, _, ok_refusal F14 T h_answer, b14, k14, PySem.W.mg_of X G a14⟩
  have h_rows_fault : Has P w K mg base 2 "rows_fault" ["a", "w", "h"] (sp_rows_fault K) := ⟨_, _, ok_rows_fault F15 T h_full_row h_row_size, b15, k15, PySem.W.mg_of X G a15⟩
  have h_sheet_rows : Has P w K mg base 2 "sheet_rows" ["a"] (sp_sheet_rows K) := ⟨_, _, ok_sheet_rows F16 T h_row_size, b16, k16, PySem.W.mg_of X G a16⟩
  have h_how_far : Has P w K mg base 3 "how_far" ["lattice", "way", "x", "y"] (sp_how_far K C) := ⟨_, _, ok_how_far F17 T h_corner_steps h_m_across, b17, k17, PySem.W.mg_of X G a17⟩
  have h_least_tone : Has P w K mg base 3 "least_tone" ["screen", "x", "y", "rows"] (sp_least_tone K C) := ⟨_, _, ok_least_tone F18 T h_m_rank_at, b18, k18, PySem.W.mg_of X G a18⟩
  have h_m_find_slant : HasM P w K mg base 3 C "find_slant" ["self"] (sp_m_find_slant K C) := ⟨_, _, ok_m_find_slant F19 T h_m_has_place, b19, ⟨a19, i19, k19⟩⟩
  have h_sheet_fault : Has P w K mg base 3 "sheet_fault" ["a"] (sp_sheet_fault K) := ⟨_, _, ok_sheet_fault F20 T h_rows_fault, b20, k20, PySem.W.mg_of X G a20⟩
  have h_class_ranks : Has P w K mg base 4 "class_ranks" ["lattice", "way"] (sp_class_ranks K C) := ⟨_, _, ok_class_ranks F21 T h_how_far h_m_class_place, b21, k21, PySem.W.mg_of X G a21⟩
  have h_find_tone : Has P w K mg base 4 "find_tone" ["screen", "rows"] (sp_find_tone K C) := ⟨_, _, ok_find_tone F22 T h_least_tone h_m_class_place, b22, k22, PySem.W.mg_of X G a22⟩
  have h_m_init : HasL P w K mg base 4 "Lattice" "__init__" ["self", "a", "b"] (sp_m_init K C) := ⟨_, CL, _, _, ok_m_init F23 T h_m_find_slant h_common_divisor, b23, k23, PySem.W.mg_of X G aL, rL, gL, a23⟩
  have h_refuse_sheets : Has P w K mg base 4 "refuse_sheets" ["sheets"] (sp_refuse_sheets K) := ⟨_, _, ok_refuse_sheets F24 T h_answer h_sheet_fault h_refusal, b24, k24, PySem.W.mg_of X G a24⟩
  have h_m_initS : HasI P w K mg base 5 C ["self", "a", "b", "way"] (sp_m_initS K C) := ⟨_, _, ok_m_initS F25 T h_class_ranks h_m_init, b25, ⟨mk, a25, i25, kc⟩⟩
  exact ok_tone F26 T h_answer h_refusal h_find_tone h_sheet_rows h_row_dots h_m_initS h_is_screen h_refuse_sheets
end Pl
open PySem PySem.W PyProof.Rows
set_option maxRecDepth 100000 in
set_option maxHeartbeats 0 in
theorem PySem.Challenge.cw_platehalldesk_s18_tone_holds : PySem.Challenge.rw_platehalldesk_s18_tone.Holds := by
  w_on; k_headS; (case hw => exact ⟨[.int 0, .int 0, .int 0, .list []], by decide +kernel, by decide +kernel⟩)
  k_fillS
  refine L2.walk_specK (r := PySem.Challenge.rw_platehalldesk_s18_tone) (k := 7) (CX := L2.CX0) (ps := ["a", "b", "way", "s"]) (sp := Pl.sp_tone) (by decide +kernel) rfl rfl ⟨rfl, by decide, by decide⟩ (fun w h Y => PySem.W.kIn_of Y) ?F ?S (fun _ _ _ _ z => z)
  case F =>
    intro w mg fa h Y KX G hmg
    refine' Pl.all_mk KX G hmg ?aC ?aL ?rL ?gL ?a0 ?l0 ?c0 ?k0 ?a1 ?l1 ?c1 ?k1 ?a2 ?l2 ?c2 ?k2 ?a3 ?l3 ?c3 ?k3 ?a4 ?i4 ?l4 ?c4 ?k4 ?a5 ?i5 ?l5 ?c5 ?k5 ?a6 ?i6 ?l6 ?c6 ?k6 ?a7 ?i7 ?l7 ?c7 ?k7 ?a8 ?l8 ?c8 ?k8 ?a9 ?l9 ?c9 ?k9 ?a10 ?l10 ?c10 ?k10 ?a11 ?l11 ?c11 ?k11 ?a12 ?i12 ?l12 ?c12 ?k12 ?a13 ?i13 ?l13 ?c13 ?k13 ?a14 ?l14 ?c14 ?k14 ?a15 ?l15 ?c15 ?k15 ?a16 ?l16 ?c16 ?k16 ?a17 ?l17 ?c17 ?k17 ?a18 ?l18 ?c18 ?k18 ?a19 ?i19 ?l19 ?c19 ?k19 ?a20 ?l20 ?c20 ?k20 ?a21 ?l21 ?c21 ?k21 ?a22 ?l22 ?c22 ?k22 ?a23 ?l23 ?c23 ?k23 ?a24 ?l24 ?c24 ?k24 ?a25 ?i25 ?l25 ?c25 ?k25 ?a26 ?l26 ?c26 ?k26 ?pg ?hd ?po ?sa ?mk ?kc ?q_a ?q_b ?q_n ?q_g ?q_p ?q_slant ?q_ranks ?n0 ?n1 ?n2 ?n3 ?n4 ?n5 ?z0 ?z1 ?z2 ?z3 ?z4 ?z5 ?z6
    (case aC => k_is)
    (case aL => k_is)
    (case rL => k_is)
    (case gL => k_is)
    (case a0 => k_is)
    (case l0 => k_is)
    (case c0 => k_is)
    (case k0 => k_is)
    (case a1 => k_is)
    (case l1 => k_is)
    (case c1 => k_is)
    (case k1 => k_is)
    (case a2 => k_is)
    (case l2 => k_is)
    (case c2 => k_is)
    (case k2 => k_is)
    (case a3 => k_is)
    (case l3 => k_is)
    (case c3 => k_is)
    (case k3 => k_is)
    (case a4 => k_is)
    (case i4 => k_is)
    (case l4 => k_is)
    (case c4 => k_is)
    (case k4 => k_is)
    (case a5 => k_is)
    (case i5 => k_is)
    (case l5 => k_is)
    (case c5 => k_is)
    (case k5 => k_is)
    (case a6 => k_is)
    (case i6 => k_is)
    (case l6 => k_is)
    (case c6 => k_is)
    (case k6 => k_is)
    (case a7 => k_is)
    (case i7 => k_is)
    (case l7 => k_is)
    (case c7 => k_is)
    (case k7 => k_is)
    (case a8 => k_is)
    (case l8 => k_is)
    (case c8 => k_is)
    (case k8 => k_is)
    (case a9 => k_is)
    (case l9 => k_is)
    (case c9 => k_is)
    (case k9 => k_is)
    (case a10 => k_is)
    (case l10 => k_is)
    (case c10 => k_is)
    (case k10 => k_is)
    (case a11 => k_is)
    (case l11 => k_is)
    (case c11 => k_is)
    (case k11 => k_is)
    (case a12 => k_is)
    (case i12 => k_is)
    (case l12 => k_is)
    (case c12 => k_is)
    (case k12 => k_is)
    (case a13 => k_is)
    (case i13 => k_is)
    (case l13 => k_is)
    (case c13 => k_is)
    (case k13 => k_is)
    (case a14 => k_is)
    (case l14 => k_is)
    (case c14 => k_is)
    (case k14 => k_is)
    (case a15 => k_is)
    (case l15 => k_is)
    (case c15 => k_is)
    (case k15 => k_is)
    (case a16 => k_is)
    (case l16 => k_is)
    (case c16 => k_is)
    (case k16 => k_is)
    (case a17 => k_is)
    (case l17 => k_is)
    (case c17 => k_is)
    (case k17 => k_is)
    (case a18 => k_is)
    (case l18 => k_is)
    (case c18 => k_is)
    (case k18 => k_is)
    (case a19 => k_is)
    (case i19 => k_is)
    (case l19 => k_is)
    (case c19 => k_is)
    (case k19 => k_is)
    (case a20 => k_is)
    (case l20 => k_is)
    (case c20 => k_is)
    (case k20 => k_is)
    (case a21 => k_is)
    (case l21 => k_is)
    (case c21 => k_is)
    (case k21 => k_is)
    (case a22 => k_is)
    (case l22 => k_is)
    (case c22 => k_is)
    (case k22 => k_is)
    (case a23 => k_is)
    (case l23 => k_is)
    (case c23 => k_is)
    (case k23 => k_is)
    (case a24 => k_is)
    (case l24 => k_is)
    (case c24 => k_is)
    (case k24 => k_is)
    (case a25 => k_is)
    (case i25 => k_is)
    (case l25 => k_is)
    (case c25 => k_is)
    (case k25 => k_is)
    (case a26 => k_is)
    (case l26 => k_is)
    (case c26 => k_is)
    (case k26 => k_is)
    (case pg => k_is)
    (case hd => k_is)
    (case po => k_is)
    (case sa => k_is)
    (case mk => k_is)
    (case kc => k_is)
    (case q_a => k_is)
    (case q_b => k_is)
    (case q_n => k_is)
    (case q_g => k_is)
    (case q_p => k_is)
    (case q_slant => k_is)
    (case q_ranks => k_is)
    (case n0 => k_is)
    (case n1 => k_is)
    (case n2 => k_is)
    (case n3 => k_is)
    (case n4 => k_is)
    (case n5 => k_is)
    (case z0 => k_is)
    (case z1 => k_is)
    (case z2 => k_is)
    (case z3 => k_is)
    (case z4 => k_is)
    (case z5 => k_is)
    (case z6 => k_is)
  case S =>
    intro K H xs a hO hwi hask hx
    cases hx with
    | cons h0 hx =>
      cases h0
      cases hx with
      | cons h1 hx =>
        cases h1
        cases hx with
        | cons h2 hx =>
          cases h2
          cases hx with
          | cons h3 hx =>
            cases h3 with
            | lst hs3 ha3 =>
              have e3 := L2.ints_dw (a.2.2.2.1) _ ha3
              subst e3
              cases hx
              have q : (Codec.inInt 0 18446744073709551615 (a.1) && (Codec.inInt 0 18446744073709551615 (a.2.1) && (Codec.inInt 0 18446744073709551615 (a.2.2.1) && ((Codec.inLen 0 5000 (a.2.2.2.1) && (a.2.2.2.1).all (Codec.inInt 0 255)) && true)))) = true := hwi
              obtain ⟨f0, q⟩ := Bool.and_eq_true_iff.mp q
              have z0 := Pl.int_in f0
              obtain ⟨f1, q⟩ := Bool.and_eq_true_iff.mp q
              have z1 := Pl.int_in f1
              obtain ⟨f2, q⟩ := Bool.and_eq_true_iff.mp q
              have z2 := Pl.int_in f2
              obtain ⟨f3, q⟩ := Bool.and_eq_true_iff.mp q
              rw [Pl.map_bytes (Pl.bytes_in f3)] at hs3
              exact ⟨(a.1).toNat, (a.2.1).toNat, (a.2.2.1).toNat, _, SheetsNeutral.text (a.2.2.2.1), by rw [← z0, ← z1, ← z2], hs3, Pl.gives_end⟩
#print axioms PySem.Challenge.cw_platehalldesk_s18_tone_holds
