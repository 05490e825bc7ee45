import PyProof.Rows.All
import Wide.All
import OpenK.AllK
import Wide.FinOn
import PyProof.EqAt
import PyProof.EqKinds
import PyProof.TupleCall
import KE.BitLaws
import KE.KMinKey
import Open.SpecLaws
import KE.OsHead
import KE.OsGo
import PySem.Challenge.RW_friendgraph_s01_answers
section
set_option Elab.async false
set_option linter.all false
set_option maxRecDepth 100000
namespace L2
open PySem PySem.Spec PyProof.Rows

/-- a key: an int or a str -/
abbrev Key := Sum Int Str
def keyIs : Key → Value → Bool
  | .inl k, v => Value.isInt k v
  | .inr x, v => Value.isStrOf x v
def keyH (w : World) : Key → Int
  | .inl k => hashInt k
  | .inr x => hashStr w x
theorem keyIs_shape : ∀ {k : Key} {v : Value}, keyIs k v = true → (∃ i t, k = Sum.inl i ∧ v = Value.int i t) ∨ (∃ x t, k = Sum.inr x ∧ v = Value.str x t)
  | .inl i, v, h => by
    obtain ⟨t, e⟩ := Value.isInt_shape (k := i) (v := v) h
    exact .inl ⟨i, t, rfl, e⟩
  | .inr x, v, h => by
    obtain ⟨t, e⟩ := Value.isStrOf_shape (x := x) (v := v) h
    exact .inr ⟨x, t, rfl, e⟩
theorem key_ll (a b : Int) : decide ((Sum.inl a : Key) = Sum.inl b) = (a == b) := by
  by_cases e : a = b
  · subst e; simp
  · have h : ¬ (Sum.inl a : Key) = Sum.inl b := fun q => e (Sum.inl.inj q)
    rw [decide_eq_false h]
    exact (beq_eq_false_iff_ne.mpr e).symm
theorem key_rr (a b : Str) : decide ((Sum.inr a : Key) = Sum.inr b) = decide (a = b) := by
  by_cases e : a = b
  · subst e; simp
  · have h : ¬ (Sum.inr a : Key) = Sum.inr b := fun q => e (Sum.inr.inj q)
    rw [decide_eq_false h, decide_eq_false e]
theorem key_lr (a : Int) (b : Str) : decide ((Sum.inl a : Key) = Sum.inr b) = false := decide_eq_false (fun q => nomatch q)
theorem key_rl (a : Str) (b : Int) : decide ((Sum.inr a : Key) = Sum.inl b) = false := decide_eq_false (fun q => nomatch q)

def mixKind (prog : Program) (w : World) : PySem.KeyKind prog w Key where
  is := keyIs
  hash := keyH w
  inj := fun v a b ha hb => by
    rcases keyIs_shape ha with ⟨i, t, rfl, rfl⟩ | ⟨x, t, rfl, rfl⟩
    · rcases keyIs_shape hb with ⟨j, u, rfl, e⟩ | ⟨y, u, rfl, e⟩
      · injection e with e1 _; rw [e1]
      · exact nomatch e
    · rcases keyIs_shape hb with ⟨j, u, rfl, e⟩ | ⟨y, u, rfl, e⟩
      · exact nomatch e
      · injection e with e1 _; rw [e1]
  byValue := fun k v h => by
    rcases keyIs_shape h with ⟨i, t, rfl, rfl⟩ | ⟨x, t, rfl, rfl⟩ <;> rfl
  pyHash := fun hv h => by
    rcases keyIs_shape hv with ⟨i, t, rfl, rfl⟩ | ⟨x, t, rfl, rfl⟩
    · exact wpAny_pyHash_int h
    · exact wpAny_pyHash_str h
  eqBool := fun hu hv h => by
    rcases keyIs_shape hu with ⟨i, t, rfl, rfl⟩ | ⟨x, t, rfl, rfl⟩
    · rcases keyIs_shape hv with ⟨j, u, rfl, rfl⟩ | ⟨y, u, rfl, rfl⟩
      · rw [key_ll] at h; exact wpAny_eqBool_int h
      · rw [key_lr] at h; exact SeqAt.EqAt.int_str i t y u _ _ _ _ h
    · rcases keyIs_shape hv with ⟨j, u, rfl, rfl⟩ | ⟨y, u, rfl, rfl⟩
      · rw [key_rl] at h; exact SeqAt.EqAt.str_int x t j u _ _ _ _ h
      · rw [key_rr] at h; exact wpAny_eqBool_str h
  «strs» := fun k x t v h => by
    rcases keyIs_shape h with ⟨i, u, rfl, e⟩ | ⟨y, u, rfl, e⟩
    · exact nomatch e
    · injection e with e1 _
      subst e1
      cases v <;> rfl

end L2

namespace L2
open PySem PySem.Spec PyProof.Rows

/-- a value, without the heap -/
inductive V where
  | non | bl (b : Bool) | int (i : Int) | str (x : Str) | byt (b : Array UInt8) | flt (b : UInt64) | ref (a : Addr) | ty (n : String)
  deriving DecidableEq

def RelV : V → Value → Prop
  | .non, u => u = Value.none
  | .bl b, u => u = Value.bool b
  | .int i, u => ∃ t, u = Value.int i t
  | .str x, u => ∃ t, u = Value.str x t
  | .byt b, u => ∃ t, u = Value.bytes b t
  | .flt b, u => ∃ t, u = Value.float b t
  | .ref a, u => u = Value.ref a
  | .ty n, u => u = Value.type n

abbrev Vals : List V → List Value → Prop := Paired RelV
theorem Vals.length {xs : List V} {us : List Value} (r : Vals xs us) : xs.length = us.length := Paired.length r
theorem Vals.get : ∀ {xs : List V} {us : List Value} {i : Nat} {x : V}, Vals xs us → xs[i]? = some x → ∃ u, us[i]? = some u ∧ RelV x u
  | _, _, _, _, .nil, e => by simp at e
  | _, _, 0, _, .cons r _, e => by simp at e; subst e; exact ⟨_, rfl, r⟩
  | _, _, i + 1, x, .cons _ t, e => by
    obtain ⟨u, h1, h2⟩ := Vals.get (i := i) (x := x) t (by simpa using e)
    exact ⟨u, by simpa using h1, h2⟩
theorem Vals.set {x : V} {u : Value} (r : RelV x u) : ∀ {xs : List V} {us : List Value} (i : Nat), Vals xs us → Vals (xs.set i x) (us.set i u)
  | _, _, _, .nil => .nil
  | _, _, 0, .cons _ t => .cons r t
  | _, _, i + 1, .cons q t => .cons q (Vals.set r i t)
theorem Vals.append : ∀ {xs ys : List V} {us ws : List Value}, Vals xs us → Vals ys ws → Vals (xs ++ ys) (us ++ ws)
  | _, _, _, _, .nil, s => s
  | _, _, _, _, .cons r t, s => .cons r (Vals.append t s)
def RelO : Option V → Option Value → Prop
  | some v, some u => RelV v u
  | none, none => True
  | _, _ => False
def KV {κ : Type} : List (κ × V) → List (κ × Value) → Prop := Paired fun (p : κ × V) (q : κ × Value) => p.1 = q.1 ∧ RelV p.2 q.2

/-- a key of a dict (00_mix): an int or a text -/
def kV : Key → V
  | .inl i => .int i
  | .inr x => .str x

/-- what stands at a tracked address -/
inductive HO where
  /-- a list -/
  | lst (xs : List V)
  /-- a tuple (never changes) -/
  | tup (xs : List V)
  /-- a dict whose keys are ints and texts; one whose keys are tuples of ints and texts (the empty one is both) -/
  | dK (kvs : List (Key × V)) | dT (kvs : List (List Key × V))
  /-- a set of ints: its members, its size -/
  | set (S : Int → Bool) (n : Nat)
  /-- an instance of the class at C, its dict at dx, its attributes -/
  | ins (C dx : Addr) (fs : List (Str × V))
  /-- the dict of the instance at x -/
  | own (x : Addr)
  /-- the dict of an exception -/
  | xd (fs : List (Str × V))
  /-- a bound method, f of x -/
  | met (f x : Addr)
  /-- a range object lo, lo + 1, .. below hi -/
  | rng (lo hi : Int)
  /-- a thing that is known to the object (the script; a dict while a loop walks it): read, never written while it is so -/
  | frz (o : Obj) (u : HO)
  /-- a code object's table -/
  | tbl (ps : Array Value)
  /-- any other thing, by what is true of its one object (a def of one's own: SetO a S n := HO.ext fun h => ..) -/
  | ext (φ : Heap → Prop)

abbrev Hp := Addr → Option HO
def upd (H : Hp) (a : Addr) (o : HO) : Hp := fun b => if b = a then some o else H b
theorem upd_same {H : Hp} {a : Addr} {o : HO} : upd H a o a = some o := by unfold upd; rw [if_pos rfl]
theorem upd_ne {H : Hp} {a b : Addr} {o : HO} (h : b ≠ a) : upd H a o b = H b := by unfold upd; rw [if_neg h]
theorem upd_upd {H : Hp} {a : Addr} {o u : HO} : upd (upd H a o) a u = upd H a u := by
  funext b; unfold upd; split <;> rfl
/-- two objects of different content stand apart -/
theorem ne_of {H : Hp} {a b : Addr} {o u : HO} (h : H a = some o) (h' : H b = some u) (d : o ≠ u) : a ≠ b := by
  intro e; subst e; rw [h] at h'; exact d (Option.some.inj h')
theorem ne_of_none {H : Hp} {a b : Addr} {o : HO} (h : H a = some o) (h' : H b = none) : a ≠ b := by
  intro e; subst e; rw [h] at h'; cases h'

section
variable (P : Program) (w : World)
def ObjOk (H : Hp) (h : Heap) (a : Addr) : HO → Prop
  | .lst xs => xs.length ≤ sizeLine ∧ ∃ (its : List Value) (n : Nat), Vals xs its ∧ h.get? a = some { cls := .type "list", data := .seq its.toArray n }
  | .tup xs => xs.length ≤ sizeLine ∧ ∃ its : List Value, Vals xs its ∧ IsTup h a its.toArray
  | .dK kvs => kvs.length ≤ sizeLine ∧ (a == sysModules) = false ∧ ∃ vs, KV kvs vs ∧ h.DictOf (mixKind P w) a vs
  | .dT kvs => kvs.length ≤ sizeLine ∧ (a == sysModules) = false ∧ ∃ xs : List (List Key × Addr × Value),
      Paired (fun (p : List Key × V) (q : List Key × Addr × Value) => p.1 = q.1 ∧ H q.2.1 = some (.tup (p.1.map kV)) ∧ RelV p.2 q.2.2) kvs xs ∧
      ∃ o es ep, h.get? a = some o ∧ o.ExactDict ∧ o.data = .dict es ep ∧ es.toList = xs.map (entryOfKey (tupleKind (mixKind P w))) ∧ (xs.map (·.1)).Nodup
  | .set S n => h.SetOf (intKind P w) a S n
  | .ins C dx fs => H dx = some (.own a) ∧ fs.length ≤ 1000 ∧ dx ≠ a ∧ h.get? a = some (PySem.W.instObj C dx) ∧
      ∃ mA, h.Ns1 dx mA ∧ (∀ f, RelO (fs.lookup f) (mA f)) ∧ PySem.Within mA (fs.map (·.1))
  | .own _ => ∃ o, h.get? a = some o
  | .xd fs => ∃ mA, h.Ns1 a mA ∧ ∀ f, RelO (fs.lookup f) (mA f)
  | .rng lo hi => ∃ t u v, h.get? a = some { cls := .type "range", data := .fields #[.int lo t, .int hi u, .int 1 v] }
  | .frz o u => h.get? a = some o ∧ ObjOk H h a u
  | .tbl ps => h.get? a = some { cls := .none, data := .fields ps }
  | .met f x => h.get? a = some (PySem.W.methodObj (.ref f) (.ref x))
  | .ext φ => φ h ∧ (∃ o, h.get? a = some o) ∧ ∀ h1 h2 : Heap, φ h1 → (∀ o, h1.get? a = some o → h2.get? a = some o) → φ h2
/-- the abstract heap is held -/
def HOk (H : Hp) (h : Heap) : Prop := ∀ a o, H a = some o → ObjOk P w H h a o
end

section
variable {P : Program} {w : World} {H H' : Hp} {h h' : Heap} {a : Addr} {o : HO}
theorem ObjOk.lt (x : ObjOk P w H h a o) : a < h.objs.size := by
  cases o with
  | lst xs => obtain ⟨_, _, _, _, e⟩ := x; exact Heap.lt_size e
  | tup xs => obtain ⟨_, _, _, p⟩ := x; exact p.lt
  | dK kvs => obtain ⟨_, _, _, _, o, _, _, e, _⟩ := x; exact Heap.lt_size e
  | dT kvs => obtain ⟨_, _, _, _, o, _, _, e, _⟩ := x; exact Heap.lt_size e
  | set S n => obtain ⟨o, _, _, _, e, _⟩ := x; exact Heap.lt_size e
  | ins C dx fs => obtain ⟨_, _, _, e, _⟩ := x; exact Heap.lt_size e
  | own y => obtain ⟨_, e⟩ := x; exact Heap.lt_size e
  | xd fs => obtain ⟨_, ⟨_, _, _, e, _⟩, _⟩ := x; exact Heap.lt_size e
  | rng lo hi => obtain ⟨_, _, _, e⟩ := x; exact Heap.lt_size e
  | frz ob u => obtain ⟨e, _⟩ := x; exact Heap.lt_size e
  | tbl ps => exact Heap.lt_size (show h.get? a = some _ from x)
  | met f y => exact Heap.lt_size (show h.get? a = some _ from x)
  | ext φ => obtain ⟨_, ⟨_, e⟩, _⟩ := x; exact Heap.lt_size e
theorem Paired.mapP {α β : Type} {F G : α → β → Prop} : ∀ {l₁ : List α} {l₂ : List β}, Paired F l₁ l₂ → (∀ a b, F a b → G a b) → Paired G l₁ l₂
  | _, _, .nil, _ => .nil
  | _, _, .cons r t, f => .cons (f _ _ r) (Paired.mapP t f)
/-- what an object's description leans on: its own object, its own dict, the tuples -/
theorem ObjOk.stay (x : ObjOk P w H h a o) (k : ∀ b u, (b = a ∨ H b = some (.own a)) → h.get? b = some u → h'.get? b = some u)
    (ho : ∀ b, H b = some (.own a) → H' b = some (.own a)) (ht : ∀ b xs, H b = some (.tup xs) → H' b = some (.tup xs)) : ObjOk P w H' h' a o := by
  induction o with
  | lst xs => obtain ⟨z, its, n, r, e⟩ := x; exact ⟨z, its, n, r, k _ _ (.inl rfl) e⟩
  | tup xs => obtain ⟨z, its, r, ob, e, c⟩ := x; exact ⟨z, its, r, ob, k _ _ (.inl rfl) e, c⟩
  | dK kvs => obtain ⟨z, y, vs, r, ob, es, ep, e, c⟩ := x; exact ⟨z, y, vs, r, ob, es, ep, k _ _ (.inl rfl) e, c⟩
  | dT kvs =>
    obtain ⟨z, y, xs, r, ob, es, ep, e, c⟩ := x
    exact ⟨z, y, xs, Paired.mapP r fun p q z => ⟨z.1, ht _ _ z.2.1, z.2.2⟩, ob, es, ep, k _ _ (.inl rfl) e, c⟩
  | set S n => obtain ⟨ob, es, ep, t, e, c⟩ := x; exact ⟨ob, es, ep, t, k _ _ (.inl rfl) e, c⟩
  | ins C dx fs =>
    obtain ⟨d, z, ne, e, mA, ⟨od, es, ep, e2, c⟩, r⟩ := x
    exact ⟨ho _ d, z, ne, k _ _ (.inl rfl) e, mA, ⟨od, es, ep, k _ _ (.inr d) e2, c⟩, r⟩
  | own y => obtain ⟨ob, e⟩ := x; exact ⟨ob, k _ _ (.inl rfl) e⟩
  | xd fs => obtain ⟨mA, ⟨od, es, ep, e, c⟩, r⟩ := x; exact ⟨mA, ⟨od, es, ep, k _ _ (.inl rfl) e, c⟩, r⟩
  | rng lo hi => obtain ⟨t, u, v, e⟩ := x; exact ⟨t, u, v, k _ _ (.inl rfl) e⟩
  | frz ob u ih => obtain ⟨e, q⟩ := x; exact ⟨k _ _ (.inl rfl) e, ih q⟩
  | tbl ps =>
    have e : h.get? a = some { cls := .none, data := .fields ps } := x
    show h'.get? a = some { cls := .none, data := .fields ps }
    exact k a _ (.inl rfl) e
  | met f y =>
    have e : h.get? a = some (PySem.W.methodObj (.ref f) (.ref y)) := x
    show h'.get? a = some (PySem.W.methodObj (.ref f) (.ref y))
    exact k a _ (.inl rfl) e
  | ext φ => obtain ⟨p, ⟨o, e⟩, st⟩ := x; exact ⟨st _ _ p fun o q => k _ _ (.inl rfl) q, ⟨o, k _ _ (.inl rfl) e⟩, st⟩
theorem HOk.lt (x : HOk P w H h) (e : H a = some o) : a < h.objs.size := (x a o e).lt
theorem HOk.fresh (x : HOk P w H h) (e : h.objs.size ≤ a) : H a = none := by
  cases q : H a with
  | none => rfl
  | some u => exact absurd (Nat.lt_of_lt_of_le (x.lt q) e) (Nat.lt_irrefl _)
/-- every object of the heap is kept -/
theorem HOk.kept (x : HOk P w H h) (k : ∀ b u, h.get? b = some u → h'.get? b = some u) : HOk P w H h' := fun a o e =>
  (x a o e).stay (fun b u _ q => k b u q) (fun _ q => q) fun _ _ q => q
/-- a new object is laid and tracked -/
theorem HOk.laid (x : HOk P w H h) (k : ∀ b u, h.get? b = some u → h'.get? b = some u) (hp : h.objs.size ≤ a) (new : ObjOk P w (upd H a o) h' a o) : HOk P w (upd H a o) h' := fun b u e => by
  have hn := x.fresh hp
  by_cases hb : b = a
  · subst hb; rw [upd_same] at e; cases e; exact new
  · rw [upd_ne hb] at e
    exact (x b u e).stay (fun c v _ q => k c v q) (fun c q => by rw [upd_ne (ne_of_none q hn)]; exact q) fun c xs q => by rw [upd_ne (ne_of_none q hn)]; exact q
end

/-- what may be read as u: it is u, or a known u -/
def Rd (H : Hp) (a : Addr) (u : HO) : Prop := H a = some u ∨ ∃ o, H a = some (.frz o u)
theorem Rd.ok {P : Program} {w : World} {H : Hp} {h : Heap} {a : Addr} {u : HO} (r : Rd H a u) (x : HOk P w H h) : ObjOk P w H h a u := by
  rcases r with r | ⟨o, r⟩
  · exact x a u r
  · obtain ⟨_, q⟩ := x a _ r
    exact q
/-- what may be written -/
def Mut : Option HO → Prop
  | some (.lst _) => True
  | some (.dK _) => True
  | some (.dT _) => True
  | some (.set _ _) => True
  | some (.ins _ _ _) => True
  | some (.ext _) => True
  | _ => False
section
variable {P : Program} {w : World} {H : Hp} {h h' : Heap} {x e : Addr} {o' : HO}
/-- the object at e is changed: x itself, or the dict of the instance x -/
theorem HOk.write (ok : HOk P w H h) (mu : Mut (H x)) (he : e = x ∨ H e = some (.own x)) (k : ∀ b u, b ≠ e → h.get? b = some u → h'.get? b = some u) (heo : ∃ u, h'.get? e = some u)
    (new : ObjOk P w (upd H x o') h' x o') : HOk P w (upd H x o') h' := fun b u q => by
  have nown : ∀ c y, H c = some (.own y) → c ≠ x := fun c y r z => by subst z; rw [r] at mu; exact mu
  have ntup : ∀ c xs, H c = some (.tup xs) → c ≠ x := fun c xs r z => by subst z; rw [r] at mu; exact mu
  by_cases hb : b = x
  · subst hb; rw [upd_same] at q; cases q; exact new
  · rw [upd_ne hb] at q
    by_cases hbe : b = e
    · have q' : H b = some (.own x) := by
        rcases he with z | z
        · exact absurd (hbe.trans z) hb
        · rw [hbe]; exact z
      rw [q] at q'; cases q'
      obtain ⟨v, hv⟩ := heo
      exact ⟨v, by rw [hbe]; exact hv⟩
    · refine (ok b u q).stay (fun c v hc r => k c v ?_ r) (fun c r => by rw [upd_ne (nown c b r)]; exact r) fun c xs r => by rw [upd_ne (ntup c xs r)]; exact r
      rcases hc with rfl | hc
      · exact hbe
      · rintro rfl
        rcases he with z | z
        · exact nown c b hc z
        · rw [hc] at z; cases z; exact hb rfl
end

structure Un (fs ex : List Addr) (H H' : Hp) (h h' : Heap) : Prop where
  keep : ∀ b o, h.get? b = some o → H b = none → b ∉ fs → b ∉ ex → h'.get? b = some o
  slot : ∀ b o, h.get? b = some o → H b = none → b ∈ fs → b ∉ ex → ∃ sl, h'.get? b = some { o with slots := sl }
  free : ∀ b o, h.get? b = some o → H b = none → b ∉ ex → H' b = none
  there : ∀ b o, h.get? b = some o → b ∉ ex → ∃ o', h'.get? b = some o'
  tups : ∀ b xs, H b = some (.tup xs) → H' b = some (.tup xs)
  frzs : ∀ b o u, H b = some (.frz o u) → H' b = some (.frz o u)
  tbls : ∀ b ps, H b = some (.tbl ps) → ∃ more, H' b = some (.tbl (ps ++ more))
section
variable {fs fs' ex ex' : List Addr} {H H1 H2 : Hp} {h h1 h2 h' : Heap} {a x e : Addr} {o : HO}
theorem Un.any (u : Un fs ex H H1 h h1) {b : Addr} {ob : Obj} (q : h.get? b = some ob) (n : H b = none) (hx : b ∉ ex) : ∃ sl, h1.get? b = some { ob with slots := sl } := by
  by_cases hb : b ∈ fs
  · exact u.slot b ob q n hb hx
  · exact ⟨ob.slots, u.keep b ob q n hb hx⟩
theorem Un.kept (k : ∀ b u, h.get? b = some u → h'.get? b = some u) : Un fs ex H H h h' :=
  ⟨fun b ob q _ _ _ => k b ob q, fun b ob q _ _ _ => ⟨ob.slots, k b ob q⟩, fun _ _ _ n _ => n, fun b ob q _ => ⟨ob, k b ob q⟩, fun _ _ q => q, fun _ _ _ q => q, fun _ ps q => ⟨#[], by rw [q]; simp⟩⟩
theorem Un.refl : Un fs ex H H h h := Un.kept fun _ _ q => q
theorem Un.laid (k : ∀ b u, h.get? b = some u → h'.get? b = some u) (hp : h.objs.size ≤ a) (hn : H a = none) : Un fs ex H (upd H a o) h h' where
  keep := fun b u q _ _ _ => k b u q
  slot := fun b u q _ _ _ => ⟨u.slots, k b u q⟩
  free := fun b u q n _ => by rw [upd_ne (Nat.ne_of_lt (Nat.lt_of_lt_of_le (Heap.lt_size q) hp))]; exact n
  there := fun b u q _ => ⟨u, k b u q⟩
  tups := fun b xs q => by rw [upd_ne (ne_of_none q hn)]; exact q
  frzs := fun b u xs q => by rw [upd_ne (ne_of_none q hn)]; exact q
  tbls := fun b ps q => ⟨#[], by rw [upd_ne (ne_of_none q hn), q]; simp⟩
theorem Un.write (mu : Mut (H x)) (he : e = x ∨ H e = some (.own x)) (k : ∀ b u, b ≠ e → h.get? b = some u → h'.get? b = some u) (heo : ∃ u, h'.get? e = some u) : Un fs ex H (upd H x o) h h' := by
  have hx : ∀ b, H b = none → b ≠ x := fun b n z => by subst z; rw [n] at mu; exact mu
  have hb : ∀ b, H b = none → b ≠ e := fun b n z => by
    subst z
    rcases he with r | r
    · exact hx b n r
    · rw [n] at r; cases r
  have hm : ∀ b u, H b = some u → ¬ Mut (some u) → b ≠ x := fun b u q nm z => by subst z; rw [q] at mu; exact nm mu
  refine ⟨fun b u q n _ _ => k b u (hb b n) q, fun b u q n _ _ => ⟨u.slots, k b u (hb b n) q⟩, fun b u q n _ => by rw [upd_ne (hx b n)]; exact n, fun b u q _ => ?_,
    fun b xs q => by rw [upd_ne (hm b _ q fun z => z)]; exact q, fun b u xs q => by rw [upd_ne (hm b _ q fun z => z)]; exact q, fun b ps q => ⟨#[], by rw [upd_ne (hm b _ q fun z => z), q]; simp⟩⟩
  by_cases hbe : b = e
  · subst hbe; exact heo
  · exact ⟨u, k b u hbe q⟩
end

def trk (h : Heap) (H : Hp) : List Addr := (List.range h.objs.size).filter fun a => (H a).isSome
def hidT (h : Heap) (H : Hp) : Heap := PySem.W.hideAll h (trk h H)
theorem hidT_size (h : Heap) (H : Hp) : (hidT h H).objs.size = h.objs.size := PySem.W.hideAll_size _ _
theorem hidT_get {h : Heap} {H : Hp} {b : Addr} {o : Obj} (e : h.get? b = some o) (n : H b = none) : (hidT h H).get? b = some o :=
  PySem.W.hideAll_get _ e fun hm => by
    have q : (H b).isSome = true := (List.mem_filter.mp hm).2
    rw [n] at q; simp at q
theorem of_hidT {h : Heap} {H : Hp} {b : Addr} {o : Obj} (e : (hidT h H).get? b = some o) : h.get? b = some o ∧ H b = none := by
  have e' : h.get? b = some o := PySem.W.of_hideAll (trk h H) e
  refine ⟨e', ?_⟩
  cases q : H b with
  | none => rfl
  | some x =>
    have hm : b ∈ trk h H := List.mem_filter.mpr ⟨List.mem_range.mpr (Heap.lt_size e'), by simp [q]⟩
    have z : (hidT h H).get? b = none := PySem.W.hideAll_none (trk h H) hm
    rw [z] at e; cases e

end L2

namespace L2
open PySem PySem.Spec PyProof.Rows

/-- the module's facts, over the base: the heap at the law's entry without what is tracked there -/
structure Mod (K : PySem.W.Frag) (mg : Str → Option Value) (base : Heap) : Prop where
  kin : K.In base
  glob : base.Ns mainGlobals mg
  blt : ∃ mb, base.Ns builtinsNs mb ∧ ∀ x : Str, x ≠ "__name__" → mb x = bootBuiltins x
  nolimit : base.NoLimit

/-- the context: a def's body (or a comprehension's block) running. base: fixed through the whole law; s₀, H₀: the entry; outer: the frames whose slots others may change (a def's callers); stack: all frames that run;
   ex: iterators that were made ahead of the entry and are walked here (a comprehension's); fn: the names whose cells were made at the entry (a def: all; a comprehension's block: its own); calm: not within an except suite; pn: pins that every state bears; xe: what is wanted of an exception that leaves the code -/
structure Cx where
  prog : Program
  w : World
  K : PySem.W.Frag
  mg : Str → Option Value
  base : Heap
  A : Around
  N : List Str
  s_0 : Shared
  H_0 : Hp
  env : Env
  outer : List Env
  stack : List Env
  ex : List Addr
  fn : Str → Bool
  calm : Bool
  pn : List (Addr × Obj)
  xe : Value → Shared → Prop
/-- the callers' frames -/
def frs (l : List Env) : List Addr := l.filterMap (·.frame)
abbrev Cx.fs (X : Cx) : List Addr := frs X.outer

def Vis (sc : Scope) (x : Str) : Prop := sc.names.lookup x = some .local ∨ sc.names.lookup x = some .cell ∨ sc.names.lookup x = some .free
def Loc (sc : Scope) (x : Str) : Prop := sc.names.lookup x = some .local ∨ sc.names.lookup x = some .cell
def Look (env : Env) (h : Heap) (m : Str → Option Value) (x : Str) (u : Value) : Prop :=
  (env.kindOf x = some .local ∧ m x = some u) ∨ ((env.kindOf x = some .cell ∨ env.kindOf x = some .free) ∧ ∃ c, env.cells.lookup x = some c ∧ h.IsCell c (some u))

structure Cx.Ok (X : Cx) : Prop where
  mod : Mod X.K X.mg X.base
  kind : X.env.scope.kind = .function
  glob : X.env.globals = mainGlobals
  blt : X.env.builtins = builtinsNs
  above : X.s_0.heap.objs.size ≤ X.env.locals
  inj : ∀ x y c, X.env.cells.lookup x = some c → X.env.cells.lookup y = some c → x = y
  has : ∀ x, (X.env.kindOf x = some .cell ∨ X.env.kindOf x = some .free) → ∃ c, X.env.cells.lookup x = some c
  cab : ∀ x c, X.fn x = true → X.env.cells.lookup x = some c → X.s_0.heap.objs.size ≤ c
  hd : X.calm = true → X.A.handled = none
  frames : X.A.frames = some X.stack
  stk : X.stack = X.outer ∨ (X.stack = X.env :: X.outer ∧ X.env.frame = some X.env.locals)
  exf : ∀ b ∈ X.ex, b ≠ X.env.locals ∧ ∀ x c, X.env.cells.lookup x = some c → c ≠ b
  bs : ∀ b o, X.base.get? b = some o → X.s_0.heap.get? b = some o ∧ X.H_0 b = none
  bsz : X.base.objs.size ≤ X.s_0.heap.objs.size
  noex : ∀ b o, X.base.get? b = some o → b ∉ X.ex
  exfs : ∀ b ∈ X.ex, b ∉ X.fs
  funs : X.s_0.heap.FunFrames X.base X.outer
  frf : ∀ b ∈ X.fs, X.H_0 b = none

structure Inv (X : Cx) (pins : List (Addr × Obj)) (σ : List (Option V)) (H : Hp) (s : Shared) : Prop where
  ok : X.Ok
  os : s.os = X.s_0.os
  bare : AllBare s.gens
  base : Un X.fs X.ex X.H_0 H X.s_0.heap s.heap
  loc : ∃ m, s.heap.Ns X.env.locals m ∧ ∀ (i : Nat) (x : Str) (v : V), X.N[i]? = some x → σ[i]? = some (some v) → Vis X.env.scope x → ∃ u, RelV v u ∧ Look X.env s.heap m x u
  cell : ∀ x c, X.env.cells.lookup x = some c → ∃ v, s.heap.IsCell c v
  free : H X.env.locals = none
  freeC : ∀ x c, X.env.cells.lookup x = some c → H c = none
  pin : ∀ p ∈ X.pn ++ pins, s.heap.get? p.1 = some p.2 ∧ H p.1 = none ∧ p.1 ≠ X.env.locals ∧ p.1 ∉ X.fs ∧ ∀ v, p.2.data ≠ .cell v
  hok : HOk X.prog X.w H s.heap
  len : σ.length = X.N.length

section
variable {X : Cx} {pins : List (Addr × Obj)} {σ : List (Option V)} {H H' : Hp} {s : Shared} {h' : Heap}

theorem Cx.Ok.nofr (ok : X.Ok) {b : Addr} {o : Obj} (e : X.base.get? b = some o) : b ∉ X.fs := fun hb => by
  have := (ok.funs.mem hb).1
  rw [e] at this; cases this
theorem Inv.bs (I : Inv X pins σ H s) : ∀ b o, X.base.get? b = some o → s.heap.get? b = some o ∧ H b = none := fun b o e =>
  ⟨I.base.keep b o (I.ok.bs b o e).1 (I.ok.bs b o e).2 (I.ok.nofr e) (I.ok.noex b o e), I.base.free b o (I.ok.bs b o e).1 (I.ok.bs b o e).2 (I.ok.noex b o e)⟩
theorem Inv.bk (I : Inv X pins σ H s) : ∀ b o, X.base.get? b = some o → s.heap.get? b = some o := fun b o e => (I.bs b o e).1
theorem Inv.mod (I : Inv X pins σ H s) : Mod X.K X.mg X.base := I.ok.mod
theorem Inv.kIn (I : Inv X pins σ H s) : X.K.In s.heap := I.ok.mod.kin.keeps I.bk
theorem Inv.lt (I : Inv X pins σ H s) : X.env.locals < s.heap.objs.size := let ⟨_, hn, _⟩ := I.loc; hn.lt
theorem Inv.sz (I : Inv X pins σ H s) : X.s_0.heap.objs.size ≤ s.heap.objs.size := Nat.le_trans I.ok.above (Nat.le_of_lt I.lt)
theorem Inv.nofs (I : Inv X pins σ H s) {a : Addr} (h : s.heap.objs.size ≤ a) : a ∉ X.fs := fun hb => by
  obtain ⟨_, o, ho, _⟩ := I.ok.funs.mem hb
  exact absurd (Nat.lt_of_lt_of_le (Heap.lt_size ho) (Nat.le_trans I.sz h)) (Nat.lt_irrefl _)
theorem Inv.cne (I : Inv X pins σ H s) : ∀ x c, X.env.cells.lookup x = some c → c ≠ X.env.locals := fun x c e z => by
  obtain ⟨v, o, ho, hd⟩ := I.cell x c e
  obtain ⟨m, ⟨o', es, ep, ho', hd', _⟩, _⟩ := I.loc
  rw [z, ho'] at ho; cases ho; rw [hd'] at hd; cases hd
theorem Inv.funs (I : Inv X pins σ H s) : s.heap.FunFrames X.base X.outer := by
  have all : ∀ (l : List Env), (∀ b ∈ frs l, b ∈ X.fs) → X.s_0.heap.FunFrames X.base l → s.heap.FunFrames X.base l := by
    intro l
    induction l with
    | nil => intro _ _; trivial
    | cons env r ih =>
      intro hs hl
      obtain ⟨hk, ⟨L, o, hf, hn, ho, hd⟩, hr⟩ := hl
      have hL : L ∈ X.fs := hs L (by unfold frs; rw [List.filterMap_cons, hf]; exact List.mem_cons_self)
      obtain ⟨sl, e⟩ := I.base.slot L o ho (I.ok.frf L hL) hL fun z => I.ok.exfs L z hL
      exact ⟨hk, ⟨L, _, hf, hn, e, hd⟩, ih (fun b hb => hs b (by unfold frs; rw [List.filterMap_cons, hf]; exact List.mem_cons_of_mem _ hb)) hr⟩
  exact all X.outer (fun _ hb => hb) I.ok.funs

/-- the frames that run, for a call -/
theorem Inv.stack (I : Inv X pins σ H s) : s.heap.FunFrames X.base X.stack := by
  rcases I.ok.stk with e | ⟨e, hf⟩
  · rw [e]; exact I.funs
  · rw [e]
    obtain ⟨m, hn, _⟩ := I.loc
    refine .cons (by rw [I.ok.kind]; decide) hf hn ?_ I.funs
    exact Heap.get?_none_of_le (Nat.le_trans I.ok.bsz I.ok.above)
theorem Inv.stkSub (I : Inv X pins σ H s) : ∀ b ∈ frs X.stack, b ∈ X.env.locals :: X.fs := fun b hb => by
  rcases I.ok.stk with e | ⟨e, hf⟩
  · rw [e] at hb; exact List.mem_cons_of_mem _ hb
  · rw [e] at hb
    unfold frs at hb
    rw [List.filterMap_cons, hf] at hb
    exact hb
theorem Inv.stkFree (I : Inv X pins σ H s) : ∀ b ∈ frs X.stack, H b = none := fun b hb => by
  rcases List.mem_cons.mp (I.stkSub b hb) with e | hb
  · rw [e]; exact I.free
  · obtain ⟨_, o, ho, _⟩ := I.ok.funs.mem hb
    exact I.base.free b o ho (I.ok.frf b hb) fun z => I.ok.exfs b z hb

/-- THE STEP: the untracked objects but the frame and the records at ch are kept (the callers' frames up to slots), the frame's map is kept, the new abstract heap is held -/
theorem Inv.step {g' : Array GenState} {t' : Nat} {d' : Drawn} {ch : List Addr} (I : Inv X pins σ H s)
    (hch : ∀ b ∈ ch, (b ∈ X.ex ∨ X.s_0.heap.objs.size ≤ b) ∧ b ≠ X.env.locals ∧ (∀ x c, X.env.cells.lookup x = some c → c ≠ b) ∧ ∀ p ∈ X.pn ++ pins, p.1 ≠ b)
    (keep : ∀ b o, b ≠ X.env.locals → b ∉ X.fs → b ∉ ch → s.heap.get? b = some o → H b = none → h'.get? b = some o)
    (slot : ∀ b o, b ≠ X.env.locals → b ∈ X.fs → b ∉ ch → s.heap.get? b = some o → H b = none → ∃ sl, h'.get? b = some { o with slots := sl }) (free : ∀ b o, b ∉ ch → s.heap.get? b = some o → H b = none → H' b = none)
    (there : ∀ b o, b ∉ ch → s.heap.get? b = some o → ∃ o', h'.get? b = some o')
    (tups : ∀ b xs, H b = some (.tup xs) → H' b = some (.tup xs)) (frzs : ∀ b o u, H b = some (.frz o u) → H' b = some (.frz o u)) (tbls : ∀ b ps, H b = some (.tbl ps) → ∃ more, H' b = some (.tbl (ps ++ more)))
    (ns : ∀ m, s.heap.Ns X.env.locals m → h'.Ns X.env.locals m) (hok : HOk X.prog X.w H' h') (hg : AllBare g') :
    Inv X pins σ H' { s with heap := h', gens := g', drawn := d', toks := t' } := by
  have neL : ∀ b o, X.s_0.heap.get? b = some o → b ≠ X.env.locals := fun b o e => Nat.ne_of_lt (Nat.lt_of_lt_of_le (Heap.lt_size e) I.ok.above)
  have neC : ∀ b o, X.s_0.heap.get? b = some o → b ∉ X.ex → b ∉ ch := fun b o e hx hb => by
    rcases (hch b hb).1 with z | z
    · exact hx z
    · exact absurd (Nat.lt_of_lt_of_le (Heap.lt_size e) z) (Nat.lt_irrefl _)
  have cellK : ∀ x c, X.env.cells.lookup x = some c → ∀ v, s.heap.IsCell c v → h'.IsCell c v := fun x c e v ⟨o, ho, hd⟩ => by
    have nch : c ∉ ch := fun z => (hch c z).2.2.1 x c e rfl
    by_cases hc : c ∈ X.fs
    · obtain ⟨sl, q⟩ := slot c o (I.cne x c e) hc nch ho (I.freeC x c e)
      exact ⟨_, q, hd⟩
    · exact ⟨o, keep c o (I.cne x c e) hc nch ho (I.freeC x c e), hd⟩
  refine ⟨I.ok, I.os, hg, ⟨fun b o e n hb hx => ?_, fun b o e n hb hx => ?_, fun b o e n hx => ?_, fun b o e hx => ?_, fun b xs e => tups b xs (I.base.tups b xs e), fun b o xs e => frzs b o xs (I.base.frzs b o xs e), fun b ps e => ?_⟩, ?_, fun x c e => ?_, ?_, fun x c e => ?_, fun p hp => ?_, hok, I.len⟩
  · exact keep b o (neL b o e) hb (neC b o e hx) (I.base.keep b o e n hb hx) (I.base.free b o e n hx)
  · obtain ⟨sl, e1⟩ := I.base.slot b o e n hb hx
    obtain ⟨sl', e2⟩ := slot b _ (neL b o e) hb (neC b o e hx) e1 (I.base.free b o e n hx)
    exact ⟨sl', e2⟩
  · obtain ⟨o', e1⟩ := I.base.there b o e hx
    exact free b o' (neC b o e hx) e1 (I.base.free b o e n hx)
  · obtain ⟨o', e1⟩ := I.base.there b o e hx
    exact there b o' (neC b o e hx) e1
  · obtain ⟨m1, e1⟩ := I.base.tbls b ps e
    obtain ⟨m2, e2⟩ := tbls b _ e1
    exact ⟨m1 ++ m2, by rw [e2, Array.append_assoc]⟩
  · obtain ⟨m, hn, hl⟩ := I.loc
    refine ⟨m, ns m hn, fun i x v e1 e2 e3 => ?_⟩
    obtain ⟨u, r, l⟩ := hl i x v e1 e2 e3
    refine ⟨u, r, ?_⟩
    rcases l with l | ⟨k, c, e, z⟩
    · exact .inl l
    · exact .inr ⟨k, c, e, cellK x c e _ z⟩
  · obtain ⟨v, z⟩ := I.cell x c e
    exact ⟨v, cellK x c e v z⟩
  · obtain ⟨m, ⟨o, _, _, ho, _⟩, _⟩ := I.loc
    exact free _ o (fun z => (hch _ z).2.1 rfl) ho I.free
  · obtain ⟨v, o, ho, hd⟩ := I.cell x c e
    exact free c o (fun z => (hch c z).2.2.1 x c e rfl) ho (I.freeC x c e)
  · obtain ⟨e, n, ne, nf, d⟩ := I.pin p hp
    have nch : p.1 ∉ ch := fun z => (hch p.1 z).2.2.2 p hp rfl
    exact ⟨keep p.1 p.2 ne nf nch e n, free p.1 p.2 nch e n, ne, nf, d⟩
/-- .. where the frame's own object is kept too -/
theorem Inv.un {t' : Nat} (I : Inv X pins σ H s) (u : Un X.fs [] H H' s.heap h') (hok : HOk X.prog X.w H' h') : Inv X pins σ H' { s with heap := h', toks := t' } := by
  obtain ⟨m, ⟨o, es, ep, ho, r⟩, _⟩ := id I.loc
  obtain ⟨sl, hL⟩ := u.any ho I.free (by simp)
  exact I.step (g' := s.gens) (d' := s.drawn) (ch := []) (fun _ z => nomatch z) (fun b o _ hb _ e n => u.keep b o e n hb (by simp)) (fun b o _ hb _ e n => u.slot b o e n hb (by simp)) (fun b o _ e n => u.free b o e n (by simp)) (fun b o _ e => u.there b o e (by simp)) u.tups u.frzs u.tbls (fun m' hm => by
    obtain ⟨o', es', ep', ho', r'⟩ := hm
    rw [ho] at ho'; cases ho'
    exact ⟨_, es', ep', hL, r'⟩) hok I.bare
/-- behind a call (or a comprehension's block): the slots of this frame may have changed too, the records at ch may have turned -/
theorem Inv.call {g' : Array GenState} {t' : Nat} {d' : Drawn} {ch : List Addr} (I : Inv X pins σ H s) (u : Un (frs X.stack) ch H H' s.heap h') (hok : HOk X.prog X.w H' h') (hg : AllBare g')
    (hch : ∀ b ∈ ch, (b ∈ X.ex ∨ X.s_0.heap.objs.size ≤ b) ∧ b ≠ X.env.locals ∧ (∀ x c, X.env.cells.lookup x = some c → c ≠ b) ∧ ∀ p ∈ X.pn ++ pins, p.1 ≠ b) :
    Inv X pins σ H' { s with heap := h', gens := g', drawn := d', toks := t' } := by
  obtain ⟨m, ⟨o, es, ep, ho, r⟩, _⟩ := id I.loc
  obtain ⟨sl, hL⟩ := u.any ho I.free fun z => (hch _ z).2.1 rfl
  exact I.step (ch := ch) hch (fun b o hL hb hc e n => u.keep b o e n (fun z => (List.mem_cons.mp (I.stkSub b z)).elim hL hb) hc) (fun b o _ _ hc e n => u.any e n hc) (fun b o hc e n => u.free b o e n hc) (fun b o hc e => u.there b o e hc) u.tups u.frzs u.tbls (fun m' hm => by
    obtain ⟨o', es', ep', ho', r'⟩ := hm
    rw [ho] at ho'; cases ho'
    exact ⟨_, es', ep', hL, r'⟩) hok hg
/-- an untracked record of ours (an iterator) has turned -/
theorem Inv.turned {t' : Nat} {it : Addr} (I : Inv X pins σ H s) (k : ∀ b o, b ≠ it → s.heap.get? b = some o → h'.get? b = some o) (hn : H it = none) (hL : it ≠ X.env.locals)
    (h1 : it ∈ X.ex ∨ X.s_0.heap.objs.size ≤ it) (h2 : ∀ x c, X.env.cells.lookup x = some c → c ≠ it) (h3 : ∀ p ∈ X.pn ++ pins, p.1 ≠ it) : Inv X pins σ H { s with heap := h', toks := t' } := by
  have nit : ∀ b u, H b = some u → b ≠ it := fun b u e z => by rw [z, hn] at e; cases e
  refine I.step (g' := s.gens) (d' := s.drawn) (ch := [it]) (fun b hb => ?_) (fun b o _ _ hc e _ => k b o (fun z => hc (by simp [z])) e) (fun b o _ _ hc e _ => ⟨o.slots, k b o (fun z => hc (by simp [z])) e⟩) (fun _ _ _ _ n => n)
    (fun b o hc e => ⟨o, k b o (fun z => hc (by simp [z])) e⟩) (fun _ _ e => e) (fun _ _ _ e => e) (fun b ps e => ⟨#[], by rw [e]; simp⟩) (fun m hm => ?_) (fun b u e => ?_) I.bare
  · have e : b = it := by simpa using hb
    subst e
    exact ⟨h1, hL, h2, h3⟩
  · obtain ⟨o, es, ep, ho, r⟩ := hm
    exact ⟨o, es, ep, k _ o (Ne.symm hL) ho, r⟩
  · refine (I.hok b u e).stay (fun c v hc q => k c v ?_ q) (fun _ q => q) fun _ _ q => q
    rcases hc with z | z
    · rw [z]; exact nit b u e
    · exact nit c _ z
theorem Inv.tok (I : Inv X pins σ H s) (t : Nat) : Inv X pins σ H { s with toks := t } := I.un (h' := s.heap) (t' := t) Un.refl I.hok
/-- all objects kept -/
theorem Inv.kept {t' : Nat} (I : Inv X pins σ H s) (k : ∀ b u, s.heap.get? b = some u → h'.get? b = some u) : Inv X pins σ H { s with heap := h', toks := t' } := I.un (Un.kept k) (I.hok.kept k)
/-- a new object laid and tracked -/
theorem Inv.laid {a : Addr} {o : HO} {t' : Nat} (I : Inv X pins σ H s) (k : ∀ b u, s.heap.get? b = some u → h'.get? b = some u) (hp : s.heap.objs.size ≤ a) (new : ObjOk X.prog X.w (upd H a o) h' a o) :
    Inv X pins σ (upd H a o) { s with heap := h', toks := t' } := I.un (Un.laid k hp (I.hok.fresh hp)) (I.hok.laid k hp new)
/-- an object written -/
theorem Inv.write {x e : Addr} {o : HO} {t' : Nat} (I : Inv X pins σ H s) (mu : Mut (H x)) (he : e = x ∨ H e = some (.own x)) (k : ∀ b u, b ≠ e → s.heap.get? b = some u → h'.get? b = some u) (heo : ∃ u, h'.get? e = some u)
    (new : ObjOk X.prog X.w (upd H x o) h' x o) : Inv X pins σ (upd H x o) { s with heap := h', toks := t' } := I.un (Un.write mu he k heo) (I.hok.write mu he k heo new)
/-- forgetting slots, pins -/
theorem Inv.weak {σ' : List (Option V)} (I : Inv X pins σ H s) (hl : σ'.length = σ.length) (w : ∀ (i : Nat) v, σ'[i]? = some (some v) → σ[i]? = some (some v)) : Inv X pins σ' H s :=
  ⟨I.ok, I.os, I.bare, I.base, let ⟨m, hn, hl'⟩ := I.loc; ⟨m, hn, fun i x v e1 e2 e3 => hl' i x v e1 (w i v e2) e3⟩, I.cell, I.free, I.freeC, I.pin, I.hok, hl.trans I.len⟩
theorem Inv.pins_of {pins' : List (Addr × Obj)} (I : Inv X pins σ H s) (h : ∀ p ∈ pins', s.heap.get? p.1 = some p.2 ∧ H p.1 = none ∧ p.1 ≠ X.env.locals ∧ p.1 ∉ X.fs ∧ ∀ v, p.2.data ≠ .cell v) : Inv X pins' σ H s :=
  ⟨I.ok, I.os, I.bare, I.base, I.loc, I.cell, I.free, I.freeC, fun p hp => (List.mem_append.mp hp).elim (fun z => I.pin p (List.mem_append_left _ z)) (h p), I.hok, I.len⟩

theorem nodup_ix {N : List Str} (hN : N.Nodup) {i j : Nat} {x : Str} (a : N[i]? = some x) (b : N[j]? = some x) : i = j := by
  obtain ⟨h1, e1⟩ := List.getElem?_eq_some_iff.mp a
  obtain ⟨h2, e2⟩ := List.getElem?_eq_some_iff.mp b
  exact (List.getElem_inj hN).mp (e1.trans e2.symm)

/-- a name is stored; what changed -/
theorem store_ok2 {M : Model} {A : Around} {E : Value → Shared → Prop} {i : Nat} {x : Str} {v : V} {u : Value} {Q : Unit → Shared → Prop} (I : Inv X pins σ H s) (hN : X.N.Nodup) (hi : X.N[i]? = some x) (hx : Loc X.env.scope x) (r : RelV v u)
    (h : ∀ s', Inv X pins (σ.set i (some v)) H s' → (∃ a, Heap.SameBut a s.heap s'.heap ∧ (a = X.env.locals ∨ X.env.cells.lookup x = some a)) → Q () s') (hf : X.fn x = true ∨ X.env.scope.names.lookup x = some .local := by first | exact .inl rfl | exact .inr rfl | assumption) : wpAny M A (storeName X.env x u) Q E s := by
  obtain ⟨m, hn, hl⟩ := id I.loc
  have hcls : (X.env.scope.kind == .class || (X.env.scope.kind == .module && X.env.locals != X.env.globals)) = false := by rw [I.ok.kind]; rfl
  have hiσ : i < σ.length := by rw [I.len]; exact (List.getElem?_eq_some_iff.mp hi).1
  have cne := I.cne
  have tracked : ∀ {a : Addr} {h' : Heap}, (∃ o, s.heap.get? a = some o ∧ H a = none) → Heap.SameBut a s.heap h' → HOk X.prog X.w H h' := fun {a h'} ha hs b ob e => by
    obtain ⟨_, _, hfree⟩ := ha
    refine (I.hok b ob e).stay (fun c w' hc q => (hs.2 c ?_).trans q) (fun _ q => q) fun _ _ q => q
    rintro rfl
    rcases hc with rfl | hc
    · rw [hfree] at e; cases e
    · rw [hfree] at hc; cases hc
  rcases hx with hk | hk
  · refine wpAny_storeName_local hk hn (fun h' hn' hs => ?_) hcls
    obtain ⟨oL, _, _, hoL, _⟩ := id hn
    refine h _ ⟨I.ok, I.os, I.bare, ⟨fun b o e n hb hx => ?_, fun b o e n hb hx => ?_, I.base.free, fun b o e hx => ?_, I.base.tups, I.base.frzs, I.base.tbls⟩, ⟨_, hn', fun j y v' e1 e2 e3 => ?_⟩, fun y c e => ?_, I.free, I.freeC, fun p hp => ?_, tracked ⟨oL, hoL, I.free⟩ hs, by simpa using I.len⟩ ⟨_, hs, .inl rfl⟩
    · exact (hs.2 b (Nat.ne_of_lt (Nat.lt_of_lt_of_le (Heap.lt_size e) I.ok.above))).trans (I.base.keep b o e n hb hx)
    · obtain ⟨sl, e1⟩ := I.base.slot b o e n hb hx
      exact ⟨sl, (hs.2 b (Nat.ne_of_lt (Nat.lt_of_lt_of_le (Heap.lt_size e) I.ok.above))).trans e1⟩
    · obtain ⟨o', e1⟩ := I.base.there b o e hx
      exact ⟨o', (hs.2 b (Nat.ne_of_lt (Nat.lt_of_lt_of_le (Heap.lt_size e) I.ok.above))).trans e1⟩
    · by_cases hj : j = i
      · subst hj
        rw [hi] at e1; cases e1
        rw [List.getElem?_set_self hiσ] at e2
        cases e2
        exact ⟨u, r, .inl ⟨hk, by simp⟩⟩
      · rw [List.getElem?_set_ne (Ne.symm hj)] at e2
        obtain ⟨u', r', q⟩ := hl j y v' e1 e2 e3
        refine ⟨u', r', ?_⟩
        rcases q with ⟨k, e⟩ | ⟨k, c, e, z⟩
        · refine .inl ⟨k, ?_⟩
          have : y ≠ x := fun e => hj (nodup_ix hN e1 (e ▸ hi))
          simp [this, e]
        · exact .inr ⟨k, c, e, z.sameBut hs (cne y c e)⟩
    · obtain ⟨w', z⟩ := I.cell y c e
      exact ⟨w', z.sameBut hs (cne y c e)⟩
    · obtain ⟨e, n, ne, nf, d⟩ := I.pin p hp
      exact ⟨(hs.2 p.1 ne).trans e, n, ne, nf, d⟩
  · have hfn : X.fn x = true := by
      rcases hf with z | z
      · exact z
      · rw [z] at hk; cases hk
    obtain ⟨c, hc⟩ := I.ok.has x (.inl hk)
    obtain ⟨w', z⟩ := I.cell x c hc
    refine wpAny_storeName_cell I.ok.kind hk hc z (fun h' hc' hs => ?_)
    obtain ⟨oc, hoc, hocd⟩ := id z
    refine h { s with heap := h' } ⟨I.ok, I.os, I.bare, ⟨fun b o e n hb hx => ?_, fun b o e n hb hx => ?_, I.base.free, fun b o e hx => ?_, I.base.tups, I.base.frzs, I.base.tbls⟩, ⟨m, hn.sameBut hs (Ne.symm (cne x c hc)), fun j y v' e1 e2 e3 => ?_⟩, fun y c' e => ?_, I.free, I.freeC, fun p hp => ?_, tracked ⟨oc, hoc, I.freeC x c hc⟩ hs, by simpa using I.len⟩ ⟨c, hs, .inr hc⟩
    · exact (hs.2 b (Nat.ne_of_lt (Nat.lt_of_lt_of_le (Heap.lt_size e) (I.ok.cab x c hfn hc)))).trans (I.base.keep b o e n hb hx)
    · obtain ⟨sl, e1⟩ := I.base.slot b o e n hb hx
      exact ⟨sl, (hs.2 b (Nat.ne_of_lt (Nat.lt_of_lt_of_le (Heap.lt_size e) (I.ok.cab x c hfn hc)))).trans e1⟩
    · obtain ⟨o', e1⟩ := I.base.there b o e hx
      exact ⟨o', (hs.2 b (Nat.ne_of_lt (Nat.lt_of_lt_of_le (Heap.lt_size e) (I.ok.cab x c hfn hc)))).trans e1⟩
    · by_cases hj : j = i
      · subst hj
        rw [hi] at e1; cases e1
        rw [List.getElem?_set_self hiσ] at e2
        cases e2
        exact ⟨u, r, .inr ⟨.inl hk, c, hc, hc'⟩⟩
      · rw [List.getElem?_set_ne (Ne.symm hj)] at e2
        obtain ⟨u', r', q⟩ := hl j y v' e1 e2 e3
        refine ⟨u', r', ?_⟩
        rcases q with q | ⟨k, c', e, z'⟩
        · exact .inl q
        · refine .inr ⟨k, c', e, z'.sameBut hs ?_⟩
          rintro rfl
          exact hj (nodup_ix hN e1 (I.ok.inj _ _ _ e hc ▸ hi))
    · by_cases hcc : c' = c
      · subst hcc; exact ⟨_, hc'⟩
      · obtain ⟨w2, z2⟩ := I.cell y c' e
        exact ⟨w2, z2.sameBut hs hcc⟩
    · obtain ⟨e, n, ne, nf, d⟩ := I.pin p hp
      refine ⟨(hs.2 p.1 ?_).trans e, n, ne, nf, d⟩
      intro q
      rw [q, hoc] at e
      have q' : oc = p.2 := Option.some.inj e
      exact d w' (by rw [← q']; exact hocd)
theorem store_ok {M : Model} {A : Around} {E : Value → Shared → Prop} {i : Nat} {x : Str} {v : V} {u : Value} {Q : Unit → Shared → Prop} (I : Inv X pins σ H s) (hN : X.N.Nodup) (hi : X.N[i]? = some x) (hx : Loc X.env.scope x) (r : RelV v u)
    (h : ∀ s', Inv X pins (σ.set i (some v)) H s' → Q () s') (hf : X.fn x = true ∨ X.env.scope.names.lookup x = some .local := by first | exact .inl rfl | exact .inr rfl | assumption) : wpAny M A (storeName X.env x u) Q E s :=
  store_ok2 I hN hi hx r (fun s' I' _ => h s' I') hf
/-- behind a call or a block, the state as it is -/
theorem Inv.call' {s' : Shared} {ch : List Addr} (I : Inv X pins σ H s) (ho : s'.os = s.os) (u : Un (frs X.stack) ch H H' s.heap s'.heap) (hok : HOk X.prog X.w H' s'.heap) (hg : AllBare s'.gens)
    (hch : ∀ b ∈ ch, (b ∈ X.ex ∨ X.s_0.heap.objs.size ≤ b) ∧ b ≠ X.env.locals ∧ (∀ x c, X.env.cells.lookup x = some c → c ≠ b) ∧ ∀ p ∈ X.pn ++ pins, p.1 ≠ b) : Inv X pins σ H' s' := by
  obtain ⟨h', g', d', t', o'⟩ := s'
  have e : o' = s.os := ho
  subst e
  exact I.call (g' := g') (t' := t') (d' := d') u hok hg hch
end

/-- an exception: its class, its own dict's address (where it has one), the abstract heap behind it -/
abbrev XK := Value → Option Addr → Hp → Prop
abbrev St := List (Option V)
abbrev VK := V → Hp → Prop
/-- an expression's reading; a test's; an argument list's -/
abbrev TE := St → Hp → VK → Prop
abbrev TT := St → Hp → (Bool → Hp → Prop) → Prop
abbrev TA := St → Hp → (List V → Hp → Prop) → Prop
/-- what is wanted behind a statement -/
structure Ends where
  nx : St → Hp → Prop
  rt : VK
  bk : St → Hp → Prop := fun _ _ => False
  ct : St → Hp → Prop := fun _ _ => False
abbrev TS := Ends → St → Hp → Prop

def EP (X : Cx) (pins : List (Addr × Obj)) (σ : St) (Q : VK) (u : Value) (s' : Shared) : Prop := ∃ v H', Inv X pins σ H' s' ∧ RelV v u ∧ Q v H'
def TP (X : Cx) (pins : List (Addr × Obj)) (σ : St) (Q : Bool → Hp → Prop) (b : Bool) (s' : Shared) : Prop := ∃ H', Inv X pins σ H' s' ∧ Q b H'
def AP (X : Cx) (pins : List (Addr × Obj)) (σ : St) (Q : List V → Hp → Prop) (us : List Value) (s' : Shared) : Prop := ∃ vs H', Inv X pins σ H' s' ∧ Vals vs us ∧ Q vs H'
def SP (X : Cx) (pins : List (Addr × Obj)) (D : Ends) (f : Flow) (s' : Shared) : Prop :=
  match f with
  | .next => ∃ σ' H', Inv X pins σ' H' s' ∧ D.nx σ' H'
  | .brk => ∃ σ' H', Inv X pins σ' H' s' ∧ D.bk σ' H'
  | .cont => ∃ σ' H', Inv X pins σ' H' s' ∧ D.ct σ' H'
  | .ret u => ∃ v σ' H', Inv X pins σ' H' s' ∧ RelV v u ∧ D.rt v H'

def PE (X : Cx) (e : Expr) (t : TE) : Prop :=
  ∀ (pins : List (Addr × Obj)) (s : Shared) (σ : St) (H : Hp) (Q : VK), Inv X pins σ H s → t σ H Q → wpAny (model X.prog X.w) X.A (eval e X.env) (EP X pins σ Q) X.xe s
def PT (X : Cx) (e : Expr) (t : TT) : Prop :=
  ∀ (pins : List (Addr × Obj)) (s : Shared) (σ : St) (H : Hp) (Q : Bool → Hp → Prop), Inv X pins σ H s → t σ H Q → wpAny (model X.prog X.w) X.A (isTrue e X.env (eval e X.env)) (TP X pins σ Q) X.xe s
/-- a test whatever its 'whole' is (and, or) -/
def PW (X : Cx) (e : Expr) (t : TT) : Prop :=
  ∀ (whole : Sem Value) (pins : List (Addr × Obj)) (s : Shared) (σ : St) (H : Hp) (Q : Bool → Hp → Prop), Inv X pins σ H s → t σ H Q → wpAny (model X.prog X.w) X.A (isTrue e X.env whole) (TP X pins σ Q) X.xe s
theorem PW.pt {X : Cx} {e : Expr} {t : TT} (h : PW X e t) : PT X e t := h _
/-- an argument list (no star), from the left -/
def PA (X : Cx) (es : List Expr) (t : TA) : Prop :=
  ∀ (pos : Pos) (pins : List (Addr × Obj)) (s : Shared) (σ : St) (H : Hp) (Q : List V → Hp → Prop), Inv X pins σ H s → t σ H Q → wpAny (model X.prog X.w) X.A (spliced (backTo pos (starEach es X.env))) (AP X pins σ Q) X.xe s
def PS (X : Cx) (st : Stmt) (t : TS) : Prop :=
  ∀ (pins : List (Addr × Obj)) (s : Shared) (σ : St) (H : Hp) (D : Ends), Inv X pins σ H s → t D σ H → wpAny (model X.prog X.w) X.A (exec st X.env) (SP X pins D) X.xe s
def PSs (X : Cx) (st : List Stmt) (t : TS) : Prop :=
  ∀ (pins : List (Addr × Obj)) (s : Shared) (σ : St) (H : Hp) (D : Ends), Inv X pins σ H s → t D σ H → wpAny (model X.prog X.w) X.A (execs st X.env) (SP X pins D) X.xe s
/-- weaken the end -/
theorem thn {α : Type} {t : Sem α} {Q Q' : α → Shared → Prop} {M : Model} {A : Around} {E : Value → Shared → Prop} {s : Shared} (h : wpAny M A t Q E s) (hQ : ∀ a s, Q a s → Q' a s) : wpAny M A t Q' E s := wpAny_mono h hQ fun _ _ x => x
end L2

namespace L2
open PySem PySem.Spec PyProof.Rows
section
variable {X : Cx}

/-- two expressions in a row -/
theorem bin {a b : Expr} {ta tb : TE} (ha : PE X a ta) (hb : PE X b tb) {pins : List (Addr × Obj)} {s : Shared} {σ : St} {H : Hp} {R : V → V → Hp → Prop} (I : Inv X pins σ H s) (h : ta σ H fun x H1 => tb σ H1 fun y H2 => R x y H2)
    {α : Type} {Q : α → Shared → Prop} {f : Value → Value → Sem α}
    (hf : ∀ v u s2 x y H2, Inv X pins σ H2 s2 → RelV x v → RelV y u → R x y H2 → wpAny (model X.prog X.w) X.A (f v u) Q X.xe s2) :
    wpAny (model X.prog X.w) X.A (eval a X.env) (fun v s₁ => wpAny (model X.prog X.w) X.A (eval b X.env) (fun u s₂ => wpAny (model X.prog X.w) X.A (f v u) Q X.xe s₂) X.xe s₁) X.xe s := by
  refine thn (ha pins s σ H _ I h) fun v s1 ⟨x, H1, I1, r1, q1⟩ => ?_
  refine thn (hb pins s1 σ H1 _ I1 q1) fun u s2 ⟨y, H2, I2, r2, q2⟩ => ?_
  exact hf v u s2 x y H2 I2 r1 r2 q2

def tVar (i : Nat) : TE := fun σ H Q => ∃ v, σ[i]? = some (some v) ∧ Q v H
def tC (v : V) : TE := fun _ H Q => Q v H
theorem pe_var {i : Nat} {x : Str} {pos : Pos} (hN : X.N[i]? = some x) (hv : Vis X.env.scope x) (hd : (x == ("__debug__" : Str)) = false := by decide) (hcd : (x == ("__classdict__" : Str)) = false := by decide) : PE X (.Name x pos) (tVar i) := by
  intro pins s σ H Q I h
  obtain ⟨v, e, h⟩ := h
  obtain ⟨m, hn, hl⟩ := I.loc
  obtain ⟨u, r, l⟩ := hl i x v hN e hv
  have fin : EP X pins σ Q u s := ⟨v, H, I, r, h⟩
  rcases l with ⟨hk, hm⟩ | ⟨hk, c, hc, hcell⟩
  · exact wpAny_Name (wpAny_loadName_local I.ok.kind hk hn hm fin) hd
  · rcases hk with hk | hk
    · exact wpAny_Name (wpAny_loadName_cell I.ok.kind hk hc hcell fin) hd
    · exact wpAny_Name (wpAny_loadName_free I.ok.kind hk hc hcell fin hcd) hd
theorem pe_int {i j pos} : PE X (.Constant (.int i) j pos) (tC (.int i)) := fun _ _ _ H _ I h => wpAny_Constant_int ⟨.int i, H, I.tok _, ⟨_, rfl⟩, h⟩
theorem pe_bl {b j pos} : PE X (.Constant (.bool b) j pos) (tC (.bl b)) := fun _ _ _ H _ I h => Constant_bool ⟨.bl b, H, I, rfl, h⟩
theorem pe_non {j pos} : PE X (.Constant .none j pos) (tC .non) := fun _ _ _ H _ I h => Constant_none ⟨.non, H, I, rfl, h⟩
/-- a global name of the def -/
def Gl (X : Cx) (x : Str) : Prop := X.env.kindOf x = some .globalImplicit
theorem ld_glob {E : Value → Shared → Prop} {pins : List (Addr × Obj)} {s : Shared} {σ : St} {H : Hp} {x : Str} {u : Value} {pos : Pos} {Q : Value → Shared → Prop} (I : Inv X pins σ H s) (hg : Gl X x) (hm : X.mg x = some u) (h : Q u s)
    (hd : (x == ("__debug__" : Str)) = false := by decide) : wpAny (model X.prog X.w) X.A (eval (.Name x pos) X.env) Q E s :=
  Calls.Name_function_global I.ok.kind hg (Calls.loadGlobal_global (by rw [I.ok.glob]; exact I.mod.glob.keeps I.bk) hm h) hd
theorem ld_blt {E : Value → Shared → Prop} {pins : List (Addr × Obj)} {s : Shared} {σ : St} {H : Hp} {x : Str} {u : Value} {pos : Pos} {Q : Value → Shared → Prop} (I : Inv X pins σ H s) (hg : Gl X x) (hm : X.mg x = none) (hv : bootBuiltins x = some u) (h : Q u s)
    (hn : x ≠ "__name__" := by decide) (hd : (x == ("__debug__" : Str)) = false := by decide) : wpAny (model X.prog X.w) X.A (eval (.Name x pos) X.env) Q E s := by
  obtain ⟨mb, h1, h2⟩ := I.mod.blt
  exact Calls.Name_function_global I.ok.kind hg (Calls.loadGlobal_builtin (by rw [I.ok.glob]; exact I.mod.glob.keeps I.bk) hm (by rw [I.ok.blt]; exact h1.keeps I.bk) ((h2 x hn).trans hv) h) hd
/-- a module's constant, a class, a function, as a value -/
theorem pe_glob {x : Str} {v : V} {u : Value} {pos : Pos} (hg : Gl X x) (hm : X.mg x = some u) (r : RelV v u) (hd : (x == ("__debug__" : Str)) = false := by decide) : PE X (.Name x pos) (tC v) :=
  fun _ _ _ H _ I h => ld_glob I hg hm ⟨v, H, I, r, h⟩ hd
variable {a b : Expr} {ta tb : TE} {pos : Pos}
/-- a comparison as a value, as a test -/
def tB (t : TE) : TT := fun σ H Q => t σ H fun x H1 => ∃ c, x = .bl c ∧ Q c H1
/-- an expression whose value is a bool, as a test -/
theorem pt_val {e : Expr} {t : TE} (h : PE X e t) (he : ∀ whole, isTrue e X.env whole = (do let v ← whole; standAt e.pos; holding [v] (truthy v)) := by intro _; rfl) : PT X e (tB t) := by
  intro pins s σ H Q I hw
  refine isTrue_plain (thn (h pins s σ H _ I hw) fun v s1 ⟨x, H1, I1, r1, q1⟩ => ?_) (he _)
  obtain ⟨d, rfl, q⟩ := q1
  cases r1
  exact wpAny_truthy_bool ⟨H1, I1, q⟩

variable {tA tB' : TT} {rest : List Expr}
def tOr (t u : TT) : TT := fun σ H Q => t σ H fun c H1 => if c = true then Q true H1 else u σ H1 Q
def tNot (t : TT) : TT := fun σ H Q => t σ H fun c H1 => Q (!c) H1
theorem pw_or1 (ha : PT X a tA) : PW X (.BoolOp .Or [a] pos) tA := by
  intro wh pins s σ H Q I h
  refine isTrue_or (thn (ha pins s σ H Q I h) fun c s1 e => ?_)
  cases c with
  | false => exact isTrue_or_nil e
  | true => exact e
theorem pw_or (ha : PT X a tA) (hb : PW X (.BoolOp .Or (b :: rest) pos) tB') : PW X (.BoolOp .Or (a :: b :: rest) pos) (tOr tA tB') := by
  intro wh pins s σ H Q I h
  refine isTrue_or (thn (ha pins s σ H _ I h) fun c s1 ⟨H1, I1, q1⟩ => ?_)
  cases c with
  | true => exact ⟨H1, I1, q1⟩
  | false => exact hb wh pins s1 σ H1 Q I1 q1
theorem pt_not (ha : PT X a tA) : PT X (.UnaryOp .Not a pos) (tNot tA) := by
  intro pins s σ H Q I h
  exact isTrue_not (ha pins s σ H (fun c H1 => Q (!c) H1) I h)
/-- .. as values (bools) -/
def tAndV (ta tb : TE) : TE := fun σ H Q => ta σ H fun x H1 => ∃ c, x = .bl c ∧ if c = true then tb σ H1 Q else Q (.bl false) H1
theorem pe_one {op} {t : TE} (h : PE X a t) : PE X (.BoolOp op [a] pos) t := fun pins s σ H Q I hw => BoolOp_one (h pins s σ H Q I hw)
theorem pe_and (ha : PE X a ta) (hb : PE X (.BoolOp .And (b :: rest) pos) tb) : PE X (.BoolOp .And (a :: b :: rest) pos) (tAndV ta tb) := by
  intro pins s σ H Q I h
  refine BoolOp_and (thn (ha pins s σ H _ I h) fun v s1 ⟨x, H1, I1, r1, q1⟩ => ?_)
  obtain ⟨c, rfl, q1⟩ := q1
  cases r1
  refine wpAny_truthy_bool ?_
  cases c with
  | true => exact hb pins s1 σ H1 Q I1 q1
  | false => exact ⟨.bl false, H1, I1, rfl, q1⟩
end
end L2

namespace L2
open PySem PySem.Spec PyProof.Rows

def SqL (K : PySem.W.Frag) (H : Hp) (a : Addr) (xs : List V) : Prop :=
  Rd H a (.lst xs) ∨
    ∃ (o : Obj) (its : Array Value) (n : Nat), K.lookup a = some o ∧ o.cls = .type "list" ∧ o.dict = none ∧ o.data = .seq its n ∧ its.size ≤ sizeLine ∧ Vals xs its.toList
def SqT (K : PySem.W.Frag) (H : Hp) (a : Addr) (xs : List V) : Prop :=
  Rd H a (.tup xs) ∨
    ∃ (o : Obj) (its : Array Value) (n : Nat), K.lookup a = some o ∧ o.cls = .type "tuple" ∧ o.data = .seq its n ∧ its.size ≤ sizeLine ∧ Vals xs its.toList
def absV : Value → Option V
  | .none => some .non
  | .bool b => some (.bl b)
  | .int i _ => some (.int i)
  | .str x _ => some (.str x)
  | .bytes b _ => some (.byt b)
  | .float b _ => some (.flt b)
  | .ref a => some (.ref a)
  | .type n => some (.ty n)
  | _ => none
theorem RelV.abs {x : V} {u : Value} (r : RelV x u) : absV u = some x := by
  cases x with
  | non => cases r; rfl
  | bl _ => cases r; rfl
  | int _ => obtain ⟨t, rfl⟩ := r; rfl
  | str _ => obtain ⟨t, rfl⟩ := r; rfl
  | byt _ => obtain ⟨t, rfl⟩ := r; rfl
  | flt _ => obtain ⟨t, rfl⟩ := r; rfl
  | ref _ => cases r; rfl
  | ty _ => cases r; rfl
theorem RelV.inj {x y : V} {u : Value} (r : RelV x u) (q : RelV y u) : x = y := Option.some.inj (r.abs.symm.trans q.abs)
theorem Vals.inj : ∀ {xs ys : List V} {us : List Value}, Vals xs us → Vals ys us → xs = ys
  | _, _, _, .nil, .nil => rfl
  | _, _, _, .cons r t, .cons r' t' => by rw [r.inj r', Vals.inj t t']
section
variable {X : Cx} {pins : List (Addr × Obj)} {σ : St} {H : Hp} {s : Shared} {a : Addr} {xs ys : List V}
theorem SqL.of {K : PySem.W.Frag} (h : H a = some (.lst xs)) : SqL K H a xs := .inl (.inl h)
theorem Inv.list (I : Inv X pins σ H s) (h : SqL X.K H a xs) : ∃ its : List Value, Vals xs its ∧ PlainL s.heap a its.toArray ∧ xs.length ≤ sizeLine := by
  rcases h with h | ⟨o, its, n, hk, hc, hd, hs, hz, r⟩
  · obtain ⟨z, its, n, r, e⟩ := h.ok I.hok
    exact ⟨its, r, ⟨_, n, e, rfl, rfl, rfl⟩, z⟩
  · refine ⟨its.toList, r, ⟨o, n, I.kIn a o hk, hc, hd, by simpa using hs⟩, ?_⟩
    have e := r.length
    simp only [Array.length_toList] at e
    omega
theorem Inv.tuple (I : Inv X pins σ H s) (h : SqT X.K H a xs) : ∃ its : List Value, Vals xs its ∧ IsTup s.heap a its.toArray ∧ xs.length ≤ sizeLine := by
  rcases h with h | ⟨o, its, n, hk, hc, hs, hz, r⟩
  · obtain ⟨z, its, r, p⟩ := h.ok I.hok
    exact ⟨its, r, p, z⟩
  · refine ⟨its.toList, r, ⟨o, I.kIn a o hk, hc, n, by simpa using hs⟩, ?_⟩
    have e := r.length
    simp only [Array.length_toList] at e
    omega
theorem Inv.list_inj (I : Inv X pins σ H s) (h : SqL X.K H a xs) (h' : SqL X.K H a ys) : xs = ys := by
  obtain ⟨its, r, ⟨o, n, e, _, _, d⟩, _⟩ := I.list h
  obtain ⟨its', r', ⟨o', n', e', _, _, d'⟩, _⟩ := I.list h'
  rw [e] at e'; cases e'
  rw [d] at d'
  injection d' with d1 _
  have : its = its' := by simpa using congrArg Array.toList d1
  subst this
  exact r.inj r'
end

abbrev Cx.wish (X : Cx) (E : Value → Shared → Prop) : Cx := { X with xe := E }
/-- no exception leaves -/
abbrev Cx.nox (X : Cx) : Cx := X.wish fun _ _ => False
theorem Cx.Ok.wish {X : Cx} (ok : X.Ok) (E : Value → Shared → Prop) : (X.wish E).Ok :=
  ⟨ok.mod, ok.kind, ok.glob, ok.blt, ok.above, ok.inj, ok.has, ok.cab, ok.hd, ok.frames, ok.stk, ok.exf, ok.bs, ok.bsz, ok.noex, ok.exfs, ok.funs, ok.frf⟩
theorem Cx.Ok.unwish {X : Cx} {E : Value → Shared → Prop} (ok : (X.wish E).Ok) : X.Ok :=
  ⟨ok.mod, ok.kind, ok.glob, ok.blt, ok.above, ok.inj, ok.has, ok.cab, ok.hd, ok.frames, ok.stk, ok.exf, ok.bs, ok.bsz, ok.noex, ok.exfs, ok.funs, ok.frf⟩
section
variable {X : Cx} {pins : List (Addr × Obj)} {σ : St} {H : Hp} {s : Shared} {E : Value → Shared → Prop}
theorem Inv.wish (I : Inv X pins σ H s) (E : Value → Shared → Prop) : Inv (X.wish E) pins σ H s := ⟨I.ok.wish E, I.os, I.bare, I.base, I.loc, I.cell, I.free, I.freeC, I.pin, I.hok, I.len⟩
theorem Inv.unwish (I : Inv (X.wish E) pins σ H s) : Inv X pins σ H s := ⟨I.ok.unwish, I.os, I.bare, I.base, I.loc, I.cell, I.free, I.freeC, I.pin, I.hok, I.len⟩
theorem SP.unwish {D : Ends} {f : Flow} {s' : Shared} (h : SP (X.wish E) pins D f s') : SP X pins D f s' := by
  cases f with
  | next => obtain ⟨σ', H', I, q⟩ := h; exact ⟨σ', H', I.unwish, q⟩
  | brk => obtain ⟨σ', H', I, q⟩ := h; exact ⟨σ', H', I.unwish, q⟩
  | cont => obtain ⟨σ', H', I, q⟩ := h; exact ⟨σ', H', I.unwish, q⟩
  | ret u => obtain ⟨v, σ', H', I, r, q⟩ := h; exact ⟨v, σ', H', I.unwish, r, q⟩
theorem PSs.nox {st : List Stmt} {t : TS} (h : PSs X.nox st t) : PSs X st t := fun pins s σ H D I hw =>
  wpAny_mono (h pins s σ H D (I.wish _) hw) (fun _ _ q => q.unwish) fun _ _ z => False.elim z
end

section
variable {X : Cx} {st : Stmt} {rest : List Stmt} {t u : TS} {e : Expr} {te : TE} {pos : Pos}
def tNext : TS := fun D σ H => D.nx σ H
def tSeq (t u : TS) : TS := fun D σ H => t { D with nx := u D } σ H
theorem pss_nil : PSs X [] tNext := fun _ _ σ H _ I h => wpAny_execs_nil ⟨σ, H, I, h⟩
theorem pss_cons (h1 : PS X st t) (h2 : PSs X rest u) : PSs X (st :: rest) (tSeq t u) := by
  intro pins s σ H D I h
  refine wpAny_execs_cons (thn (h1 pins s σ H { D with nx := u D } I h) fun f s1 q => ?_)
  cases f with
  | next =>
    obtain ⟨σ', H', I', q⟩ := q
    exact h2 pins s1 σ' H' D I' q
  | ret v => exact q
  | brk => exact q
  | cont => exact q
theorem pss_one (h1 : PS X st t) : PSs X [st] t := by
  intro pins s σ H D I h
  refine wpAny_execs_cons (thn (h1 pins s σ H D I h) fun f s1 q => ?_)
  cases f with
  | next => exact wpAny_execs_nil q
  | ret v => exact q
  | brk => exact q
  | cont => exact q
/-- in a def's body nothing is shown -/
theorem Inv.quiet {pins : List (Addr × Obj)} {σ : St} {H : Hp} {s : Shared} (I : Inv X pins σ H s) : interactive X.env = false := by simp [interactive, I.ok.kind]
/-- an expression whose value is dropped -/
def tDrop (te : TE) : TS := fun D σ H => te σ H fun _ H1 => D.nx σ H1
theorem ps_expr (he : PE X e te) (hs : swapsWith e none pos.line X.env = pure false := by rfl) : PS X (.Expr e pos) (tDrop te) := by
  intro pins s σ H D I h
  exact wpAny_Expr_any (thn (he pins s σ H _ I h) fun v s1 ⟨x, H1, I1, r1, q1⟩ => ⟨σ, H1, I1, q1⟩) I.quiet hs
def tRet (te : TE) : TS := fun D σ H => te σ H D.rt
theorem ps_ret (he : PE X e te) : PS X (.Return (some e) pos) (tRet te) := by
  intro pins s σ H D I h
  exact wpAny_Return_some (thn (he pins s σ H _ I h) fun v s1 ⟨x, H1, I1, r1, q1⟩ => ⟨x, σ, H1, I1, r1, q1⟩)
def tIfS (c : TT) (t u : TS) : TS := fun D σ H => c σ H fun b H1 => if b = true then t D σ H1 else u D σ H1
theorem ps_if {c : Expr} {a b : List Stmt} {tc : TT} (hc : PT X c tc) (ha : PSs X a t) (hb : PSs X b u) : PS X (.If c a b pos) (tIfS tc t u) := by
  intro pins s σ H D I h
  refine wpAny_If (thn (hc pins s σ H _ I h) fun d s1 ⟨H1, I1, q1⟩ => ?_)
  cases d with
  | true => exact ha pins s1 σ H1 D I1 q1
  | false => exact hb pins s1 σ H1 D I1 q1
end

abbrev TG := V → St → Hp → (St → Hp → Prop) → Prop
def PG (X : Cx) (target : Expr) (t : TG) : Prop :=
  ∀ (pins : List (Addr × Obj)) (s : Shared) (σ : St) (H : Hp) (v : V) (u : Value) (Q : St → Hp → Prop), Inv X pins σ H s → RelV v u → t v σ H Q →
    wpAny (model X.prog X.w) X.A (assign target X.env u) (fun _ s' => ∃ σ' H', Inv X pins σ' H' s' ∧ Q σ' H') X.xe s
/-- o[i] = v, by values -/
abbrev TSet := V → V → V → Hp → (Hp → Prop) → Prop
def PSet (X : Cx) (t : TSet) : Prop :=
  ∀ (pins : List (Addr × Obj)) (s : Shared) (σ : St) (H : Hp) (o i v : V) (ov iv u : Value) (Q : Hp → Prop), Inv X pins σ H s → RelV o ov → RelV i iv → RelV v u → t o i v H Q →
    wpAny (model X.prog X.w) X.A (setItem ov iv u) (fun _ s' => ∃ H', Inv X pins σ H' s' ∧ Q H') X.xe s
section
variable {X : Cx} {pos : Pos}
def gName (i : Nat) : TG := fun v σ H Q => Q (σ.set i (some v)) H
theorem pg_name {i : Nat} {x : Str} (hN : X.N.Nodup) (hi : X.N[i]? = some x) (hx : Loc X.env.scope x) (hf : X.fn x = true ∨ X.env.scope.names.lookup x = some .local := by first | exact .inl rfl | exact .inr rfl | assumption) : PG X (.Name x pos) (gName i) := by
  intro pins s σ H v u Q I r h
  exact wpAny_assign_Name (store_ok I hN hi hx r (fun s' I' => ⟨_, H, I', h⟩) hf)
/-- o[i] = .. -/
def gSub (to ti : TE) (t : TSet) : TG := fun v σ H Q => to σ H fun o H1 => ti σ H1 fun i H2 => t o i v H2 fun H3 => Q σ H3
theorem pg_sub {o i : Expr} {to ti : TE} {t : TSet} (ho : PE X o to) (hi : PE X i ti) (hs : PSet X t)
    (ha : ∀ v, assign (.Subscript o i pos) X.env v = (do
      let ov ← holding [v] (eval o X.env)
      let iv ← holding [v, ov] (eval i X.env)
      standAt pos
      holding [v, ov, iv] (setItem ov iv v)
      release [v, ov, iv] []) := by intro _; rfl) : PG X (.Subscript o i pos) (gSub to ti t) := by
  intro pins s σ H v u Q I r h
  rw [ha]
  refine wpAny_bind (wpAny_holding (thn (ho pins s σ H _ I h) fun ov s1 ⟨x, H1, I1, r1, q1⟩ => ?_))
  refine wpAny_bind (wpAny_holding (thn (hi pins s1 σ H1 _ I1 q1) fun iv s2 ⟨y, H2, I2, r2, q2⟩ => ?_))
  refine wpAny_bind (wpAny_standAt (wpAny_bind (wpAny_holding (thn (hs pins s2 σ H2 x y v ov iv u _ I2 r1 r2 r q2) fun _ s3 ⟨H3, I3, q3⟩ => ?_))))
  exact wpAny_release ⟨σ, H3, I3, q3⟩
/-- target = value -/
def tAsg (te : TE) (g : TG) : TS := fun D σ H => te σ H fun x H1 => g x σ H1 D.nx
theorem ps_asg {tg e : Expr} {te : TE} {g : TG} (he : PE X e te) (hg : PG X tg g) (hs : swapsWithSole [tg] e pos.line X.env = pure false := by rfl) (hw : swappedStores [tg] e X.env = pure none := by rfl)
    (h1 : (assignEach [tg] X.env).map (·.2) = [assign tg X.env] := by rfl) : PS X (.Assign [tg] e pos) (tAsg te g) := by
  intro pins s σ H D I h
  refine wpAny_Assign_stores (thn (he pins s σ H _ I h) fun v s1 ⟨x, H1, I1, r1, q1⟩ => ?_) hs hw
  rw [h1]
  exact thn (hg pins s1 σ H1 x v _ I1 r1 q1) fun _ s2 q => q
/-- name = value -/
theorem ps_set {i : Nat} {x : Str} {e : Expr} {te : TE} {pos' : Pos} (hN : X.N.Nodup) (hi : X.N[i]? = some x) (hx : Loc X.env.scope x) (he : PE X e te) (hs : swapsWith e (some (.Name x pos')) pos.line X.env = pure false := by rfl) (hf : X.fn x = true ∨ X.env.scope.names.lookup x = some .local := by first | exact .inl rfl | exact .inr rfl | assumption) :
    PS X (.Assign [.Name x pos'] e pos) (tAsg te (gName i)) := by
  intro pins s σ H D I h
  refine wpAny_Assign_Name (thn (he pins s σ H _ I h) fun v s1 ⟨y, H1, I1, r1, q1⟩ => ?_) hs
  exact store_ok I1 hN hi hx r1 (fun s2 I2 => ⟨_, H1, I2, q1⟩) hf
end

section
variable {X : Cx} {pos : Pos}
/-- the invariant W with its measure -/
def tWhile (c : TT) (tb : TS) : TS := fun D σ H => ∃ W : Nat → St → Hp → Prop, (∃ m, W m σ H) ∧ ∀ m σ H, W m σ H →
  c σ H fun b H1 => if b = true then ∃ N : St → Hp → Prop, (∀ σ' H', N σ' H' → ∃ m', m' < m ∧ W m' σ' H') ∧ tb { D with nx := N, ct := N, bk := D.nx } σ H1 else D.nx σ H1
theorem ps_while {c : Expr} {body : List Stmt} {tc : TT} {tb : TS} (hp : PassesOwn (model X.prog X.w) X.A X.env X.xe) (hc : PT X c tc) (hb : PSs X body tb) : PS X (.While c body [] pos) (tWhile tc tb) := by
  intro pins s σ H D I h
  obtain ⟨W, ⟨m0, w0⟩, turn⟩ := h
  refine wpAny_While (codeAny_whileLoop (fun n s' => ∃ σ' H', Inv X pins σ' H' s' ∧ W n σ' H') ?_ m0 ⟨σ, H, I, w0⟩)
  rintro n s1 ⟨σ1, H1, I1, w1⟩
  refine wpAny_passesOwn hp (thn (hc pins s1 σ1 H1 _ I1 (turn n σ1 H1 w1)) fun b s2 ⟨H2, I2, q2⟩ => ?_)
  cases b with
  | true =>
    obtain ⟨N, hN, q2⟩ := q2
    rw [if_pos rfl]
    refine wpAny_passesOwn hp (thn (hb pins s2 σ1 H2 _ I2 q2) fun f s3 q3 => ?_)
    cases f with
    | next =>
      obtain ⟨σ3, H3, I3, n3⟩ := q3
      obtain ⟨m', hm, w3⟩ := hN σ3 H3 n3
      exact ⟨m', hm, σ3, H3, I3, w3⟩
    | cont =>
      obtain ⟨σ3, H3, I3, n3⟩ := q3
      obtain ⟨m', hm, w3⟩ := hN σ3 H3 n3
      exact ⟨m', hm, σ3, H3, I3, w3⟩
    | brk => exact q3
    | ret v => exact q3
  | false =>
    rw [if_neg Bool.false_ne_true]
    exact wpAny_execs_nil ⟨σ1, H2, I2, q2⟩
end

/-- at turn i: it yields x (the heap may grow), or it stops -/
structure It where
  go : Nat → Hp → Prop
  yld : Nat → Hp → V → Hp → Prop
  stop : Nat → Hp → Prop
/-- the iterator's own objects may turn: they are not the frame's, not pinned, younger than the entry (or a comprehension's own) -/
def FpOk (X : Cx) (pins : List (Addr × Obj)) (H : Hp) (b : Addr) : Prop :=
  H b = none ∧ b ≠ X.env.locals ∧ b ∉ X.fs ∧ (b ∈ X.ex ∨ X.s_0.heap.objs.size ≤ b) ∧ (∀ x c, X.env.cells.lookup x = some c → c ≠ b) ∧ ∀ p ∈ X.pn ++ pins, p.1 ≠ b
theorem Inv.fpOk {X : Cx} {pins : List (Addr × Obj)} {σ : St} {H H' : Hp} {s : Shared} {b : Addr} (I : Inv X pins σ H s) (hb : s.heap.objs.size ≤ b) (hn : H' b = none) : FpOk X pins H' b := by
  refine ⟨hn, Nat.ne_of_gt (Nat.lt_of_lt_of_le I.lt hb), I.nofs hb, .inr (Nat.le_trans I.sz hb), fun x c e z => ?_, fun p hp z => ?_⟩
  · obtain ⟨v, q⟩ := I.cell x c e
    exact absurd (Nat.lt_of_lt_of_le q.lt (by rw [z]; exact hb)) (Nat.lt_irrefl _)
  · exact absurd (Nat.lt_of_lt_of_le (Heap.lt_size (I.pin p hp).1) (by rw [z]; exact hb)) (Nat.lt_irrefl _)
structure Turn (P : Program) (w : World) (K : PySem.W.Frag) (tg : Expr) (J : It) (fp : List Addr) (it : Addr) (tn : Nat → Heap → Prop) : Prop where
  mem : it ∈ fp
  obj : ∀ i h, tn i h → ∀ b ∈ fp, ∃ o, h.get? b = some o ∧ ∀ v, o.data ≠ .cell v
  keep : ∀ i h h', tn i h → (∀ b ∈ fp, ∀ o, h.get? b = some o → h'.get? b = some o) → tn i h'
  item : ∀ (X : Cx), X.prog = P → X.w = w → X.K = K → X.calm = true → ∀ (i : Nat) (pins : List (Addr × Obj)) (s : Shared) (σ : St) (H : Hp) (E : Value → Shared → Prop), Inv X pins σ H s → (∀ b ∈ fp, FpOk X pins H b) → tn i s.heap → J.go i H →
    wpAny (model P w) X.A (pyNext (.ref it)) (fun r s1 => ∃ u, r = some u ∧
      wpAny (model P w) X.A (letOwnedTupleGo tg (.ref it) u) (fun _ s2 => ∃ x H', Inv X pins σ H' s2 ∧ RelV x u ∧ J.yld i H x H' ∧ tn (i + 1) s2.heap ∧ ∀ b ∈ fp, H' b = none) E s1) E s
  done : ∀ (X : Cx), X.prog = P → X.w = w → X.K = K → X.calm = true → ∀ (i : Nat) (pins : List (Addr × Obj)) (s : Shared) (σ : St) (H : Hp) (E : Value → Shared → Prop), Inv X pins σ H s → (∀ b ∈ fp, FpOk X pins H b) → tn i s.heap → J.stop i H →
    wpAny (model P w) X.A (pyNext (.ref it)) (fun r s1 => r = none ∧ Inv X pins σ H s1) E s
  self : ∀ (A : Around) (i : Nat) (s : Shared) (Q : Value → Shared → Prop) (E : Value → Shared → Prop), tn i s.heap → Q (.ref it) s → wpAny (model P w) A (pyIter (.ref it)) Q E s
abbrev TI := St → Hp → (It → Hp → Prop) → Prop
/-- an iterator has come -/
def PIE (X : Cx) (pins : List (Addr × Obj)) (σ : St) (tg : Expr) (R : It → Hp → Prop) (itv : Value) (s2 : Shared) : Prop :=
  ∃ (it : Addr) (fp : List Addr) (tn : Nat → Heap → Prop) (J : It) (H' : Hp), itv = .ref it ∧ Inv X pins σ H' s2 ∧ Turn X.prog X.w X.K tg J fp it tn ∧ tn 0 s2.heap ∧ (∀ b ∈ fp, FpOk X pins H' b) ∧ R J H'
def PI (X : Cx) (tg iter : Expr) (wi : TI) : Prop :=
  ∀ (pins : List (Addr × Obj)) (s : Shared) (σ : St) (H : Hp) (R : It → Hp → Prop), Inv X pins σ H s → wi σ H R →
    wpAny (model X.prog X.w) X.A (eval iter X.env) (fun v s1 => wpAny (model X.prog X.w) X.A (pyIter v) (PIE X pins σ tg R) X.xe s1) X.xe s

/-- the step ahead of the store is nothing for an iterator that keeps no tuple -/
theorem go_of {M : Model} {A : Around} {E : Value → Shared → Prop} {s : Shared} {tg : Expr} {it : Addr} {u : Value} {o : Obj} {n : String} {vs : Array Value} {Q : Unit → Shared → Prop} (ho : s.heap.get? it = some o) (hc : o.cls = .type n) (hd : o.data = .fields vs)
    (hn : ["enumerate", "zip", "dict_itemiterator", "dict_reverseitemiterator", "odict_iterator", "itertools.zip_longest", "itertools.pairwise"].contains n = false) (hQ : Q () s) : wpAny M A (letOwnedTupleGo tg (.ref it) u) Q E s := by
  unfold letOwnedTupleGo
  cases tg <;> first
    | exact wpAny_pure hQ
    | (cases u <;> first
        | exact wpAny_pure hQ
        | (refine wpAny_bind (wpAny_load ho ?_)
           rw [hc, hd]
           show wpAny M A (if (["enumerate", "zip", "dict_itemiterator", "dict_reverseitemiterator", "odict_iterator", "itertools.zip_longest", "itertools.pairwise"].contains n && vs[0]? == some (rawInt _)) = true then _ else _) Q E s
           rw [if_neg (by intro h; rw [hn, Bool.false_and] at h; cases h)]
           exact wpAny_pure hQ))

/-- the list at a, as it stands at each turn (a loop may append to it) -/
def Itl (K : PySem.W.Frag) (a : Addr) : It :=
  ⟨fun i H => ∃ xs x, SqL K H a xs ∧ xs[i]? = some x, fun i H x H' => H' = H ∧ ∀ xs, SqL K H a xs → xs[i]? = some x, fun i H => ∃ xs, SqL K H a xs ∧ xs.length ≤ i⟩
/-- lo, lo + 1, .. (n of them) -/
def Itr (lo : Int) (n : Nat) : It := ⟨fun i _ => i < n, fun i H x H' => H' = H ∧ x = .int (lo + i), fun i _ => n ≤ i⟩
theorem turn_list {P : Program} {w : World} {K : PySem.W.Frag} {tg : Expr} (a it : Addr) : Turn P w K tg (Itl K a) [it] it (fun i h => h.IsListIter it a i) where
  mem := by simp
  obj := fun i h st b hb => by
    have e : b = it := by simpa using hb
    subst e
    obtain ⟨o, e, c, d⟩ := st
    exact ⟨o, e, fun v z => by rw [d] at z; cases z⟩
  keep := fun i h h' st k => st.at fun o e => k it (by simp) o e
  item := by
    intro X hP hw hK hc i pins s σ H E I hf st hg
    subst hP hw hK
    obtain ⟨xs, x, hq, hx⟩ := hg
    obtain ⟨its, rv, p, hz⟩ := I.list hq
    obtain ⟨u, hu, ru⟩ := rv.get hx
    obtain ⟨f0, f1, f2, f3, f4, f5⟩ := hf it (by simp)
    refine wpAny_pyNext_list_item st p.isList (x := u) (by simpa using hu) fun h' st' sb => ?_
    have I1 : Inv X pins σ H { s with heap := h' } := I.turned (t' := s.toks) (fun b o hb e => (sb.2 b hb).trans e) f0 f1 f3 f4 f5
    obtain ⟨o, e, c, d⟩ := id st'
    exact ⟨u, rfl, go_of (s := { s with heap := h' }) e c d (by decide) ⟨x, H, I1, ru, ⟨rfl, fun ys hy => by rw [I.list_inj hy hq]; exact hx⟩, st', fun b hb => (hf b hb).1⟩⟩
  done := by
    intro X hP hw hK hc i pins s σ H E I hf st hg
    subst hP hw hK
    obtain ⟨xs, hq, hx⟩ := hg
    obtain ⟨its, rv, p, hz⟩ := I.list hq
    obtain ⟨f0, f1, f2, f3, f4, f5⟩ := hf it (by simp)
    have hl := rv.length
    exact wpAny_pyNext_list_end (I.ok.hd hc) st p.isList (by simp; omega) fun h' eb => ⟨rfl, I.turned (t' := s.toks) (fun b o hb e => eb b o hb e) f0 f1 f3 f4 f5⟩
  self := fun _ _ _ _ _ st h => wpAny_pyIter_listiter st h
theorem turn_range {P : Program} {w : World} {K : PySem.W.Frag} {tg : Expr} (it : Addr) (lo : Int) (n : Nat) : Turn P w K tg (Itr lo n) [it] it (fun i h => IsRangeIter h it (lo + (i : Nat) * 1) ((n : Int) - (i : Nat)) 1) where
  mem := by simp
  obj := fun i h st b hb => by
    have e : b = it := by simpa using hb
    subst e
    exact ⟨_, st, fun v z => by
      have z' : Data.fields _ = Data.cell v := z
      cases z'⟩
  keep := fun i h h' st k => k it (by simp) _ st
  item := by
    intro X hP hw hK hc i pins s σ H E I hf st hg
    subst hP hw hK
    obtain ⟨f0, f1, f2, f3, f4, f5⟩ := hf it (by simp)
    have W := Walks.range (prog := X.prog) (w := X.w) (I.ok.hd hc) it lo 1 n
    refine W.item i s _ _ hg st fun v h' tk hv st' kk => ?_
    obtain ⟨t, rfl⟩ := hv
    have I1 : Inv X pins σ H { s with heap := h', toks := tk } := I.turned (fun b o hb e => kk b o (by simpa using hb) e) f0 f1 f3 f4 f5
    refine ⟨_, rfl, go_of (s := { s with heap := h', toks := tk }) (n := "range_iterator") st' rfl rfl (by decide) ⟨.int (lo + i), H, I1, ⟨t, ?_⟩, ⟨rfl, rfl⟩, st', fun b hb => (hf b hb).1⟩⟩
    rw [Int.mul_one]
  done := by
    intro X hP hw hK hc i pins s σ H E I hf st hg
    subst hP hw hK
    obtain ⟨f0, f1, f2, f3, f4, f5⟩ := hf it (by simp)
    exact wpAny_pyNext_range_end (I.ok.hd hc) st (by have : n ≤ i := hg; omega) fun h' eb => ⟨rfl, I.turned (t' := s.toks) (fun b o hb e => eb b o hb e) f0 f1 f3 f4 f5⟩
  self := fun _ _ _ _ _ st h => wpAny_pyIter_rangeiter st h
end L2

namespace L2
open PySem PySem.Spec PyProof.Rows
section
variable {X : Cx} {tg : Expr}
def iList (K : PySem.W.Frag) (tl : TE) : TI := fun σ H R => tl σ H fun x H1 => ∃ a, x = .ref a ∧ (∃ xs, SqL K H1 a xs) ∧ R (Itl K a) H1
theorem pi_list {l : Expr} {tl : TE} (hl : PE X l tl) : PI X tg l (iList X.K tl) := by
  intro pins s σ H R I h
  refine thn (hl pins s σ H _ I h) fun v s1 ⟨x, H1, I1, r1, q1⟩ => ?_
  obtain ⟨a, e, ⟨xs, hq⟩, q⟩ := q1
  subst e
  cases r1
  obtain ⟨its, rv, p, hz⟩ := I1.list hq
  refine wpAny_pyIter_list p.isList ?_
  refine ⟨s1.heap.objs.size, [s1.heap.objs.size], _, _, H1, rfl, I1.kept (t' := s1.toks) fun b o e => Heap.get?_push_of_some _ e, turn_list a _, ⟨_, Heap.get?_push_size _ rfl, rfl, rfl⟩, fun b hb => ?_, q⟩
  have e : b = s1.heap.objs.size := by simpa using hb
  subst e
  exact I1.fpOk (Nat.le_refl _) (I1.hok.fresh (Nat.le_refl _))
/-- a range object just made, walked -/
theorem range_it {pins : List (Addr × Obj)} {σ : St} {H : Hp} {s : Shared} {R : It → Hp → Prop} {E : Value → Shared → Prop} {lo hi : Int} {t u v : Tok} {tk : Nat} (I : Inv X pins σ H s) (h1 : -(2 ^ 62) ≤ lo) (h2 : lo < 2 ^ 62) (h3 : -(2 ^ 62) ≤ hi) (h4 : hi < 2 ^ 62)
    (q : R (Itr lo (hi - lo).toNat) H) : wpAny (model X.prog X.w) X.A (pyIter (.ref s.heap.objs.size)) (PIE X pins σ tg R) E { s with heap := s.heap.push { cls := .type "range", data := .fields #[.int lo t, .int hi u, .int 1 v] }, toks := tk } := by
  refine wpAny_pyIter_range (IsRange.new ..) (small_one h1 h2 h3 h4) ?_
  have I1 : Inv X pins σ H { s with heap := s.heap.push { cls := .type "range", data := .fields #[.int lo t, .int hi u, .int 1 v] }, toks := tk } := I.kept fun b o e => Heap.get?_push_of_some _ e
  refine ⟨(s.heap.push { cls := .type "range", data := .fields #[.int lo t, .int hi u, .int 1 v] }).objs.size, [(s.heap.push { cls := .type "range", data := .fields #[.int lo t, .int hi u, .int 1 v] }).objs.size], _, _, H, rfl,
    I1.kept (t' := tk) fun b o e => Heap.get?_push_of_some _ e, turn_range _ lo (hi - lo).toNat, ?_, fun b hb => ?_, q⟩
  · have e1 : lo + ((0 : Nat) : Int) * 1 = lo := by simp
    have e2 : (((hi - lo).toNat : Nat) : Int) - ((0 : Nat) : Int) = Builtin.Range.rangeSize lo hi 1 := by rw [rangeSize_one]; split <;> omega
    show IsRangeIter _ _ (lo + ((0 : Nat) : Int) * 1) ((((hi - lo).toNat : Nat) : Int) - ((0 : Nat) : Int)) 1
    rw [e1, e2]
    exact Heap.get?_push_size _ rfl
  · have e : b = (s.heap.push { cls := .type "range", data := .fields #[.int lo t, .int hi u, .int 1 v] }).objs.size := by simpa using hb
    subst e
    exact I1.fpOk (Nat.le_refl _) (I1.hok.fresh (Nat.le_refl _))
def iRng1 (ta : TA) : TI := fun σ H R => ta σ H fun vs H1 => ∃ j : Int, vs = [.int j] ∧ -(2 ^ 62) ≤ j ∧ j < 2 ^ 62 ∧ R (Itr 0 j.toNat) H1
def iRng2 (ta : TA) : TI := fun σ H R => ta σ H fun vs H1 => ∃ i j : Int, vs = [.int i, .int j] ∧ (-(2 ^ 62) ≤ i ∧ i < 2 ^ 62 ∧ -(2 ^ 62) ≤ j ∧ j < 2 ^ 62) ∧ R (Itr i (j - i).toNat) H1
theorem pi_range1 {a : Expr} {ta : TA} {p pos : Pos} (hg : Gl X "range") (hm : X.mg "range" = none) (ha : PA X [a] ta) (hs : starEach [a] X.env = [(false, eval a X.env)] := by rfl) : PI X tg (.Call (.Name "range" p) [a] [] pos) (iRng1 ta) := by
  intro pins s σ H R I h
  refine Call_ (ld_blt I hg hm boot_range (PyProof.Rows.callWith_type1 (thn (ha pos pins s σ H _ I h) fun us s1 ⟨vs, H1, I1, r1, q1⟩ => ?_) hs rfl))
  obtain ⟨j, e, q1, q2, q⟩ := q1
  subst e
  cases r1 with
  | cons r rr =>
    cases rr
    obtain ⟨t, rfl⟩ := r
    exact call_range_1 (range_it I1 (by omega) (by omega) q1 q2 (by simpa using q))
theorem pi_range2 {a b : Expr} {ta : TA} {p pos : Pos} (hg : Gl X "range") (hm : X.mg "range" = none) (ha : PA X [a, b] ta) (hs : starEach [a, b] X.env = [(false, eval a X.env), (false, eval b X.env)] := by rfl) (hs2 : starEach [b] X.env = [(false, eval b X.env)] := by rfl) :
    PI X tg (.Call (.Name "range" p) [a, b] [] pos) (iRng2 ta) := by
  intro pins s σ H R I h
  refine Call_ (ld_blt I hg hm boot_range (PyProof.Rows.callWith_type1 (thn (ha pos pins s σ H _ I h) fun us s1 ⟨vs, H1, I1, r1, q1⟩ => ?_) (by rw [hs, hs2]) (by rw [hs2]; rfl)))
  obtain ⟨i, j, e, ⟨q1, q2, q3, q4⟩, q⟩ := q1
  subst e
  cases r1 with
  | cons r rr =>
    cases rr with
    | cons r' rr =>
      cases rr
      obtain ⟨t, rfl⟩ := r
      obtain ⟨t', rfl⟩ := r'
      exact call_range_2 (range_it I1 q1 q2 q3 q4 q)

/-- W: the invariant by the turn and a measure; N: what the body is to reach -/
def tFor (wi : TI) (g : TG) (tb : TS) : TS := fun D σ H => wi σ H fun J H1 => ∃ W : Nat → Nat → St → Hp → Prop, (∃ m, W 0 m σ H1) ∧ ∀ i m σ H, W i m σ H →
  (J.stop i H ∧ D.nx σ H) ∨ (J.go i H ∧ ∃ N : St → Hp → Prop, (∀ σ' H', N σ' H' → ∃ m', m' < m ∧ W (i + 1) m' σ' H') ∧ ∀ x H', J.yld i H x H' → g x σ H' fun σ2 H2 => tb { D with nx := N, ct := N, bk := D.nx } σ2 H2)
/-- the records at fp as they stand -/
def pinsAt (fp : List Addr) (h : Heap) : List (Addr × Obj) := fp.filterMap fun b => (h.get? b).map fun o => (b, o)
theorem mem_pinsAt {fp : List Addr} {h : Heap} {b : Addr} {o : Obj} (hb : b ∈ fp) (e : h.get? b = some o) : (b, o) ∈ pinsAt fp h := List.mem_filterMap.mpr ⟨b, hb, by rw [e]; rfl⟩
theorem of_pinsAt {fp : List Addr} {h : Heap} {p : Addr × Obj} (hp : p ∈ pinsAt fp h) : p.1 ∈ fp ∧ h.get? p.1 = some p.2 := by
  obtain ⟨b, hb, e⟩ := List.mem_filterMap.mp hp
  cases q : h.get? b with
  | none => rw [q] at e; cases e
  | some o =>
    rw [q] at e
    have e' : (b, o) = p := Option.some.inj e
    subst e'
    exact ⟨hb, q⟩
theorem Inv.pinned {pins : List (Addr × Obj)} {σ : St} {H : Hp} {s : Shared} {fp : List Addr} (I : Inv X pins σ H s) (hf : ∀ b ∈ fp, FpOk X pins H b) (ho : ∀ b ∈ fp, ∃ o, s.heap.get? b = some o ∧ ∀ v, o.data ≠ .cell v) : Inv X (pins ++ pinsAt fp s.heap) σ H s :=
  I.pins_of fun p hp => (List.mem_append.mp hp).elim (fun z => I.pin p (List.mem_append_right _ z)) fun z => by
    obtain ⟨hb, e⟩ := of_pinsAt z
    obtain ⟨f0, f1, f2, _⟩ := hf p.1 hb
    obtain ⟨o, e', d⟩ := ho p.1 hb
    rw [e] at e'; cases e'
    exact ⟨e, f0, f1, f2, d⟩
theorem Inv.unpinned {pins pl : List (Addr × Obj)} {σ : St} {H : Hp} {s : Shared} (I : Inv X (pins ++ pl) σ H s) : Inv X pins σ H s := I.pins_of fun p hp => I.pin p (List.mem_append_right _ (List.mem_append_left _ hp))
theorem ps_for {iter : Expr} {body : List Stmt} {wi : TI} {g : TG} {tb : TS} {pos : Pos} (hp : PassesOwn (model X.prog X.w) X.A X.env X.xe) (hc : X.calm = true) (hi : PI X tg iter wi) (hg : PG X tg g) (hb : PSs X body tb)
    (hs : ∀ x, foldedSetIterable iter X.env x = pure x := by intro _; rfl) : PS X (.For tg iter body [] pos) (tFor wi g tb) := by
  intro pins s σ H D I h
  refine wpAny_For (thn (hi pins s σ H _ I h) fun v s1 h1 => thn h1 fun itv s2 h2 => ?_) hs
  obtain ⟨it, fp, tn, J, H2, e, I2, T, st2, f2, W, ⟨m0, w0⟩, turn⟩ := h2
  subst e
  -- what stays true of the iterator's objects through the loop
  have stat : ∀ {H' : Hp}, (∀ b ∈ fp, H' b = none) → ∀ b ∈ fp, FpOk X pins H' b := fun hn b hb => ⟨hn b hb, (f2 b hb).2⟩
  refine codeAny_forLoop_any (fun n s' => ∃ i σ' H', Inv X pins σ' H' s' ∧ tn i s'.heap ∧ (∀ b ∈ fp, H' b = none) ∧ W i n σ' H') ?_ m0 ⟨0, σ, H2, I2, st2, fun b hb => (f2 b hb).1, w0⟩
  rintro n s3 ⟨i, σ3, H3, I3, st3, fr3, w3⟩
  rcases turn i n σ3 H3 w3 with ⟨stop, qn⟩ | ⟨go, N, hN, step⟩
  · refine wpAny_passesOwn hp (thn (T.done X rfl rfl rfl hc i pins s3 σ3 H3 X.xe I3 (stat fr3) st3 stop) fun r s4 ⟨hr, I4⟩ => ?_)
    subst hr
    exact wpAny_execs_nil ⟨σ3, H3, I4, qn⟩
  · refine wpAny_passesOwn hp (thn (T.item X rfl rfl rfl hc i pins s3 σ3 H3 X.xe I3 (stat fr3) st3 go) fun r s4 ⟨u, hr, h4⟩ => ?_)
    subst hr
    refine wpAny_passesOwn hp (thn h4 fun _ s5 ⟨x, H5, I5, r5, y5, st5, fr5⟩ => ?_)
    have I5' := I5.pinned (stat fr5) (T.obj _ _ st5)
    refine wpAny_passesOwn hp (thn (hg _ s5 σ3 H5 x u _ I5' r5 (step x H5 y5)) fun _ s6 ⟨σ6, H6, I6, q6⟩ => ?_)
    refine wpAny_passesOwn hp (thn (hb _ s6 σ6 H6 _ I6 q6) fun f s7 q7 => ?_)
    have again : ∀ {σ7 : St} {H7 : Hp}, Inv X (pins ++ pinsAt fp s5.heap) σ7 H7 s7 → N σ7 H7 → ∃ m, m < n ∧ ∃ i σ' H', Inv X pins σ' H' s7 ∧ tn i s7.heap ∧ (∀ b ∈ fp, H' b = none) ∧ W i m σ' H' := fun {σ7 H7} I7 n7 => by
      obtain ⟨m', hm, w7⟩ := hN σ7 H7 n7
      refine ⟨m', hm, i + 1, σ7, H7, I7.unpinned, T.keep _ _ _ st5 fun b hb o e => (I7.pin (b, o) (List.mem_append_right _ (List.mem_append_right _ (mem_pinsAt hb e)))).1, fun b hb => ?_, w7⟩
      obtain ⟨o, e, d⟩ := T.obj _ _ st5 b hb
      exact (I7.pin (b, o) (List.mem_append_right _ (List.mem_append_right _ (mem_pinsAt hb e)))).2.1
    cases f with
    | next => obtain ⟨σ7, H7, I7, n7⟩ := q7; exact again I7 n7
    | cont => obtain ⟨σ7, H7, I7, n7⟩ := q7; exact again I7 n7
    | brk => obtain ⟨σ7, H7, I7, q7⟩ := q7; exact ⟨σ7, H7, I7.unpinned, q7⟩
    | ret v => obtain ⟨x7, σ7, H7, I7, r7, q7⟩ := q7; exact ⟨x7, σ7, H7, I7.unpinned, r7, q7⟩
end

/-- over a list that the body leaves as it is -/
theorem for_list {K : PySem.W.Frag} {a : Addr} {xs : List V} {g : TG} {tb : TS} {D : Ends} {σ : St} {H : Hp} (Pv : Nat → St → Hp → Prop) (h0 : Pv 0 σ H) (hl : ∀ i σ H, i ≤ xs.length → Pv i σ H → SqL K H a xs)
    (hs : ∀ i x σ H, xs[i]? = some x → Pv i σ H → g x σ H fun σ2 H2 => tb { D with nx := Pv (i + 1), ct := Pv (i + 1), bk := D.nx } σ2 H2) (hd : ∀ σ H, Pv xs.length σ H → D.nx σ H) :
    ∃ W : Nat → Nat → St → Hp → Prop, (∃ m, W 0 m σ H) ∧ ∀ i m σ H, W i m σ H →
      ((Itl K a).stop i H ∧ D.nx σ H) ∨ ((Itl K a).go i H ∧ ∃ N : St → Hp → Prop, (∀ σ' H', N σ' H' → ∃ m', m' < m ∧ W (i + 1) m' σ' H') ∧ ∀ x H', (Itl K a).yld i H x H' → g x σ H' fun σ2 H2 => tb { D with nx := N, ct := N, bk := D.nx } σ2 H2) := by
  refine ⟨fun i m σ H => m = xs.length - i ∧ i ≤ xs.length ∧ Pv i σ H, ⟨xs.length, by simp, Nat.zero_le _, h0⟩, ?_⟩
  rintro i m σ H ⟨rfl, hi, p⟩
  have q := hl i σ H hi p
  by_cases hlt : i < xs.length
  · refine .inr ⟨⟨xs, xs[i], q, by simp [hlt]⟩, Pv (i + 1), fun σ' H' p' => ⟨xs.length - (i + 1), by omega, rfl, hlt, p'⟩, fun x H' y => ?_⟩
    obtain ⟨e, y⟩ := y
    subst e
    exact hs i x σ _ (y xs q) p
  · have e : i = xs.length := by omega
    subst e
    exact .inl ⟨⟨xs, q, Nat.le_refl _⟩, hd σ H p⟩
theorem for_range {lo : Int} {n : Nat} {g : TG} {tb : TS} {D : Ends} {σ : St} {H : Hp} (Pv : Nat → St → Hp → Prop) (h0 : Pv 0 σ H)
    (hs : ∀ i σ H, i < n → Pv i σ H → g (.int (lo + i)) σ H fun σ2 H2 => tb { D with nx := Pv (i + 1), ct := Pv (i + 1), bk := D.nx } σ2 H2) (hd : ∀ σ H, Pv n σ H → D.nx σ H) :
    ∃ W : Nat → Nat → St → Hp → Prop, (∃ m, W 0 m σ H) ∧ ∀ i m σ H, W i m σ H →
      ((Itr lo n).stop i H ∧ D.nx σ H) ∨ ((Itr lo n).go i H ∧ ∃ N : St → Hp → Prop, (∀ σ' H', N σ' H' → ∃ m', m' < m ∧ W (i + 1) m' σ' H') ∧ ∀ x H', (Itr lo n).yld i H x H' → g x σ H' fun σ2 H2 => tb { D with nx := N, ct := N, bk := D.nx } σ2 H2) := by
  refine ⟨fun i m σ H => m = n - i ∧ i ≤ n ∧ Pv i σ H, ⟨n, by simp, Nat.zero_le _, h0⟩, ?_⟩
  rintro i m σ H ⟨rfl, hi, p⟩
  by_cases hlt : i < n
  · refine .inr ⟨hlt, Pv (i + 1), fun σ' H' p' => ⟨n - (i + 1), by omega, rfl, hlt, p'⟩, fun x H' y => ?_⟩
    obtain ⟨e, y⟩ := y
    subst e y
    exact hs i σ _ hlt p
  · have e : i = n := by omega
    subst e
    exact .inl ⟨Nat.le_refl _, hd σ H p⟩
/-- while, by a word and a measure of the state -/
theorem while_by {c : TT} {tb : TS} {D : Ends} {σ : St} {H : Hp} (Pv : St → Hp → Prop) (μ : St → Hp → Nat) (h0 : Pv σ H)
    (hs : ∀ σ H, Pv σ H → c σ H fun b H1 => if b = true then tb { D with nx := fun σ' H' => Pv σ' H' ∧ μ σ' H' < μ σ H, ct := fun σ' H' => Pv σ' H' ∧ μ σ' H' < μ σ H, bk := D.nx } σ H1 else D.nx σ H1)
    (mono : ∀ σ H Q Q', (∀ b H1, Q b H1 → Q' b H1) → c σ H Q → c σ H Q') : tWhile c tb D σ H := by
  refine ⟨fun m σ H => m = μ σ H ∧ Pv σ H, ⟨_, rfl, h0⟩, ?_⟩
  rintro m σ H ⟨rfl, p⟩
  refine mono σ H _ _ (fun b H1 q => ?_) (hs σ H p)
  cases b with
  | true => exact ⟨_, fun σ' H' ⟨p', l⟩ => ⟨_, l, rfl, p'⟩, q⟩
  | false => exact q
end L2

namespace L2
open PySem PySem.Spec PyProof.Rows

abbrev R2 := V → V → Hp → VK → Prop
/-- a two-place operation on values: f is binaryOp op, inplaceOp op or compareOp op -/
def OpR (X : Cx) (f : Value → Value → Sem Value) (r : R2) : Prop :=
  ∀ (pins : List (Addr × Obj)) (s : Shared) (σ : St) (H : Hp) (x y : V) (v u : Value) (Q : VK), Inv X pins σ H s → RelV x v → RelV y u → r x y H Q →
    wpAny (model X.prog X.w) X.A (f v u) (EP X pins σ Q) X.xe s
/-- a one-place operation -/
def UnR (X : Cx) (f : Value → Sem Value) (r : V → Hp → VK → Prop) : Prop :=
  ∀ (pins : List (Addr × Obj)) (s : Shared) (σ : St) (H : Hp) (x : V) (v : Value) (Q : VK), Inv X pins σ H s → RelV x v → r x H Q →
    wpAny (model X.prog X.w) X.A (f v) (EP X pins σ Q) X.xe s
/-- a call of a value that is known (a builtin, a type) with values -/
def CallR (X : Cx) (f : Value) (r : List V → Hp → VK → Prop) : Prop :=
  ∀ (pins : List (Addr × Obj)) (s : Shared) (σ : St) (H : Hp) (xs : List V) (us : List Value) (Q : VK), Inv X pins σ H s → Vals xs us → r xs H Q →
    wpAny (model X.prog X.w) X.A (call f us) (EP X pins σ Q) X.xe s
def tOp (r : R2) (ta tb : TE) : TE := fun σ H Q => ta σ H fun x H1 => tb σ H1 fun y H2 => r x y H2 Q
def tUn (r : V → Hp → VK → Prop) (ta : TE) : TE := fun σ H Q => ta σ H fun x H1 => r x H1 Q
/-- ints in, under C, and a value out -/
def rI (C : Int → Int → Prop) (g : Int → Int → V) : R2 := fun x y H Q => ∃ i j, x = .int i ∧ y = .int j ∧ C i j ∧ Q (g i j) H
def rI0 (g : Int → Int → V) : R2 := fun x y H Q => ∃ i j, x = .int i ∧ y = .int j ∧ Q (g i j) H
def rU (g : Int → V) : V → Hp → VK → Prop := fun x H Q => ∃ i, x = .int i ∧ Q (g i) H

section
variable {X : Cx} {a b c : Expr} {ta tb tc : TE} {pos : Pos}

theorem binT (ha : PE X a ta) (hb : PE X b tb) {pins : List (Addr × Obj)} {s : Shared} {σ : St} {H : Hp} {R : V → V → Hp → Prop} (I : Inv X pins σ H s)
    (h : ta σ H fun x H1 => tb σ H1 fun y H2 => R x y H2) {Q : Value → Shared → Prop} {f : Value → Value → Sem Value}
    (hf : ∀ v u s2 x y H2, Inv X pins σ H2 s2 → RelV x v → RelV y u → R x y H2 → wpAny (model X.prog X.w) X.A (f v u) Q X.xe s2) :
    wpAny (model X.prog X.w) X.A (eval a X.env) (fun v s₁ => wpAny (model X.prog X.w) X.A (eval b X.env) (fun u s₂ => wpAny (model X.prog X.w) X.A (f v u) Q X.xe s₂) X.xe s₁) X.xe s := by
  refine thn (ha pins s σ H _ I h) fun v s1 ⟨x, H1, I1, r1, q1⟩ => ?_
  refine thn (hb pins s1 σ H1 _ I1 q1) fun u s2 ⟨y, H2, I2, r2, q2⟩ => ?_
  exact hf v u s2 x y H2 I2 r1 r2 q2

theorem pe_op {op : Operator} {r : R2} (ho : OpR X (binaryOp op) r) (ha : PE X a ta) (hb : PE X b tb) : PE X (.BinOp a op b pos) (tOp r ta tb) := by
  intro pins s σ H Q I h
  exact wpAny_BinOp (binT ha hb I h fun v u s2 x y H2 I2 rx ry q => ho pins s2 σ H2 x y v u Q I2 rx ry q)
theorem pe_un {op : UnaryOp} {r : V → Hp → VK → Prop} (ho : UnR X (unaryOp op) r) (ha : PE X a ta) : PE X (.UnaryOp op a pos) (tUn r ta) := by
  intro pins s σ H Q I h
  exact UnaryOp_ (thn (ha pins s σ H _ I h) fun v s1 ⟨x, H1, I1, r1, q1⟩ => ho pins s1 σ H1 x v Q I1 r1 q1)
theorem opI {f : Value → Value → Sem Value} {C : Int → Int → Prop} {g : Int → Int → Int}
    (rule : ∀ (i j : Int) (t u : Tok) (s : Shared) (Q : Value → Shared → Prop) (E : Value → Shared → Prop), C i j → Q (.int (g i j) s.toks) { s with toks := s.toks + 1 } → wpAny (model X.prog X.w) X.A (f (.int i t) (.int j u)) Q E s) :
    OpR X f (rI C fun i j => .int (g i j)) := by
  intro pins s σ H x y v u Q I rx ry h
  obtain ⟨i, j, rfl, rfl, hc, q⟩ := h
  obtain ⟨t, rfl⟩ := rx
  obtain ⟨t', rfl⟩ := ry
  exact rule i j t t' s _ _ hc ⟨.int (g i j), H, I.tok _, ⟨_, rfl⟩, q⟩
theorem opI0 {f : Value → Value → Sem Value} {g : Int → Int → Int}
    (rule : ∀ (i j : Int) (t u : Tok) (s : Shared) (Q : Value → Shared → Prop) (E : Value → Shared → Prop), Q (.int (g i j) s.toks) { s with toks := s.toks + 1 } → wpAny (model X.prog X.w) X.A (f (.int i t) (.int j u)) Q E s) :
    OpR X f (rI0 fun i j => .int (g i j)) := by
  intro pins s σ H x y v u Q I rx ry h
  obtain ⟨i, j, rfl, rfl, q⟩ := h
  obtain ⟨t, rfl⟩ := rx
  obtain ⟨t', rfl⟩ := ry
  exact rule i j t t' s _ _ ⟨.int (g i j), H, I.tok _, ⟨_, rfl⟩, q⟩
theorem opB0 {f : Value → Value → Sem Value} {g : Int → Int → Bool}
    (rule : ∀ (i j : Int) (t u : Tok) (s : Shared) (Q : Value → Shared → Prop) (E : Value → Shared → Prop), Q (.bool (g i j)) s → wpAny (model X.prog X.w) X.A (f (.int i t) (.int j u)) Q E s) :
    OpR X f (rI0 fun i j => .bl (g i j)) := by
  intro pins s σ H x y v u Q I rx ry h
  obtain ⟨i, j, rfl, rfl, q⟩ := h
  obtain ⟨t, rfl⟩ := rx
  obtain ⟨t', rfl⟩ := ry
  exact rule i j t t' s _ _ ⟨.bl (g i j), H, I, rfl, q⟩

def CDiv (i j : Int) : Prop := 0 < j ∧ j < 1073741824
def CPow (i j : Int) : Prop := 0 ≤ j ∧ j ≤ 1000000 ∧ i.natAbs < 2 ^ 64
def CMul (i j : Int) : Prop := (-(2 ^ 64) < i ∧ i < 2 ^ 64) ∨ (-(2 ^ 64) < j ∧ j < 2 ^ 64)
theorem CMul.ok {i j : Int} (h : CMul i j) : IntMulOk i j := by
  rcases h with ⟨h1, h2⟩ | ⟨h1, h2⟩
  · exact .of_left (intBits_le_64 h1 h2)
  · exact .of_right (intBits_le_64 h1 h2)
theorem two_pow_nn (k : Nat) : (0 : Int) ≤ 2 ^ k := by
  rw [two_pow_cast]
  exact Int.natCast_nonneg _

theorem op_add : OpR X (binaryOp .Add) (rI0 fun i j => .int (i + j)) := opI0 fun _ _ _ _ _ _ _ q => add_int q
theorem op_sub : OpR X (binaryOp .Sub) (rI0 fun i j => .int (i - j)) := opI0 fun _ _ _ _ _ _ _ q => sub_int q
theorem op_mul : OpR X (binaryOp .Mult) (rI CMul fun i j => .int (i * j)) := opI fun _ _ _ _ _ _ _ hc q => mul_int q hc.ok
/-- // by a positive divisor -/
theorem op_fdiv : OpR X (binaryOp .FloorDiv) (rI CDiv fun i j => .int (i / j)) := opI fun i j _ _ _ _ _ hc q => by
  have h1 : (0 : Int) < j := hc.1
  have h2 : j < 1073741824 := hc.2
  exact floordiv_int (by omega) (by rw [Int.fdiv_eq_ediv_of_nonneg i (by omega)]; exact q) (.inl (PyProof.noPylong_small (by omega)))
/-- % by a positive divisor of any size -/
theorem op_mod : OpR X (binaryOp .Mod) (rI (fun _ j => 0 < j) fun i j => .int (i % j)) := opI fun i j _ _ _ _ _ hc q => by
  have h1 : (0 : Int) < j := hc
  exact mod_int' (by omega) (by rw [Int.fmod_eq_emod_of_nonneg i (by omega)]; exact q)
theorem op_shl : OpR X (binaryOp .LShift) (rI CPow fun i j => .int (i * 2 ^ j.toNat)) := opI fun _ _ _ _ _ _ _ hc q => lshift_int_small hc.1 hc.2.1 hc.2.2 q
theorem op_shr : OpR X (binaryOp .RShift) (rI (fun _ j => 0 ≤ j) fun i j => .int (i / 2 ^ j.toNat)) := opI fun i j _ _ _ _ _ hc q =>
  rshift_int hc (by rw [Int.fdiv_eq_ediv_of_nonneg i (two_pow_nn _)]; exact q)
theorem op_and : OpR X (binaryOp .BitAnd) (rI0 fun i j => .int (Builtin.bitAnd i j)) := opI0 fun _ _ _ _ _ _ _ q => and_int q
theorem op_or : OpR X (binaryOp .BitOr) (rI0 fun i j => .int (Builtin.bitOr i j)) := opI0 fun _ _ _ _ _ _ _ q => or_int q
theorem op_xor : OpR X (binaryOp .BitXor) (rI0 fun i j => .int (Builtin.bitXor i j)) := opI0 fun _ _ _ _ _ _ _ q => xor_int q

theorem unI {f : Value → Sem Value} {g : Int → Int}
    (rule : ∀ (i : Int) (t : Tok) (s : Shared) (Q : Value → Shared → Prop) (E : Value → Shared → Prop), Q (.int (g i) s.toks) { s with toks := s.toks + 1 } → wpAny (model X.prog X.w) X.A (f (.int i t)) Q E s) :
    UnR X f (rU fun i => .int (g i)) := by
  intro pins s σ H x v Q I rx h
  obtain ⟨i, rfl, q⟩ := h
  obtain ⟨t, rfl⟩ := rx
  exact rule i t s _ _ ⟨.int (g i), H, I.tok _, ⟨_, rfl⟩, q⟩
theorem un_inv : UnR X (unaryOp .Invert) (rU fun i => .int (Builtin.bitNot i)) := unI fun _ _ _ _ _ q => invert_int q

end

/-- the scalars that == tells apart as data does -/
def scal : V → V → Bool
  | .non, .non => true | .non, .int _ => true | .int _, .non => true | .non, .bl _ => true | .bl _, .non => true | .non, .str _ => true | .str _, .non => true
  | .int _, .int _ => true | .bl _, .bl _ => true | .str _, .str _ => true | .byt _, .byt _ => true
  | .int _, .str _ => true | .str _, .int _ => true | .bl _, .str _ => true | .str _, .bl _ => true
  | _, _ => false
def rEq : R2 := fun x y H Q => scal x y = true ∧ Q (.bl (decide (x = y))) H
def rNe : R2 := fun x y H Q => scal x y = true ∧ Q (.bl (!decide (x = y))) H

theorem dec_int {i j : Int} : decide (V.int i = V.int j) = (i == j) := by
  rw [Bool.eq_iff_iff]
  simp
theorem dec_bl {i j : Bool} : decide (V.bl i = V.bl j) = (i == j) := by
  rw [Bool.eq_iff_iff]
  simp
theorem dec_str {i j : Str} : decide (V.str i = V.str j) = (i == j) := by
  rw [Bool.eq_iff_iff]
  simp
theorem dec_byt {i j : Array UInt8} : decide (V.byt i = V.byt j) = (i.toList == j.toList) := by
  rw [Bool.eq_iff_iff]
  cases i
  cases j
  simp

section
variable {X : Cx} {a b c : Expr} {ta tb tc : TE} {pos : Pos}
theorem fin_bl {pins : List (Addr × Obj)} {σ : St} {H : Hp} {s : Shared} {Q : VK} {k k' : Bool} (I : Inv X pins σ H s) (q : Q (.bl k) H) (e : k = k') : EP X pins σ Q (.bool k') s := by
  subst e
  exact ⟨.bl k, H, I, rfl, q⟩
theorem op_eq : OpR X (compareOp .Eq) rEq := by
  intro pins s σ H x y v u Q I rx ry h
  obtain ⟨hs, q⟩ := h
  cases x with
  | non =>
    cases rx
    cases y with
    | non => cases ry; exact PySem.EqNone.eq_none_none (fin_bl I q (by simp))
    | bl j => cases ry; exact PySem.EqNone.eq_none_bool (fin_bl I q (by simp))
    | int j => obtain ⟨t', rfl⟩ := ry; exact PySem.EqNone.eq_none_int (fin_bl I q (by simp))
    | str j => obtain ⟨t', rfl⟩ := ry; exact PySem.EqNone.eq_none_str (fin_bl I q (by simp))
    | _ => exact absurd (show false = true from hs) Bool.false_ne_true
  | bl i =>
    cases rx
    cases y with
    | non => cases ry; exact PySem.EqNone.eq_bool_none (fin_bl I q (by simp))
    | bl j => cases ry; exact eq_bool (fin_bl I q dec_bl)
    | str j => obtain ⟨t', rfl⟩ := ry; exact PySem.EqMixed.eq_bool_str (fin_bl I q (by simp))
    | _ => exact absurd (show false = true from hs) Bool.false_ne_true
  | int i =>
    obtain ⟨t, rfl⟩ := rx
    cases y with
    | non => cases ry; exact PySem.EqNone.eq_int_none (fin_bl I q (by simp))
    | int j => obtain ⟨t', rfl⟩ := ry; exact eq_int (fin_bl I q dec_int)
    | str j => obtain ⟨t', rfl⟩ := ry; exact PySem.EqMixed.eq_int_str (fin_bl I q (by simp))
    | _ => exact absurd (show false = true from hs) Bool.false_ne_true
  | str i =>
    obtain ⟨t, rfl⟩ := rx
    cases y with
    | non => cases ry; exact PySem.EqNone.eq_str_none (fin_bl I q (by simp))
    | bl j => cases ry; exact PySem.EqMixed.eq_str_bool (fin_bl I q (by simp))
    | int j => obtain ⟨t', rfl⟩ := ry; exact PySem.EqMixed.eq_str_int (fin_bl I q (by simp))
    | str j => obtain ⟨t', rfl⟩ := ry; exact eq_str (fin_bl I q dec_str)
    | _ => exact absurd (show false = true from hs) Bool.false_ne_true
  | byt i =>
    obtain ⟨t, rfl⟩ := rx
    cases y with
    | byt j => obtain ⟨t', rfl⟩ := ry; exact PySem.W.eq_bytes (fin_bl I q dec_byt)
    | _ => exact absurd (show false = true from hs) Bool.false_ne_true
  | _ => cases y <;> exact absurd (show false = true from hs) Bool.false_ne_true
theorem op_ne : OpR X (compareOp .NotEq) rNe := by
  intro pins s σ H x y v u Q I rx ry h
  obtain ⟨hs, q⟩ := h
  cases x with
  | non =>
    cases rx
    cases y with
    | non => cases ry; exact PySem.EqNone.ne_none_none (fin_bl I q (by simp))
    | bl j => cases ry; exact PySem.EqNone.ne_none_bool (fin_bl I q (by simp))
    | int j => obtain ⟨t', rfl⟩ := ry; exact PySem.EqNone.ne_none_int (fin_bl I q (by simp))
    | str j => obtain ⟨t', rfl⟩ := ry; exact PySem.EqNone.ne_none_str (fin_bl I q (by simp))
    | _ => exact absurd (show false = true from hs) Bool.false_ne_true
  | bl i =>
    cases rx
    cases y with
    | non => cases ry; exact PySem.EqNone.ne_bool_none (fin_bl I q (by simp))
    | bl j => cases ry; exact ne_bool (fin_bl I q (congrArg not dec_bl))
    | str j => obtain ⟨t', rfl⟩ := ry; exact PySem.EqMixed.ne_bool_str (fin_bl I q (by simp))
    | _ => exact absurd (show false = true from hs) Bool.false_ne_true
  | int i =>
    obtain ⟨t, rfl⟩ := rx
    cases y with
    | non => cases ry; exact PySem.EqNone.ne_int_none (fin_bl I q (by simp))
    | int j => obtain ⟨t', rfl⟩ := ry; exact ne_int (fin_bl I q (congrArg not dec_int))
    | str j => obtain ⟨t', rfl⟩ := ry; exact PySem.EqMixed.ne_int_str (fin_bl I q (by simp))
    | _ => exact absurd (show false = true from hs) Bool.false_ne_true
  | str i =>
    obtain ⟨t, rfl⟩ := rx
    cases y with
    | non => cases ry; exact PySem.EqNone.ne_str_none (fin_bl I q (by simp))
    | bl j => cases ry; exact PySem.EqMixed.ne_str_bool (fin_bl I q (by simp))
    | int j => obtain ⟨t', rfl⟩ := ry; exact PySem.EqMixed.ne_str_int (fin_bl I q (by simp))
    | str j => obtain ⟨t', rfl⟩ := ry; exact ne_str (fin_bl I q (congrArg not dec_str))
    | _ => exact absurd (show false = true from hs) Bool.false_ne_true
  | byt i =>
    obtain ⟨t, rfl⟩ := rx
    cases y with
    | byt j => obtain ⟨t', rfl⟩ := ry; exact PySem.W.ne_bytes (fin_bl I q (congrArg not dec_byt))
    | _ => exact absurd (show false = true from hs) Bool.false_ne_true
  | _ => cases y <;> exact absurd (show false = true from hs) Bool.false_ne_true

theorem op_lt : OpR X (compareOp .Lt) (rI0 fun i j => .bl (decide (i < j))) := opB0 fun _ _ _ _ _ _ _ q => lt_int q
theorem op_le : OpR X (compareOp .LtE) (rI0 fun i j => .bl (decide (i ≤ j))) := opB0 fun _ _ _ _ _ _ _ q => le_int q
theorem op_gt : OpR X (compareOp .Gt) (rI0 fun i j => .bl (decide (j < i))) := opB0 fun _ _ _ _ _ _ _ q => gt_int q
theorem op_ge : OpR X (compareOp .GtE) (rI0 fun i j => .bl (decide (j ≤ i))) := opB0 fun _ _ _ _ _ _ _ q => ge_int q
/-- is None, is not None: the right side a value none -/
theorem op_isN : OpR X (compareOp .Is) (fun x y H Q => y = .non ∧ Q (.bl (decide (x = .non))) H) := by
  intro pins s σ H x y v u Q I rx ry h
  obtain ⟨rfl, q⟩ := h
  cases ry
  refine is_none_gen (fin_bl I q ?_)
  cases x <;> first
    | (cases rx; rfl)
    | (obtain ⟨t, rfl⟩ := rx; rfl)
theorem nomark (b : Expr) {op : CmpOp} (h : op ≠ .In := by decide) (h2 : op ≠ .NotIn := by decide) : behindInMarks op b = false := by
  have e1 : (op == CmpOp.In) = false := by cases op <;> first | rfl | exact absurd rfl h
  have e2 : (op == CmpOp.NotIn) = false := by cases op <;> first | rfl | exact absurd rfl h2
  cases b <;> simp [behindInMarks, e1, e2]
/-- a comparison as a value; hm: nomark b, or (for in, not in) by with_unfolding_all rfl -/
theorem pe_cmpR {op : CmpOp} {r : R2} (ho : OpR X (compareOp op) r) (ha : PE X a ta) (hb : PE X b tb) (hm : behindInMarks op b = false) : PE X (.Compare a [op] [b] pos) (tOp r ta tb) := by
  intro pins s σ H Q I h
  exact wpAny_Compare1 (binT ha hb I h fun v u s2 x y H2 I2 rx ry q => ho pins s2 σ H2 x y v u Q I2 rx ry q) hm
/-- a reading of a value as a test -/
def tTest (t : TE) : TT := fun σ H Q => t σ H fun x H' => ∃ k, x = .bl k ∧ Q k H'
theorem pt_cmpR {op : CmpOp} {r : R2} (ho : OpR X (compareOp op) r) (ha : PE X a ta) (hb : PE X b tb) (hm : behindInMarks op b = false) : PT X (.Compare a [op] [b] pos) (tTest (tOp r ta tb)) := by
  intro pins s σ H Q I h
  refine wpAny_isTrue_Compare1 (thn (ha pins s σ H _ I h) fun v s1 ⟨x, H1, I1, r1, q1⟩ => thn (hb pins s1 σ H1 _ I1 q1) fun u s2 ⟨y, H2, I2, r2, q2⟩ =>
    thn (ho pins s2 σ H2 x y v u _ I2 r1 r2 q2) fun c s3 ⟨z, H3, I3, r3, k, e, q3⟩ => ?_) hm
  subst e
  cases r3
  exact wpAny_truthy_bool ⟨H3, I3, q3⟩
theorem line63 : (sizeLine : Nat) < 2 ^ 63 := by rw [sizeLine_eq]; decide
theorem vals1 {x : V} {us : List Value} (r : Vals [x] us) : ∃ u, us = [u] ∧ RelV x u := by
  cases r with
  | cons r1 r2 => cases r2; exact ⟨_, rfl, r1⟩
theorem vals2 {x y : V} {us : List Value} (r : Vals [x, y] us) : ∃ u w', us = [u, w'] ∧ RelV x u ∧ RelV y w' := by
  cases r with
  | cons r1 r2 =>
    cases r2 with
    | cons r3 r4 => cases r4; exact ⟨_, _, rfl, r1, r3⟩
theorem call_max2 (hc : X.calm = true) : CallR X (.builtin "max") (fun xs H Q => ∃ i j, xs = [.int i, .int j] ∧ Q (.int (if j > i then j else i)) H) := by
  intro pins s σ H xs us Q I r h
  obtain ⟨i, j, rfl, q⟩ := h
  obtain ⟨u, w', rfl, ⟨t, rfl⟩, ⟨t', rfl⟩⟩ := vals2 r
  refine max_two_ints (I.ok.hd hc) fun h' tk k => ⟨_, H, I.kept k, ?_, q⟩
  by_cases hj : j > i
  · rw [if_pos hj, if_pos hj]; exact ⟨_, rfl⟩
  · rw [if_neg hj, if_neg hj]; exact ⟨_, rfl⟩
end
end L2

namespace L2
open PySem PySem.Spec PyProof.Rows

structure ObjM (h : Heap) (x dx C : Addr) (mA : Str → Option Value) : Prop where
  obj : h.get? x = some (PySem.W.instObj C dx)
  ns : h.Ns1 dx mA
  ne : dx ≠ x

theorem lookIn_ns {h : Heap} {dx : Addr} {mA : Str → Option Value} (n : h.Ns1 dx mA) : ∃ od, h.get? dx = some od ∧ ∀ name, PySem.W.lookIn name od = some (mA name) := by
  obtain ⟨o, es, ep, ho, hd, hk, _, hm⟩ := n
  refine ⟨o, ho, fun name => ?_⟩
  have e := hm name
  unfold nsFind findBy at e
  rw [← Array.find?_toList] at e
  unfold PySem.W.lookIn
  rw [hd]
  dsimp only
  split
  · rename_i y q
    rw [q] at e
    exact congrArg some e
  · rename_i q
    rw [q] at e
    have a : es.toList.any (·.refKey) = false := by
      rw [List.any_eq_false]
      intro y hy
      obtain ⟨z, t, hkey⟩ := hk y (Array.mem_toList_iff.mp hy)
      simp [DictEntry.refKey, hkey]
    have a' : ¬ es.toList.any (·.refKey) = true := by rw [a]; exact Bool.false_ne_true
    rw [if_neg a']
    exact congrArg some e

theorem ObjM.look {h : Heap} {x dx C : Addr} {mA : Str → Option Value} (I : ObjM h x dx C mA) : ∃ od, PySem.W.InstAt h x (PySem.W.instObj C dx) C (some od) ∧ ∀ name, PySem.W.lookIn name od = some (mA name) :=
  let ⟨od, ho, hl⟩ := lookIn_ns I.ns
  ⟨od, ⟨I.obj, rfl, rfl, ho⟩, hl⟩

section
variable {prog : Program} {w : World} {A : Around} {E : Value → Shared → Prop} {s : Shared} {K : PySem.W.Frag} {x dx C f : Addr} {mA : Str → Option Value} {name : Str} {v : Value}

theorem get_map {expr : Bool} {Q : Value → Shared → Prop} (X : K.In s.heap) (I : ObjM s.heap x dx C mA) (hg : PySem.W.plainGet K C name = true) (hh : PySem.W.hasDictIn K C = true)
    (ha : PySem.W.findIn K (.ref C) name = some none) (hv : mA name = some v) (hv' : PySem.W.handedIn v = true) (h : Q v { s with toks := s.toks + 1 }) :
    wpAny (model prog w) A (getAttr (.ref x) name expr) Q E s := by
  obtain ⟨od, J, hl⟩ := I.look
  exact PySem.W.get_value X J (PySem.W.plainGet_of hg).1 (PySem.W.findObj_own hh ha rfl (by rw [hl, hv])) hv' h

theorem get_meth {pl : Sem Bool} {Q : Value × List Value → Shared → Prop} (X : K.In s.heap) (I : ObjM s.heap x dx C mA) (hg : PySem.W.plainGet K C name = true)
    (hf : PySem.W.findIn K (.ref C) name = some (some (.ref f))) (ht : PySem.W.isFn K (.ref f) = true) (hv : mA name = none) (h : Q (.ref f, [.ref x]) s) :
    wpAny (model prog w) A (getMethod (.ref x) name pl) Q E s := by
  obtain ⟨od, J, hl⟩ := I.look
  exact PySem.W.method_fn X J (PySem.W.plainGet_of hg).1 (PySem.W.plainGet_of hg).2 hf (beq_iff_eq.mp ht) (by show (PySem.W.lookIn name od).map (·.isSome) = some false; rw [hl, hv]; rfl) h

theorem set_map {ns : List Str} {Q : Unit → Shared → Prop} (X : K.In s.heap) (I : ObjM s.heap x dx C mA)
    (hs : PySem.W.findIn K (.ref C) "__setattr__" = some (some (.builtin "object.__setattr__"))) (hp : PySem.W.plainOver K C = true) (ht : PySem.W.takerIn K C name = some none) (hh : PySem.W.hasDictIn K C = true)
    (hw : PySem.Within mA ns) (hsz : ns.length ≤ sizeLine)
    (h : ∀ h', ObjM h' x dx C (fun y => if y = name then some v else mA y) → Heap.SameBut dx s.heap h' → Q () { s with heap := h', toks := s.toks + 2 }) :
    wpAny (model prog w) A (setAttr (.ref x) name v) Q E s := by
  obtain ⟨od, J, hl⟩ := I.look
  refine PySem.W.set_plain X J hs (PySem.W.osa_open (s := { s with toks := s.toks + 1 }) (r := none) X J hp ht fun b => ?_)
  obtain ⟨cd, hc, hd'⟩ := PySem.W.any_some hh
  have hx : s.heap.get? x = some ⟨.ref C, some dx, .plain, #[]⟩ := I.obj
  refine wpAny_bind (wpAny_pure (wpAny_bind (wpAny_bind (wpAny_loadPart hx (wpAny_bind (PySem.W.Looks.here (s := { s with toks := s.toks + 1 }) (PySem.W.looks_clsIn X hc) ?_))))))
  rw [hd']
  refine wpAny_pure (a := some dx) (wpAny_bind (wpAny_pure (wpAny_bind ?_)))
  refine wpAny_nsSet1 (s := { s with toks := s.toks + 1 }) I.ns fun h' hn2 hs2 => ?_
  obtain ⟨oD, esD, epD, hoD, hdD, hcD⟩ := hn2.count (PySem.Within.cons name v hw)
  refine wpAny_bind (wpAny_lookBehind hoD (by rw [hdD]; exact pastItsLine_dict (Nat.le_trans hcD (by rw [List.length_cons]; omega))) ?_)
  exact wpAny_pure (h _ ⟨(hs2.2 _ (Ne.symm I.ne)).trans I.obj, hn2, I.ne⟩ hs2)

/-- C(..): the dict at the heap's end, the instance behind it; then its __init__ -/
theorem make_map {R : Result → Shared → Prop} {vs : List Value} {kw : List (Str × Value)} (X : K.In s.heap) (hm : PySem.W.makesIn K C = true)
    (hi : PySem.W.findIn K (.ref C) "__init__" = some (some (.ref f))) (hf : PySem.W.typeIn K (.ref f) = some (.type "function"))
    (h : codeAny (model prog w) (A.under (.builtin "type.__call__" ⟨.ref C :: vs, kw⟩)) (.call (.ref f) ⟨.ref (s.heap.objs.size + 1) :: vs, kw⟩) (PySem.W.InitBack (s.heap.objs.size + 1) R)
      { s with heap := (s.heap.push PySem.W.emptyDict).push (PySem.W.instObj C s.heap.objs.size) }) :
    codeAny (model prog w) A (.call (.ref C) ⟨vs, kw⟩) R s := by
  obtain ⟨hh, g, d, t, os⟩ := s
  exact PySem.W.make_core (PySem.W.makes_of X hm) (PySem.W.looks_findIn X hi) (fun self => PySem.W.bind_fn X self hf) (.inl rfl) h
end

def putF (f : Str) (v : V) : List (Str × V) → List (Str × V)
  | [] => [(f, v)]
  | (g, x) :: r => if g = f then (g, v) :: r else (g, x) :: putF f v r
theorem lookup_putF (f g : Str) (v : V) : ∀ fs : List (Str × V), (putF f v fs).lookup g = if g = f then some v else fs.lookup g
  | [] => by
    show List.lookup g [(f, v)] = _
    by_cases h : g = f
    · have hb : (g == f) = true := beq_iff_eq.mpr h
      simp only [List.lookup, hb, if_pos h]
    · have hb : (g == f) = false := beq_eq_false_iff_ne.mpr h
      simp only [List.lookup, hb, if_neg h]
  | (k, x) :: r => by
    have ih := lookup_putF f g v r
    rw [show putF f v ((k, x) :: r) = (if k = f then (k, v) :: r else (k, x) :: putF f v r) from rfl]
    by_cases hk : k = f
    · rw [if_pos hk]
      by_cases h : g = k
      · have hb : (g == k) = true := beq_iff_eq.mpr h
        simp only [List.lookup, hb, if_pos (h.trans hk)]
      · have hb : (g == k) = false := beq_eq_false_iff_ne.mpr h
        simp only [List.lookup, hb, if_neg (fun e : g = f => h (e.trans hk.symm))]
    · rw [if_neg hk]
      by_cases h : g = k
      · have hb : (g == k) = true := beq_iff_eq.mpr h
        simp only [List.lookup, hb, if_neg (fun e : g = f => hk (h.symm.trans e))]
      · have hb : (g == k) = false := beq_eq_false_iff_ne.mpr h
        simp only [List.lookup, hb]
        exact ih
theorem keys_putF (f : Str) (v : V) : ∀ fs : List (Str × V), f ∈ (putF f v fs).map (·.1) ∧ ∀ g, g ∈ fs.map (·.1) → g ∈ (putF f v fs).map (·.1)
  | [] => ⟨by simp [putF], fun g h => by simp at h⟩
  | (k, x) :: r => by
    obtain ⟨i1, i2⟩ := keys_putF f v r
    rw [show putF f v ((k, x) :: r) = (if k = f then (k, v) :: r else (k, x) :: putF f v r) from rfl]
    by_cases hk : k = f
    · rw [if_pos hk]
      subst hk
      exact ⟨by simp, fun g h => by simpa using h⟩
    · rw [if_neg hk]
      refine ⟨?_, fun g h => ?_⟩
      · rw [List.map_cons]
        exact List.mem_cons_of_mem _ i1
      · rw [List.map_cons] at h ⊢
        rcases List.mem_cons.mp h with e | e
        · exact List.mem_cons.mpr (.inl e)
        · exact List.mem_cons_of_mem _ (i2 g e)
theorem length_putF (f : Str) (v : V) : ∀ fs : List (Str × V), (putF f v fs).length ≤ fs.length + 1
  | [] => by simp [putF]
  | (k, x) :: r => by
    have ih := length_putF f v r
    rw [show putF f v ((k, x) :: r) = (if k = f then (k, v) :: r else (k, x) :: putF f v r) from rfl]
    by_cases hk : k = f
    · rw [if_pos hk, List.length_cons, List.length_cons]; omega
    · rw [if_neg hk, List.length_cons, List.length_cons]; omega

theorem RelO.some_of {v : V} {o : Option Value} (r : RelO (some v) o) : ∃ u, o = some u ∧ RelV v u := by
  cases o with
  | none => exact (show False from r).elim
  | some u => exact ⟨u, rfl, r⟩
theorem RelO.none_of {o : Option Value} (r : RelO none o) : o = none := by
  cases o with
  | none => rfl
  | some u => exact (show False from r).elim
theorem handed_of {v : V} {u : Value} (r : RelV v u) : PySem.W.handedIn u = true := by
  cases v with
  | non => cases (show u = Value.none from r); rfl
  | bl b => cases (show u = Value.bool b from r); rfl
  | int i => obtain ⟨t, e⟩ := (show ∃ t, u = Value.int i t from r); cases e; rfl
  | str x => obtain ⟨t, e⟩ := (show ∃ t, u = Value.str x t from r); cases e; rfl
  | byt b => obtain ⟨t, e⟩ := (show ∃ t, u = Value.bytes b t from r); cases e; rfl
  | flt b => obtain ⟨t, e⟩ := (show ∃ t, u = Value.float b t from r); cases e; rfl
  | ref a => cases (show u = Value.ref a from r); rfl
  | ty n => cases (show u = Value.type n from r); rfl

section
variable {P : Program} {w : World} {H H' : Hp} {h h' : Heap} {a C dx : Addr} {fs fs' : List (Str × V)}
theorem ins_get (hok : HOk P w H h) (e : H a = some (.ins C dx fs)) : ∃ mA, ObjM h a dx C mA ∧ (∀ f, RelO (fs.lookup f) (mA f)) ∧ PySem.Within mA (fs.map (·.1)) ∧ fs.length ≤ 1000 ∧ H dx = some (.own a) := by
  obtain ⟨d, z, ne, ob, mA, n, r, q⟩ := (show ObjOk P w H h a (.ins C dx fs) from hok a _ e)
  exact ⟨mA, ⟨ob, n, ne⟩, r, q, z, d⟩
end

structure Cls (K : PySem.W.Frag) (C : Addr) : Prop where
  pg : PySem.W.plainGet K C Str.empty = true
  hd : PySem.W.hasDictIn K C = true
  po : PySem.W.plainOver K C = true
  sa : PySem.W.findIn K (.ref C) "__setattr__" = some (some (.builtin "object.__setattr__"))
theorem Cls.get {K : PySem.W.Frag} {C : Addr} (c : Cls K C) (f : Str) : PySem.W.plainGet K C f = true := c.pg
/-- no class of it has the name -/
def NoAttr (K : PySem.W.Frag) (C : Addr) (f : Str) : Prop := PySem.W.findIn K (.ref C) f = some none
theorem NoAttr.taker {K : PySem.W.Frag} {C : Addr} {f : Str} (n : NoAttr K C f) : PySem.W.takerIn K C f = some none := by
  unfold PySem.W.takerIn
  rw [show PySem.W.findIn K (.ref C) f = some none from n]
  rfl
/-- a method: a plain def of the class or of one above it -/
structure Meth (K : PySem.W.Frag) (C : Addr) (m : Str) (f : Addr) : Prop where
  at_ : PySem.W.findIn K (.ref C) m = some (some (.ref f))
  fn : PySem.W.isFn K (.ref f) = true
  kp : PySem.W.keepIn K (.ref f) = true

section
variable {X : Cx} {pins : List (Addr × Obj)} {σ : St} {H : Hp} {s : Shared} {a C dx : Addr} {fs : List (Str × V)} {f : Str} {v : V} {A : Around} {E : Value → Shared → Prop}

theorem getattr_ok {b : Bool} {Q : Value → Shared → Prop} (I : Inv X pins σ H s) (e : H a = some (.ins C dx fs)) (c : Cls X.K C) (n : NoAttr X.K C f) (l : fs.lookup f = some v)
    (h : ∀ u s', Inv X pins σ H s' → RelV v u → Q u s') : wpAny (model X.prog X.w) A (getAttr (.ref a) f b) Q E s := by
  obtain ⟨mA, O, r, _, _, _⟩ := ins_get I.hok e
  obtain ⟨u, hu, ru⟩ := RelO.some_of (v := v) (o := mA f) (by rw [← l]; exact r f)
  exact get_map I.kIn O (c.get f) c.hd n hu (handed_of ru) (h u _ (I.tok _) ru)

theorem getmeth_ok {m : Str} {g : Addr} {pl : Sem Bool} {Q : Value × List Value → Shared → Prop} (I : Inv X pins σ H s) (e : H a = some (.ins C dx fs)) (c : Cls X.K C) (k : Meth X.K C m g) (l : fs.lookup m = none)
    (h : Q (.ref g, [.ref a]) s) : wpAny (model X.prog X.w) A (getMethod (.ref a) m pl) Q E s := by
  obtain ⟨mA, O, r, _, _, _⟩ := ins_get I.hok e
  have hn : mA m = none := RelO.none_of (by rw [← l]; exact r m)
  exact get_meth I.kIn O (c.get m) k.at_ k.fn hn h

theorem setattr_ok {y : V} {u : Value} {Q : Unit → Shared → Prop} (I : Inv X pins σ H s) (e : H a = some (.ins C dx fs)) (c : Cls X.K C) (n : NoAttr X.K C f) (hl : fs.length < 1000) (ry : RelV y u)
    (h : ∀ s', Inv X pins σ (upd H a (.ins C dx (putF f y fs))) s' → Q () s') : wpAny (model X.prog X.w) A (setAttr (.ref a) f u) Q E s := by
  obtain ⟨mA, O, r, wi, _, ho⟩ := ins_get I.hok e
  have hz : (fs.map (·.1)).length ≤ sizeLine := by rw [List.length_map, sizeLine_eq]; omega
  refine set_map I.kIn O c.sa c.po n.taker c.hd wi hz fun h' O' sb => h _ ?_
  have hd : ∃ o, h'.get? dx = some o := let ⟨o, _, _, e', _⟩ := O'.ns; ⟨o, e'⟩
  refine I.write (x := a) (e := dx) (by rw [e]; exact True.intro) (.inr ho) (fun b q hb z => (sb.2 b hb).trans z) hd ?_
  refine ⟨by rw [upd_ne O.ne]; exact ho, ?_, O.ne, O'.obj, _, O'.ns, fun g => ?_, fun g hg => ?_⟩
  · have := length_putF f y fs; omega
  · show RelO ((putF f y fs).lookup g) (if g = f then some u else mA g)
    rw [lookup_putF]
    by_cases q : g = f
    · rw [if_pos q, if_pos q]; exact ry
    · rw [if_neg q, if_neg q]; exact r g
  · by_cases q : g = f
    · rw [q]; exact (keys_putF f y fs).1
    · refine (keys_putF f y fs).2 g (wi g fun z => hg ?_)
      show (if g = f then some u else mA g) = none
      rw [if_neg q]; exact z

/-- a new instance, tracked, without attributes -/
theorem Inv.made (I : Inv X pins σ H s) : Inv X pins σ (upd (upd H s.heap.objs.size (.own (s.heap.objs.size + 1))) (s.heap.objs.size + 1) (.ins C s.heap.objs.size []))
    { s with heap := (s.heap.push PySem.W.emptyDict).push (PySem.W.instObj C s.heap.objs.size) } := by
  have e1 : (s.heap.push PySem.W.emptyDict).get? s.heap.objs.size = some PySem.W.emptyDict := Heap.get?_push_size s.heap rfl
  have e2 : ((s.heap.push PySem.W.emptyDict).push (PySem.W.instObj C s.heap.objs.size)).get? (s.heap.objs.size + 1) = some (PySem.W.instObj C s.heap.objs.size) := by
    have := Heap.get?_push_size (s.heap.push PySem.W.emptyDict) (o := PySem.W.instObj C s.heap.objs.size) rfl
    rwa [Heap.size_push] at this
  have e3 : (s.heap.push PySem.W.emptyDict).Ns s.heap.objs.size (fun _ => none) := ⟨PySem.W.emptyDict, #[], _, e1, rfl, (fun e he => absurd he (by simp)), fun _ => rfl⟩
  have I1 := I.laid (a := s.heap.objs.size) (o := .own (s.heap.objs.size + 1)) (h' := s.heap.push PySem.W.emptyDict) (t' := s.toks) (fun b u q => Heap.get?_push_of_some _ q) (Nat.le_refl _) ⟨_, e1⟩
  refine I1.laid (a := s.heap.objs.size + 1) (o := .ins C s.heap.objs.size []) (t' := s.toks) (fun b u q => Heap.get?_push_of_some _ q) (Nat.le_of_eq (Heap.size_push _ _)) ?_
  have ne : s.heap.objs.size ≠ s.heap.objs.size + 1 := Nat.ne_of_lt (Nat.lt_succ_self _)
  refine ⟨by rw [upd_ne ne, upd_same], Nat.zero_le _, ne, e2, fun _ => none, (Heap.Ns1.of_empty e3).at fun o q => Heap.get?_push_of_some _ q, fun _ => True.intro, fun y hy => absurd rfl hy⟩

/-- e.f where nothing but the object is asked: through attributeBase (super) and the last hold -/
theorem attr_of {prog : Program} {w : World} {env : Env} {e : Expr} {f : Str} {pos : Pos} {s : Shared} {Q : Value → Shared → Prop} (hb : attributeBase e f env (eval e env) = eval e env)
    (h : wpAny (model prog w) A (eval e env) (fun o s₁ => wpAny (model prog w) A (getAttr o f true) Q E s₁) E s) : wpAny (model prog w) A (eval (.Attribute e f pos) env) Q E s :=
  Attribute_any_ h (by rw [arm_eval_Attribute, hb])
end

/-- e.f, an attribute of the instance -/
def tFld (K : PySem.W.Frag) (ta : TE) (f : Str) : TE := fun σ H Q => ta σ H fun x H1 => ∃ a C dx fs v, x = .ref a ∧ H1 a = some (.ins C dx fs) ∧ Cls K C ∧ NoAttr K C f ∧ fs.lookup f = some v ∧ Q v H1
/-- e.f = value -/
def sFld (K : PySem.W.Frag) (ta tv : TE) (f : Str) : TS := fun D σ H => tv σ H fun y H1 => ta σ H1 fun x H2 => ∃ a C dx fs, x = .ref a ∧ H2 a = some (.ins C dx fs) ∧ Cls K C ∧ NoAttr K C f ∧ fs.length < 1000 ∧
  D.nx σ (upd H2 a (.ins C dx (putF f y fs)))
section
variable {X : Cx} {o e value : Expr} {f : Str} {pos pos' tpos : Pos} {ta tv : TE}
theorem pe_fld (he : PE X e ta) (hb : attributeBase e f X.env (eval e X.env) = eval e X.env) : PE X (.Attribute e f pos) (tFld X.K ta f) := by
  intro pins s σ H Q I h
  refine attr_of hb (thn (he pins s σ H _ I h) fun u s1 hz => ?_)
  obtain ⟨x, H1, I1, rx, a, C, dx, fs, v, ex, ea, c, n, l, q⟩ := hz
  subst ex
  obtain rfl : u = Value.ref a := rx
  exact getattr_ok I1 ea c n l fun u' s2 I2 ru => ⟨v, H1, I2, ru, q⟩
theorem ps_fld (ha : PE X o ta) (hv : PE X value tv) (hs : swapsWith value (some (.Attribute o f pos')) pos.line X.env = pure false) : PS X (.Assign [.Attribute o f pos'] value pos) (sFld X.K ta tv f) := by
  intro pins s σ H D I h
  refine plainObj_wpAny_Assign_Attribute (thn (hv pins s σ H _ I h) fun u s1 ⟨y, H1, I1, ry, q⟩ => thn (ha pins s1 σ H1 _ I1 q) fun ov s2 hz => ?_) hs
  obtain ⟨x, H2, I2, rx, a, C, dx, fs, ex, ea, c, n, l, q2⟩ := hz
  subst ex
  obtain rfl : ov = Value.ref a := rx
  exact setattr_ok I2 ea c n l ry fun s3 I3 => ⟨σ, _, I3, q2⟩
end

section
variable {X : Cx} {pins : List (Addr × Obj)} {σ : St} {H : Hp} {s : Shared} {A : Around} {E : Value → Shared → Prop} {Q : Value → Shared → Prop} {c : Value} {b : Bool}
end
end L2

namespace L2
open PySem PySem.Spec PyProof.Rows

structure Room (k : Nat) (A : Around) : Prop where
  hd : A.handled = none
  dp : A.depth + 3 * k + 5 < recursionLimit
  un : A.units + 16 * k + 200 < cLine
theorem Room.mono {j k : Nat} {A : Around} (r : Room k A) (h : j ≤ k) : Room j A := ⟨r.hd, by have := r.dp; omega, by have := r.un; omega⟩
theorem Room.deeper {k : Nat} {A : Around} (r : Room (k + 1) A) (env : Env) : Room k (A.deeper env) :=
  ⟨r.hd, by have := r.dp; show A.depth + 1 + 3 * k + 5 < _; omega, by have := r.un; show A.units + 3 + 16 * k + 200 < _; omega⟩
theorem make_depth {A : Around} {C : Addr} {us : List Value} {kw : List (Str × Value)} : (A.under (.builtin "type.__call__" ⟨.ref C :: us, kw⟩)).depth = A.depth + 1 := by
  first | rfl | simp [Around.under, Code.weight, Code.isCreation, Code.isGuard, Code.isCaller, Code.frames, Code.isFrame, guardIds]
theorem make_units {A : Around} {C : Addr} {us : List Value} {kw : List (Str × Value)} : (A.under (.builtin "type.__call__" ⟨.ref C :: us, kw⟩)).units = A.units + 1 := by
  first | rfl | simp [Around.under, Code.cUnits, Code.frames, Code.isFrame]
theorem Room.make {k : Nat} {A : Around} (r : Room (k + 1) A) (C : Addr) (us : List Value) (kw : List (Str × Value)) : Room k (A.under (.builtin "type.__call__" ⟨.ref C :: us, kw⟩)) :=
  ⟨r.hd, by have := r.dp; rw [make_depth]; omega, by have := r.un; rw [make_units]; omega⟩
theorem Room.depth {k : Nat} {A : Around} (r : Room k A) : A.depth < recursionLimit := by have := r.dp; omega
def tNil : TA := fun _ H Q => Q [] H
def tCons (ta : TE) (tr : TA) : TA := fun σ H Q => ta σ H fun x H1 => tr σ H1 fun xs H2 => Q (x :: xs) H2
section
variable {X : Cx} {e : Expr} {es : List Expr} {te : TE} {t : TA} {pos : Pos}
theorem pa_nil : PA X [] tNil := fun _ _ _ _ H Q I h => Calls.spliced_nil ⟨[], H, I, .nil, h⟩
theorem pa_cons (ha : PE X e te) (hr : PA X es t) (hs : starEach (e :: es) X.env = (false, eval e X.env) :: starEach es X.env := by rfl) : PA X (e :: es) (tCons te t) := by
  intro pos pins s σ H Q I h
  rw [hs]
  show wpAny _ _ (spliced ((false, eval e X.env) :: backTo pos (starEach es X.env))) _ _ s
  refine Calls.spliced_cons (thn (ha pins s σ H _ I h) fun u s1 ⟨x, H1, I1, r1, q1⟩ => ?_)
  exact thn (hr pos pins s1 σ H1 _ I1 q1) fun us s2 ⟨xs, H2, I2, r2, q2⟩ => ⟨x :: xs, H2, I2, .cons r1 r2, q2⟩

def tLst (t : TA) : TE := fun σ H Q => t σ H fun xs H1 => xs.length ≤ sizeLine ∧ ∀ p, H1 p = none → Q (.ref p) (upd H1 p (.lst xs))
theorem pe_lst (h : PA X es t) : PE X (.List es pos) (tLst t) := by
  intro pins s σ H Q I hq
  refine wpAny_List_spliced (thn (h pos pins s σ H _ I hq) fun us s1 ⟨xs, H1, I1, r, z, q⟩ => ⟨by rw [← r.length]; exact z, ?_⟩)
  have hf : H1 s1.heap.objs.size = none := I1.hok.fresh (Nat.le_refl _)
  refine ⟨.ref s1.heap.objs.size, upd H1 s1.heap.objs.size (.lst xs), I1.laid (t' := s1.toks) (fun b u e => Heap.get?_push_of_some _ e) (Nat.le_refl _) ?_, rfl, q _ hf⟩
  exact ⟨z, us, 0, r, Heap.get?_push_size _ rfl⟩
end

/-- a def's promise: the bound arguments in the parameters' order, the heap, the wanted end, the wanted exception -/
abbrev Sp := List V → Hp → VK → XK → Prop
/-- how an exception lies behind a call (file 08 gives it): the callers' frames, abstract heap and state ahead of the call, the wish, the exception, the state -/
abbrev CXT := List Env → Hp → Shared → XK → Value → Shared → Prop

/-- the state at a call -/
structure Env0 (P : Program) (w : World) (K : PySem.W.Frag) (mg : Str → Option Value) (base : Heap) (A : Around) (outer : List Env) (s : Shared) (H : Hp) : Prop where
  frames : A.frames = some outer
  mod : Mod K mg base
  bs : ∀ b o, base.get? b = some o → s.heap.get? b = some o ∧ H b = none
  bsz : base.objs.size ≤ s.heap.objs.size
  funs : s.heap.FunFrames base outer
  frf : ∀ b ∈ frs outer, H b = none
  hok : HOk P w H s.heap
  bare : AllBare s.gens
/-- a call's end -/
def CE (outer : List Env) (P : Program) (w : World) (H : Hp) (s : Shared) (Q : VK) (u : Value) (s' : Shared) : Prop :=
  ∃ v H', s'.os = s.os ∧ AllBare s'.gens ∧ Un (frs outer) [] H H' s.heap s'.heap ∧ HOk P w H' s'.heap ∧ RelV v u ∧ Q v H'
def CR (CX : CXT) (outer : List Env) (P : Program) (w : World) (H : Hp) (s : Shared) (Q : VK) (E : XK) (r : Result) (s' : Shared) : Prop :=
  match r with
  | .ok (.ret u) => CE outer P w H s Q u s'
  | .ok _ => False
  | .error e => CX outer H s E e s'
structure FnOk (P : Program) (w : World) (K : PySem.W.Frag) (mg : Str → Option Value) (base : Heap) (CX : CXT) (k : Nat) (f : Addr) (fd : FuncData) (ps : List Str) (sp : Sp) : Prop where
  len : ∀ vs H Q E, sp vs H Q E → vs.length = ps.length
  run : ∀ (A : Around) (outer : List Env) (s : Shared) (H : Hp) (args : Args) (us : List Value) (vs : List V) (Q : VK) (E : XK), Room k A → Env0 P w K mg base A outer s H → BindsTo s fd args (ps.zip us) → Vals vs us → sp vs H Q E →
    codeAny (model P w) A (.call (.ref f) args) (CR CX outer P w H s Q E) s
theorem Env0.make {P : Program} {w : World} {K : PySem.W.Frag} {mg : Str → Option Value} {base : Heap} {A : Around} {outer : List Env} {s : Shared} {H : Hp} (e : Env0 P w K mg base A outer s H) (C : Addr) (us : List Value) (kw : List (Str × Value)) :
    Env0 P w K mg base (A.under (.builtin "type.__call__" ⟨.ref C :: us, kw⟩)) outer s H := ⟨by first | exact e.frames | (simpa [Around.under, Code.envs, Code.isFrame, pushEnvs] using e.frames), e.mod, e.bs, e.bsz, e.funs, e.frf, e.hok, e.bare⟩
section
variable {X : Cx} {pins : List (Addr × Obj)} {σ : St} {H : Hp} {s s' : Shared}
/-- from a body: what a callee wants -/
theorem Inv.env0 (I : Inv X pins σ H s) : Env0 X.prog X.w X.K X.mg X.base X.A X.stack s H :=
  ⟨I.ok.frames, I.ok.mod, I.bs, Nat.le_trans I.ok.bsz I.sz, I.stack, I.stkFree, I.hok, I.bare⟩
/-- behind a call -/
theorem Inv.after {Q : VK} {u : Value} (I : Inv X pins σ H s) (h : CE X.stack X.prog X.w H s Q u s') : EP X pins σ Q u s' := by
  obtain ⟨v, H', os, bare, un, hok, r, q⟩ := h
  obtain ⟨hh, g, d, t, os'⟩ := s'
  obtain rfl : os' = s.os := os
  exact ⟨v, H', I.call (h' := hh) (g' := g) (d' := d) (t' := t) (ch := []) un hok bare (fun b z => absurd z (by simp)), r, q⟩
end

/-- f(..): the written arguments, then the defaults dvs; E: what is wanted of an exception -/
def tCall (sp : Sp) (dvs : List V) (E : XK) (t : TA) : TE := fun σ H Q => t σ H fun vs H1 => sp (vs ++ dvs) H1 Q E
/-- o.m(..) of an instance of the class at C -/
def tMeth (C : Addr) (m : Str) (sp : Sp) (dvs : List V) (E : XK) (ta : TE) (t : TA) : TE := fun σ H Q => ta σ H fun x H1 => ∃ a dx fs, x = .ref a ∧ H1 a = some (.ins C dx fs) ∧ fs.lookup m = none ∧
  t σ H1 fun vs H2 => sp (x :: (vs ++ dvs)) H2 Q E
/-- C(..): a new instance and its dict, then __init__ -/
def tMake (C : Addr) (sp : Sp) (dvs : List V) (E : XK) (t : TA) : TE := fun σ H Q => t σ H fun vs H1 => ∀ x dx, H1 x = none → H1 dx = none → dx ≠ x →
  sp (.ref x :: (vs ++ dvs)) (upd (upd H1 dx (.own x)) x (.ins C dx [])) (fun v H2 => v = .non ∧ Q (.ref x) H2) E

/-- how the parameters are bound: us the positional arguments, kw the keywords' values by name, ds the defaults that fill up -/
def Binds (K : PySem.W.Frag) (fd : FuncData) (ps : List Str) (ds : List Value) : Prop :=
  ∀ (s : Shared) (us : List Value), K.In s.heap → (us ++ ds).length = ps.length → BindsTo s fd ⟨us, []⟩ (ps.zip (us ++ ds))
/-- every parameter is given -/
theorem Binds.all {K : PySem.W.Frag} {fd : FuncData} {ps : List Str} (h : ∀ us : List Value, us.length = ps.length → bindArgs fd ⟨us, []⟩ = pure (ps.zip us)) : Binds K fd ps [] := fun s us _ hl => by
  rw [List.append_nil] at hl ⊢
  exact .of_eq (h us hl)

/-- an exception of a callee reaches what this body wants of exceptions -/
def Passes (CX : CXT) (X : Cx) (E : XK) : Prop := ∀ (pins : List (Addr × Obj)) (σ : St) (H : Hp) (s : Shared) (e : Value) (s' : Shared), Inv X pins σ H s → CX X.stack H s E e s' → X.xe e s'

section
variable {X : Cx} {CX : CXT} {k : Nat} {f C : Addr} {fd : FuncData} {ps : List Str} {sp : Sp} {dvs : List V} {ds : List Value} {E : XK} {x m : Str} {p pos apos : Pos} {e o : Expr} {es : List Expr} {ta : TE} {t : TA}

/-- the callee runs -/
theorem run_fn {pins : List (Addr × Obj)} {σ : St} {H : Hp} {s : Shared} {Q : VK} {us : List Value} {vs : List V} (F : FnOk X.prog X.w X.K X.mg X.base CX k f fd ps sp) (hr : Room k X.A) (hb : Binds X.K fd ps ds) (hd : Vals dvs ds) (hx : Passes CX X E)
    (I : Inv X pins σ H s) (r : Vals vs us) (h : sp (vs ++ dvs) H Q E) : wpAny (model X.prog X.w) X.A (call (.ref f) us) (EP X pins σ Q) X.xe s := by
  have r2 : Vals (vs ++ dvs) (us ++ ds) := r.append hd
  have hl : (us ++ ds).length = ps.length := by rw [← r2.length]; exact F.len _ _ _ _ h
  refine wpAny_call (codeAny_mono (F.run X.A X.stack s H ⟨us, []⟩ (us ++ ds) (vs ++ dvs) Q E hr I.env0 (hb s us I.kIn hl) r2 h) fun r s' hq => ?_)
  cases r with
  | error e => exact hx pins σ H s e s' I hq
  | ok fl =>
    cases fl with
    | ret u => exact I.after hq
    | next => exact False.elim hq
    | brk => exact False.elim hq
    | cont => exact False.elim hq

theorem pe_call (F : FnOk X.prog X.w X.K X.mg X.base CX k f fd ps sp) (hr : Room k X.A) (hg : Gl X x) (hm : X.mg x = some (.ref f)) (hk : PySem.W.keepIn X.K (.ref f) = true) (hb : Binds X.K fd ps ds) (hd : Vals dvs ds) (hx : Passes CX X E)
    (ha : PA X (e :: es) t) (hdb : (x == ("__debug__" : Str)) = false := by decide) (he : starEach (e :: es) X.env = (false, eval e X.env) :: starEach es X.env := by rfl) (hpl : (backTo pos (starEach es X.env)).any (·.1) = false := by rfl) :
    PE X (.Call (.Name x p) (e :: es) [] pos) (tCall sp dvs E t) := by
  intro pins s σ H Q I h
  refine wpAny_Call_Name_kw (ld_glob I hg hm ?_ hdb)
  refine PySem.W.callWith_K (h₀ := X.base) I.ok.mod.kin hk (thn (ha pos pins s σ H _ I h) fun us s1 ⟨vs, H1, I1, r, q⟩ => ⟨I1.kIn, ?_⟩) he hpl
  exact run_fn F hr hb hd hx I1 r q
/-- o.m(e, ..) -/
theorem pe_meth {pl : Sem Bool} (he : PE X o ta) (c : Cls X.K C) (hm : Meth X.K C m f) (F : FnOk X.prog X.w X.K X.mg X.base CX k f fd ps sp) (hr : Room k X.A) (hb : Binds X.K fd ps ds) (hd : Vals dvs ds) (hx : Passes CX X E) (ha : PA X (e :: es) t)
    (hst : starEach (e :: es) X.env = (false, eval e X.env) :: starEach es X.env := by rfl) (hpl : (backTo pos (starEach es X.env)).any (·.1) = false := by rfl)
    (ht : eval (.Call (.Attribute o m apos) (e :: es) [] pos) X.env = (do
      let ov ← eval o X.env
      standAt apos.atName
      let (f, first) ← holding [ov] (getMethod ov m pl)
      callWith pos f first (backTo pos (starEach (e :: es) X.env)) (backToKw pos (keywordEach [] X.env))) := by rfl) :
    PE X (.Call (.Attribute o m apos) (e :: es) [] pos) (tMeth C m sp dvs E ta t) := by
  intro pins s σ H Q I h
  refine PySem.W.methodCall_KW (pl := pl) (thn (he pins s σ H _ I h) fun u s1 hz => ?_) ht
  obtain ⟨x, H1, I1, rx, a, dx, fs, ex, ea, l, q⟩ := hz
  subst ex
  obtain rfl : u = Value.ref a := rx
  refine getmeth_ok I1 ea c hm l ?_
  refine PySem.W.callWith_K (first := [.ref a]) (h₀ := X.base) I.ok.mod.kin hm.kp (thn (ha pos pins s1 σ H1 _ I1 q) fun us s2 ⟨vs, H2, I2, r, q2⟩ => ⟨I2.kIn, ?_⟩) hst hpl
  exact run_fn (us := .ref a :: us) (vs := .ref a :: vs) F hr hb hd hx I2 (.cons rfl r) q2
/-- o.m() -/
theorem pe_meth0 {pl : Sem Bool} (he : PE X o ta) (c : Cls X.K C) (hm : Meth X.K C m f) (F : FnOk X.prog X.w X.K X.mg X.base CX k f fd ps sp) (hr : Room k X.A) (hb : Binds X.K fd ps ds) (hd : Vals dvs ds) (hx : Passes CX X E)
    (ht : eval (.Call (.Attribute o m apos) [] [] pos) X.env = (do
      let ov ← eval o X.env
      standAt apos.atName
      let (f, first) ← holding [ov] (getMethod ov m pl)
      callWith pos f first (backTo pos (starEach [] X.env)) (backToKw pos (keywordEach [] X.env))) := by rfl) :
    PE X (.Call (.Attribute o m apos) [] [] pos) (tMeth C m sp dvs E ta tNil) := by
  intro pins s σ H Q I h
  refine PySem.W.methodCall_KW (pl := pl) (thn (he pins s σ H _ I h) fun u s1 hz => ?_) ht
  obtain ⟨x, H1, I1, rx, a, dx, fs, ex, ea, l, q⟩ := hz
  subst ex
  obtain rfl : u = Value.ref a := rx
  refine getmeth_ok I1 ea c hm l ?_
  exact PySem.W.callWith_K0 (first := [.ref a]) I1.kIn hm.kp (run_fn (us := [.ref a]) (vs := [.ref a]) F hr hb hd hx I1 (.cons rfl .nil) q)

/-- what a class must have to be made -/
structure Mk (K : PySem.W.Frag) (C f : Addr) : Prop where
  makes : PySem.W.makesIn K C = true
  init : PySem.W.findIn K (.ref C) "__init__" = some (some (.ref f))
  fn : PySem.W.isFn K (.ref f) = true
  kp : PySem.W.keepIn K (.ref C) = true

theorem run_make {pins : List (Addr × Obj)} {σ : St} {H : Hp} {s : Shared} {Q : VK} {us : List Value} {vs : List V} (M : Mk X.K C f) (F : FnOk X.prog X.w X.K X.mg X.base CX k f fd ps sp) (hr : Room (k + 1) X.A) (hb : Binds X.K fd ps ds) (hd : Vals dvs ds)
    (hx : Passes CX X E) (I : Inv X pins σ H s) (r : Vals vs us)
    (h : ∀ x dx, H x = none → H dx = none → dx ≠ x → sp (.ref x :: (vs ++ dvs)) (upd (upd H dx (.own x)) x (.ins C dx [])) (fun v H2 => v = .non ∧ Q (.ref x) H2) E) :
    wpAny (model X.prog X.w) X.A (call (.ref C) us) (EP X pins σ Q) X.xe s := by
  have hq := h (s.heap.objs.size + 1) s.heap.objs.size (I.hok.fresh (Nat.le_succ _)) (I.hok.fresh (Nat.le_refl _)) (Nat.ne_of_lt (Nat.lt_succ_self _))
  have I2 := Inv.made (C := C) I
  have r2 : Vals (V.ref (s.heap.objs.size + 1) :: (vs ++ dvs)) (Value.ref (s.heap.objs.size + 1) :: (us ++ ds)) := .cons rfl (r.append hd)
  have hl : (Value.ref (s.heap.objs.size + 1) :: us ++ ds).length = ps.length := by
    have e := r2.length
    rw [F.len _ _ _ _ hq] at e
    exact e.symm
  refine wpAny_call (make_map (f := f) I.kIn M.makes M.init (beq_iff_eq.mp M.fn) (codeAny_mono (F.run _ X.stack _ _ ⟨Value.ref (s.heap.objs.size + 1) :: us, []⟩ (Value.ref (s.heap.objs.size + 1) :: (us ++ ds)) _ _ E (hr.make C us [])
    (I2.env0.make C us []) (hb _ (Value.ref (s.heap.objs.size + 1) :: us) I2.kIn hl) r2 hq) fun r s' hq' => ?_))
  cases r with
  | error e => exact hx pins σ _ _ e s' I2 hq'
  | ok fl =>
    cases fl with
    | ret u =>
      obtain ⟨v, H', I3, rv, ev, q3⟩ := I2.after hq'
      subst ev
      exact ⟨rv, ⟨V.ref (s.heap.objs.size + 1), H', I3, rfl, q3⟩⟩
    | next => exact False.elim hq'
    | brk => exact False.elim hq'
    | cont => exact False.elim hq'
theorem pe_make0 (M : Mk X.K C f) (F : FnOk X.prog X.w X.K X.mg X.base CX k f fd ps sp) (hr : Room (k + 1) X.A) (hg : Gl X x) (hm : X.mg x = some (.ref C)) (hb : Binds X.K fd ps ds) (hd : Vals dvs ds) (hx : Passes CX X E)
    (hdb : (x == ("__debug__" : Str)) = false := by decide) : PE X (.Call (.Name x p) [] [] pos) (tMake C sp dvs E tNil) := by
  intro pins s σ H Q I h
  refine wpAny_Call_Name_kw (ld_glob I hg hm ?_ hdb)
  exact PySem.W.callWith_K0 I.kIn M.kp (run_make (us := []) M F hr hb hd hx I .nil h)
end

/-- the values of the keywords, from the left -/
def PK (X : Cx) (kws : List Keyword) (t : TA) : Prop :=
  ∀ (pos : Pos) (pins : List (Addr × Obj)) (s : Shared) (σ : St) (H : Hp) (Q : List V → Hp → Prop), Inv X pins σ H s → t σ H Q → wpAny (model X.prog X.w) X.A (evalAll ((backToKw pos (keywordEach kws X.env)).map (·.2))) (AP X pins σ Q) X.xe s
section
variable {X : Cx} {CX : CXT} {k : Nat} {f C : Addr} {fd : FuncData} {ps ks : List Str} {sp : Sp} {E : XK} {x m : Str} {p pos apos kpos : Pos} {e o : Expr} {es : List Expr} {kws : List Keyword} {te ta : TE} {t tk : TA} {nm : Option Str}
theorem pk_nil : PK X [] tNil := fun _ _ _ _ H Q I h => wpAny_evalAll_nil ⟨[], H, I, .nil, h⟩
theorem pk_cons (ha : PE X e te) (hr : PK X kws t) : PK X (⟨nm, e, kpos⟩ :: kws) (tCons te t) := by
  intro pos pins s σ H Q I h
  show wpAny _ _ (evalAll ((do let v ← eval e X.env; standAt pos; pure v) :: (backToKw pos (keywordEach kws X.env)).map (·.2))) _ _ s
  refine wpAny_evalAll_cons (wpAny_bind (thn (ha pins s σ H _ I h) fun u s1 ⟨x, H1, I1, r1, q1⟩ => wpAny_bind (wpAny_standAt (wpAny_pure ?_))))
  exact thn (hr pos pins s1 σ H1 _ I1 q1) fun us s2 ⟨xs, H2, I2, r2, q2⟩ => ⟨x :: xs, H2, I2, .cons r1 r2, q2⟩

variable {g : List Value → List Value → List Value} {gV : List V → List V → List V}
end

/-- names: the parameters first -/
structure FnScope (N P : List Str) (sc : Scope) : Prop where
  kind : sc.kind = .function
  co : sc.isCoroutine = false
  gen : sc.isGenerator = false
  nd : N.Nodup
  pre : N.take P.length = P
  par : ∀ x ∈ P, sc.names.lookup x = some .local ∨ sc.names.lookup x = some .cell
  nofree : ∀ y ∈ sc.names, y.2 ≠ .free

theorem bindL_out {kindOf : Str → Option NameKind} {x : Str} : ∀ {binds : List (Str × Value)} {m : Str → Option Value}, (∀ v, (x, v) ∉ binds) → bindL kindOf binds m x = m x
  | [], _, _ => rfl
  | (n, v) :: r, m, h => by
    unfold bindL
    rw [bindL_out fun w hw => h w (List.mem_cons_of_mem _ hw)]
    split
    · have : x ≠ n := by rintro rfl; exact h v List.mem_cons_self
      simp [this]
    · rfl
theorem bindC_out {kindOf : Str → Option NameKind} {x : Str} : ∀ {binds : List (Str × Value)} {m : Str → Option Value}, (∀ v, (x, v) ∉ binds) → bindC kindOf binds m x = m x
  | [], _, _ => rfl
  | (n, v) :: r, m, h => by
    unfold bindC
    rw [bindC_out fun w hw => h w (List.mem_cons_of_mem _ hw)]
    split
    · rfl
    · have : x ≠ n := by rintro rfl; exact h v List.mem_cons_self
      simp [this]
theorem bindL_get {kindOf : Str → Option NameKind} {x : Str} {v : Value} : ∀ {P : List Str} {vs : List Value} {i : Nat} {m : Str → Option Value}, P.Nodup → P[i]? = some x → vs[i]? = some v → kindOf x = some .local →
    bindL kindOf (P.zip vs) m x = some v
  | [], _, _, _, _, h, _, _ => by simp at h
  | _ :: _, [], _, _, _, _, h, _ => by simp at h
  | p :: P, w :: vs, 0, m, nd, h1, h2, hk => by
    simp at h1 h2; subst h1; subst h2
    show bindL kindOf ((p, w) :: P.zip vs) m p = _
    unfold bindL
    rw [bindL_out fun v hv => (List.nodup_cons.mp nd).1 (List.of_mem_zip hv).1, if_pos hk]
    simp
  | p :: P, w :: vs, i + 1, m, nd, h1, h2, hk => by
    show bindL kindOf ((p, w) :: P.zip vs) m x = _
    unfold bindL
    exact bindL_get (i := i) (List.nodup_cons.mp nd).2 (by simpa using h1) (by simpa using h2) hk
theorem bindC_get {kindOf : Str → Option NameKind} {x : Str} {v : Value} : ∀ {P : List Str} {vs : List Value} {i : Nat} {m : Str → Option Value}, P.Nodup → P[i]? = some x → vs[i]? = some v → kindOf x ≠ some .local →
    bindC kindOf (P.zip vs) m x = some v
  | [], _, _, _, _, h, _, _ => by simp at h
  | _ :: _, [], _, _, _, _, h, _ => by simp at h
  | p :: P, w :: vs, 0, m, nd, h1, h2, hk => by
    simp at h1 h2; subst h1; subst h2
    show bindC kindOf ((p, w) :: P.zip vs) m p = _
    unfold bindC
    rw [bindC_out fun v hv => (List.nodup_cons.mp nd).1 (List.of_mem_zip hv).1, if_neg hk]
    simp
  | p :: P, w :: vs, i + 1, m, nd, h1, h2, hk => by
    show bindC kindOf ((p, w) :: P.zip vs) m x = _
    unfold bindC
    exact bindC_get (i := i) (List.nodup_cons.mp nd).2 (by simpa using h1) (by simpa using h2) hk

/-- the names' values at the entry -/
def start (N : List Str) (vs : List V) : St := vs.map some ++ List.replicate (N.length - vs.length) none

/-- the context of a def's body, at its entry; an exception leaves the frame, then lies as CX says -/
def cxOf (CX : CXT) (P : Program) (w : World) (K : PySem.W.Frag) (mg : Str → Option Value) (base : Heap) (N : List Str) (qual : Str) (scope : Scope) (f : Addr) (cd : Value) (A : Around) (outer : List Env) (s : Shared) (H : Hp) (E : XK) : Cx where
  prog := P
  w := w
  K := K
  mg := mg
  base := base
  A := A.deeper (envOfC qual scope s.heap.objs.size f cd)
  N := N
  s_0 := s
  H_0 := H
  env := envOfC qual scope s.heap.objs.size f cd
  outer := outer
  stack := envOfC qual scope s.heap.objs.size f cd :: outer
  ex := []
  calm := true
  fn := fun _ => true
  pn := []
  xe := fun e s' => wpAny (model P w) (A.deeper (envOfC qual scope s.heap.objs.size f cd)) (leaving (envOfC qual scope s.heap.objs.size f cd) e) (fun _ s'' => CX outer H s E e s'') (fun e' s'' => CX outer H s E e' s'') s'

theorem cell_has {sc : Scope} {n : Nat} {x : Str} (h : sc.names.lookup x = some .cell) : ∃ c, (cellsFrom n sc.names []).lookup x = some c := by
  have q := PySem.W.cellsFrom_some sc.names n [] (.inl h)
  exact Option.isSome_iff_exists.mp q

theorem inv_start {CX : CXT} {P : Program} {w : World} {K : PySem.W.Frag} {mg : Str → Option Value} {base : Heap} {N ps : List Str} {qual : Str} {scope : Scope} {f : Addr} {cd : Value} {A : Around} {outer : List Env} {s s1 : Shared} {H : Hp} {E : XK} {us : List Value} {vs : List V}
    (S : FnScope N ps scope) (hd : A.handled = none) (e0 : Env0 P w K mg base A outer s H) (hl : vs.length = ps.length) (r : Vals vs us)
    (x : InCallC s s.heap.objs.size (bindL (envOfC qual scope s.heap.objs.size f cd).kindOf (ps.zip us) fun _ => none) (cellsFrom (s.heap.objs.size + 1) scope.names []) (bindC (envOfC qual scope s.heap.objs.size f cd).kindOf (ps.zip us) fun _ => none) s1) :
    Inv (cxOf CX P w K mg base N qual scope f cd A outer s H E) [] (start N vs) H s1 := by
  have hpl : ps.length ≤ N.length := by have := congrArg List.length S.pre; rw [List.length_take] at this; omega
  obtain ⟨h1, tk, rfl, hk⟩ := x.done
  have noA : ∀ b : Addr, b ∉ (cxOf CX P w K mg base N qual scope f cd A outer s H E).ex := fun b z => absurd (show b ∈ ([] : List Addr) from z) (by simp)
  refine ⟨⟨e0.mod, S.kind, rfl, rfl, Nat.le_refl _, fun y z c h1 h2 => ?_, fun y hy => ?_, fun y c _ h => ?_, fun _ => hd, Around.frames_deeper e0.frames, .inr ⟨rfl, rfl⟩, fun b z => absurd z (noA b), e0.bs, e0.bsz, fun b _ _ => noA b, fun b z => absurd z (noA b), e0.funs, e0.frf⟩,
    rfl, e0.bare, Un.kept hk, ⟨_, x.toInCall.ns, fun i y v h1 h2 h3 => ?_⟩, fun y c h => ⟨_, x.cell y c h⟩, e0.hok.fresh (Nat.le_refl _), fun y c h => ?_, fun p hp => absurd (show p ∈ ([] : List (Addr × Obj)) from hp) (by simp), e0.hok.kept hk, ?_⟩
  · exact name_of_addr x.apart (PySem.mem_of_lookup h1) (PySem.mem_of_lookup h2)
  · have hy : scope.names.lookup y = some .cell ∨ scope.names.lookup y = some .free := hy
    rcases hy with hy | hy
    · exact cell_has hy
    · exact absurd rfl (S.nofree _ (PySem.mem_of_lookup hy))
  · exact Nat.le_of_lt (x.above y c (PySem.mem_of_lookup h))
  · have hi : i < vs.length := by
      unfold start at h2
      by_cases hi : i < vs.length
      · exact hi
      · rw [List.getElem?_append_right (by simpa using hi)] at h2
        rw [List.getElem?_replicate] at h2
        split at h2 <;> cases h2
    have ha : vs[i]? = some v := by
      unfold start at h2
      rw [List.getElem?_append_left (by simpa using hi), List.getElem?_map] at h2
      cases e : vs[i]? with
      | none => rw [e] at h2; cases h2
      | some a => rw [e] at h2; cases h2; rfl
    obtain ⟨u, hu, rv⟩ := r.get ha
    have hp : ps[i]? = some y := by
      rw [← S.pre, List.getElem?_take_of_lt (by omega)]; exact h1
    have ndP : ps.Nodup := by rw [← S.pre]; exact S.nd.sublist (List.take_sublist _ _)
    refine ⟨u, rv, ?_⟩
    rcases S.par y (List.mem_of_getElem? hp) with k | k
    · exact .inl ⟨k, bindL_get ndP hp hu k⟩
    · obtain ⟨c, e⟩ := cell_has (n := s.heap.objs.size + 1) k
      refine .inr ⟨.inl k, c, e, ?_⟩
      have q := x.cell y c e
      rw [bindC_get ndP hp hu (by show scope.names.lookup y ≠ _; rw [k]; decide)] at q
      exact q
  · exact e0.hok.fresh (Nat.le_of_lt (x.above y c (PySem.mem_of_lookup h)))
  · unfold start
    show _ = N.length
    rw [List.length_append, List.length_map, List.length_replicate]
    omega

/-- THE RULE: a def (or a method) of the text, by its body. The body's reading t is chosen for each entry; it is run at the parameters' values -/
theorem fn_of {CX : CXT} {P : Program} {w : World} {K : PySem.W.Frag} {mg : Str → Option Value} {base : Heap} {k : Nat} {f : Addr} {name qual : Str} {params : Arguments} {body : List Stmt} {scope : Scope} {dV kV doc pm cdv ct oc : Value} {an od : Option Addr}
    {osl : Array (Option Value)} {N ps : List Str} {sp : Sp} (lk : K.lookup f = some ⟨oc, od, .func (PySem.W.fnOf name qual params body scope dV kV doc pm an cdv ct), osl⟩) (hcd : PySem.W.codeIn K cdv qual = true) (S : FnScope N ps scope)
    (len : ∀ vs H Q E, sp vs H Q E → vs.length = ps.length)
    (hbody : ∀ (A : Around) (outer : List Env) (s : Shared) (H : Hp) (vs : List V) (Q : VK) (E : XK), Room k (A.deeper (envOfC qual scope s.heap.objs.size f cdv)) → sp vs H Q E →
      ∃ t, PSs (cxOf CX P w K mg base N qual scope f cdv A outer s H E) body t ∧ t { nx := fun _ H' => Q .non H', rt := Q } (start N vs) H) :
    FnOk P w K mg base CX (k + 1) f (PySem.W.fnOf name qual params body scope dV kV doc pm an cdv ct) ps sp := by
  refine ⟨len, fun A outer s H args us vs Q E hr e0 hb r hsp => ?_⟩
  have hl := len _ _ _ _ hsp
  have KX : K.In s.heap := e0.mod.kin.keeps fun b o e => (e0.bs b o e).1
  have lim : s.heap.NoLimit := e0.mod.nolimit.keeps fun b o e => (e0.bs b o e).1
  have hkind : ∀ y ∈ ps.zip us, scope.names.lookup y.1 = some .local ∨ (scope.names.lookup y.1 = some .cell ∧ ((cellsFrom (s.heap.objs.size + 1) scope.names []).lookup y.1).isSome = true) := fun ⟨n, v⟩ hy => by
    rcases S.par n (List.of_mem_zip hy).1 with q | q
    · exact .inl q
    · exact .inr ⟨q, PySem.W.cellsFrom_some _ _ _ (.inl q)⟩
  refine codeAny_call_function hr.depth (KX _ _ lk) rfl S.co S.gen rfl (PySem.W.codeRec_of KX hcd) (hb _ _ _ _ ?_)
  refine wpAny_newFunctionEnv_cells S.kind hkind fun env he s1 x => ?_
  subst he
  refine ⟨lim.keeps x.toInCall.keep, codeAny_func ?_⟩
  obtain ⟨t, ht, hq⟩ := hbody A outer s H vs Q E (hr.deeper _) hsp
  have I : Inv (cxOf CX P w K mg base N qual scope f cdv A outer s H E) [] (start N vs) H s1 := inv_start S hr.hd e0 hl r x
  refine wpAny_mono (ht [] s1 (start N vs) H _ I hq) (fun fl s' hs => ?_) fun e s' hs => hs
  have fin : ∀ {σ' : St} {H' : Hp} {v : V} {u : Value}, Inv (cxOf CX P w K mg base N qual scope f cdv A outer s H E) [] σ' H' s' → RelV v u → Q v H' → CE outer P w H s Q u s' :=
    fun {σ' H' v u} J rv q => ⟨v, H', J.os, J.bare, J.base, J.hok, rv, q⟩
  cases fl with
  | ret u =>
    obtain ⟨v, σ', H', J, rv, q⟩ := hs
    exact fin J rv q
  | next =>
    obtain ⟨σ', H', J, q⟩ := hs
    exact fin (v := V.non) (u := Value.none) J rfl q
  | brk =>
    obtain ⟨_, _, _, q⟩ := hs
    exact False.elim q
  | cont =>
    obtain ⟨_, _, _, q⟩ := hs
    exact False.elim q
end L2

namespace L2
open PySem PySem.Spec PyProof.Rows
section
variable {X : Cx} {x : Str} {p pos : Pos} {e : Expr} {es : List Expr} {t : TA} {id T : String} {r : List V → Hp → VK → Prop}

def tCB (r : List V → Hp → VK → Prop) (t : TA) : TE := fun σ H Q => t σ H fun vs H1 => r vs H1 Q
/-- f(e, ..), f a built-in function -/
theorem pe_callB (hc : CallR X (.builtin id) r) (hg : Gl X x) (hm : X.mg x = none) (hv : bootBuiltins x = some (.builtin id)) (ha : PA X (e :: es) t) (hn : x ≠ "__name__" := by decide) (hdb : (x == ("__debug__" : Str)) = false := by decide)
    (he : starEach (e :: es) X.env = (false, eval e X.env) :: starEach es X.env := by rfl) (hpl : (backTo pos (starEach es X.env)).any (·.1) = false := by rfl) : PE X (.Call (.Name x p) (e :: es) [] pos) (tCB r t) := by
  intro pins s σ H Q I h
  refine wpAny_Call_Name_kw (ld_blt I hg hm hv ?_ hn hdb)
  exact PyProof.Rows.callWith_builtin1 (thn (ha pos pins s σ H _ I h) fun us s1 ⟨vs, H1, I1, r1, q1⟩ => hc pins s1 σ H1 vs us Q I1 r1 q1) he hpl
/-- T(e, ..), T a built-in type -/
theorem pe_callTy (hc : CallR X (.type T) r) (hg : Gl X x) (hm : X.mg x = none) (hv : bootBuiltins x = some (.type T)) (ha : PA X (e :: es) t) (hn : x ≠ "__name__" := by decide) (hdb : (x == ("__debug__" : Str)) = false := by decide)
    (he : starEach (e :: es) X.env = (false, eval e X.env) :: starEach es X.env := by rfl) (hpl : (backTo pos (starEach es X.env)).any (·.1) = false := by rfl) : PE X (.Call (.Name x p) (e :: es) [] pos) (tCB r t) := by
  intro pins s σ H Q I h
  refine wpAny_Call_Name_kw (ld_blt I hg hm hv ?_ hn hdb)
  exact PyProof.Rows.callWith_type1 (thn (ha pos pins s σ H _ I h) fun us s1 ⟨vs, H1, I1, r1, q1⟩ => hc pins s1 σ H1 vs us Q I1 r1 q1) he hpl
end
end L2

namespace HT
open PySem PyProof.Rows

section
open PySem.SeqAt
open PySem.AutoSeq1 (wpAny_loadPart')
open PySem.MeetsSeq PySem.MeetsSeq2 PySem.MeetsSeq3

end

section
variable {prog : Program} {w : World} {A : Around} {E : Value → Shared → Prop} {s : Shared}

end
end HT

namespace L2
open PySem PySem.Spec PyProof.Rows

section
variable {X : Cx} {e : Expr} {te : TE} {lo hi : Option Expr} {tl th : TO} {pos p2 : Pos}

end
end L2

namespace L2
open PySem PySem.Spec PyProof.Rows

/-- the place that an index of any sign means -/
def ixN (n : Nat) (i : Int) : Option Nat := if 0 ≤ i then (if i < n then some i.toNat else none) else if -(n : Int) ≤ i then some (i + n).toNat else none
def atI {α : Type} (xs : List α) (i : Int) : Option α := (ixN xs.length i).bind fun j => xs[j]?
theorem ixN_seq {n : Nat} {i : Int} {j : Nat} (h : ixN n i = some j) : seqIndex? i n = some j ∧ j < n ∧ -(n : Int) ≤ i ∧ i < n := by
  unfold ixN at h
  by_cases h0 : 0 ≤ i
  · rw [if_pos h0] at h
    by_cases h1 : i < n
    · rw [if_pos h1] at h
      have e : i.toNat = j := Option.some.inj h
      exact ⟨by rw [seqIndex_of h0 h1, e], by omega, by omega, h1⟩
    · rw [if_neg h1] at h; cases h
  · rw [if_neg h0] at h
    by_cases h1 : -(n : Int) ≤ i
    · rw [if_pos h1] at h
      have e : (i + n).toNat = j := Option.some.inj h
      exact ⟨by rw [seqIndex_neg (by omega) h1, e], by omega, h1, by omega⟩
    · rw [if_neg h1] at h; cases h
theorem atI_get {α : Type} {xs : List α} {i : Int} {v : α} (h : atI xs i = some v) : ∃ j, seqIndex? i xs.length = some j ∧ xs[j]? = some v ∧ j < xs.length ∧ -(xs.length : Int) ≤ i ∧ i < xs.length := by
  unfold atI at h
  cases e : ixN xs.length i with
  | none => rw [e] at h; cases h
  | some j =>
    rw [e] at h
    obtain ⟨h1, h2, h3, h4⟩ := ixN_seq e
    exact ⟨j, h1, h, h2, h3, h4⟩
theorem atI_nat {α : Type} {xs : List α} {j : Nat} {v : α} (h : xs[j]? = some v) : atI xs (j : Int) = some v := by
  have hj : j < xs.length := (List.getElem?_eq_some_iff.mp h).1
  have e : ixN xs.length (j : Int) = some j := by
    unfold ixN
    rw [if_pos (by omega), if_pos (by omega)]; simp
  unfold atI; rw [e]; exact h
/-- what stands as an index of a plain subscript -/
def PlainIx (b : Expr) : Prop := ∀ o i, subscripted b false o i = operate [o, i] (getItem o i)
/-- a subscript by values -/
def IxR (X : Cx) (r : R2) : Prop :=
  ∀ (value slice : Expr) (pins : List (Addr × Obj)) (s : Shared) (σ : St) (H : Hp) (x y : V) (v u : Value) (Q : VK), Inv X pins σ H s → RelV x v → RelV y u → r x y H Q →
    subscripted slice false v u = operate [v, u] (getItem v u) → wpAny (model X.prog X.w) X.A (subscriptTail value slice v u) (EP X pins σ Q) X.xe s
/-- a call of a builtin's method by values: the receiver, the arguments -/
def MtR (X : Cx) (id : String) (r : V → List V → Hp → VK → Prop) : Prop :=
  ∀ (pins : List (Addr × Obj)) (s : Shared) (σ : St) (H : Hp) (x : V) (xs : List V) (v : Value) (us : List Value) (Q : VK), Inv X pins σ H s → RelV x v → Vals xs us → r x xs H Q →
    wpAny (model X.prog X.w) X.A (call (.builtin id) (v :: us)) (EP X pins σ Q) X.xe s
section
variable {X : Cx} {a b : Expr} {ta tb : TE} {pos : Pos}
/-- a[b] -/
theorem pe_ix {r : R2} (hr : IxR X r) (ha : PE X a ta) (hb : PE X b tb) (hs : PlainIx b) : PE X (.Subscript a b pos) (tOp r ta tb) := by
  intro pins s σ H Q I h
  exact Subscript_ (binT ha hb I h fun v u s2 x y H2 I2 rx ry q => hr a b pins s2 σ H2 x y v u Q I2 rx ry q (hs _ _))

def rIxL (K : PySem.W.Frag) : R2 := fun x y H Q => ∃ p xs i v, x = .ref p ∧ y = .int i ∧ SqL K H p xs ∧ atI xs i = some v ∧ Q v H
def rIxT (K : PySem.W.Frag) : R2 := fun x y H Q => ∃ p xs i v, x = .ref p ∧ y = .int i ∧ SqT K H p xs ∧ atI xs i = some v ∧ Q v H
theorem ix_list : IxR X (rIxL X.K) := by
  intro value slice pins s σ H x y v u Q I rx ry h hs
  obtain ⟨p, xs, i, z, rfl, rfl, hq, he, q⟩ := h
  cases rx
  obtain ⟨t, rfl⟩ := ry
  obtain ⟨its, r, pl, hz⟩ := I.list hq
  obtain ⟨j, h1, h2, h3, h4, h5⟩ := atI_get he
  obtain ⟨w, ew, rw'⟩ := r.get h2
  have hl := r.length
  have hn := line63
  have fin : EP X pins σ Q w s := ⟨z, H, I, rw', q⟩
  by_cases h0 : 0 ≤ i
  · have hj : i.toNat = j := by
      rw [seqIndex_of h0 h5] at h1
      exact Option.some.inj h1
    exact item_listR pl.isList h0 (by omega) (by rw [hj]; simpa using ew) fin hs
  · have hj : (i + (its.toArray.size : Int)).toNat = j := by
      rw [seqIndex_neg (by omega) h4] at h1
      rw [List.size_toArray, ← hl]
      exact Option.some.inj h1
    exact subscriptTail_builtinR (x := w) pl.isList.typeIs slot_list_getitem.lookup
      (wpAny_getItem_list_neg (Q := fun r s' => r = w ∧ EP X pins σ Q r s') pl.isList (by omega) (by rw [List.size_toArray] <;> omega) (by omega) (by rw [hj]; simpa using ew) ⟨rfl, fin⟩) hs
theorem ix_tup : IxR X (rIxT X.K) := by
  intro value slice pins s σ H x y v u Q I rx ry h hs
  obtain ⟨p, xs, i, z, rfl, rfl, hq, he, q⟩ := h
  cases rx
  obtain ⟨t, rfl⟩ := ry
  obtain ⟨its, r, pl, hz⟩ := I.tuple hq
  obtain ⟨j, h1, h2, h3, h4, h5⟩ := atI_get he
  obtain ⟨w, ew, rw'⟩ := r.get h2
  have hl := r.length
  have hn := line63
  have fin : EP X pins σ Q w s := ⟨z, H, I, rw', q⟩
  exact subscriptTail_builtinR (x := w) pl.typeIs slot_tuple_getitem.lookup
    (getItem_tuple (j := j) (Q := fun r s' => r = w ∧ EP X pins σ Q r s') pl (by omega) (by omega) (by rw [List.size_toArray, ← hl]; exact h1) (by simpa using ew) ⟨rfl, fin⟩) hs
/-- the list's object behind a store -/
theorem mapSeq_set (its : List Value) (n j : Nat) (u : Value) : Obj.mapSeq (·.setIfInBounds j u) { cls := .type "list", data := .seq its.toArray n } = { cls := .type "list", data := .seq (its.set j u).toArray n } := by
  simp [Obj.mapSeq]
theorem Inv.lst {pins : List (Addr × Obj)} {σ : St} {H : Hp} {s : Shared} {p : Addr} {xs : List V} (I : Inv X pins σ H s) (h : H p = some (.lst xs)) :
    ∃ (its : List Value) (n : Nat), Vals xs its ∧ s.heap.get? p = some { cls := .type "list", data := .seq its.toArray n } ∧ xs.length ≤ sizeLine := by
  obtain ⟨z, its, n, r, e⟩ := I.hok p _ h
  exact ⟨its, n, r, e, z⟩
/-- the list at p is written by an update of its object -/
theorem Inv.lstUpd {pins : List (Addr × Obj)} {σ : St} {H : Hp} {s : Shared} {p : Addr} {xs ys : List V} {its its' : List Value} {n n' : Nat} {f : Obj → Obj} (I : Inv X pins σ H s) (h : H p = some (.lst xs))
    (ho : s.heap.get? p = some { cls := .type "list", data := .seq its.toArray n }) (hf : f { cls := .type "list", data := .seq its.toArray n } = { cls := .type "list", data := .seq its'.toArray n' }) (r : Vals ys its') (hz : ys.length ≤ sizeLine) (t : Nat) :
    Inv X pins σ (upd H p (.lst ys)) { s with heap := s.heap.update p f, toks := t } := by
  have e : (s.heap.update p f).get? p = some { cls := .type "list", data := .seq its'.toArray n' } := by
    rw [Heap.get?_update_self f ho (by rw [hf] <;> rfl), hf]
  refine I.write (x := p) (e := p) (by rw [h]; trivial) (.inl rfl) (fun b u hb q => (Heap.get?_update_other _ _ (Ne.symm hb)).trans q) ⟨_, e⟩ ?_
  exact ⟨hz, its', n', r, e⟩
def rSetL : V → V → V → Hp → (Hp → Prop) → Prop := fun o i v H Q => ∃ p xs k j, o = .ref p ∧ i = .int k ∧ H p = some (.lst xs) ∧ ixN xs.length k = some j ∧ Q (upd H p (.lst (xs.set j v)))
theorem set_list : PSet X rSetL := by
  intro pins s σ H o i v ov iv u Q I ro ri rv h
  obtain ⟨p, xs, k, j, rfl, rfl, hp, hj, q⟩ := h
  cases ro
  obtain ⟨t, rfl⟩ := ri
  obtain ⟨its, n, r, ho, hz⟩ := I.lst hp
  obtain ⟨h1, h2, h3, h4⟩ := ixN_seq hj
  have hl := r.length
  have hn := line63
  have I' : Inv X pins σ (upd H p (.lst (xs.set j v))) { s with heap := s.heap.update p (Obj.mapSeq (·.setIfInBounds j u)) } :=
    I.lstUpd hp ho (mapSeq_set its n j u) (r.set rv j) (by rw [List.length_set]; exact hz) s.toks
  by_cases h0 : 0 ≤ k
  · have hk : k.toNat = j := by
      rw [seqIndex_of h0 h4] at h1
      exact Option.some.inj h1
    exact PySem.W.ki_setAt ho h0 (by omega) (by rw [List.size_toArray, ← hl]; exact h4) (by rw [hk]; exact ⟨_, I', q⟩)
  · have hk : (k + (its.toArray.size : Int)).toNat = j := by
      rw [seqIndex_neg (by omega) h3] at h1
      rw [List.size_toArray, ← hl]
      exact Option.some.inj h1
    exact PySem.W.ki_setBack ho (by omega) (by rw [List.size_toArray, ← hl]; exact h3) (by omega) (by rw [hk]; exact ⟨_, I', q⟩)

theorem call_len_seq : CallR X (.builtin "len") (fun xs H Q => ∃ p ys, xs = [.ref p] ∧ (SqL X.K H p ys ∨ SqT X.K H p ys) ∧ Q (.int ys.length) H) := by
  intro pins s σ H xs us Q I r h
  obtain ⟨p, ys, rfl, hq, q⟩ := h
  obtain ⟨u, rfl, rx⟩ := vals1 r
  cases rx
  have hn := line63
  rcases hq with hq | hq
  · obtain ⟨its, r', pl, hz⟩ := I.list hq
    have hlen := r'.length
    exact Calls.call_len_list pl.isList (by simp only [List.size_toArray] <;> omega) ⟨.int ys.length, H, I.tok _, ⟨s.toks + 1, by rw [List.size_toArray, hlen]⟩, q⟩
  · obtain ⟨its, r', pl, hz⟩ := I.tuple hq
    have hlen := r'.length
    exact len_tuple pl (by simp only [List.size_toArray] <;> omega) ⟨.int ys.length, H, I.tok _, ⟨s.toks + 1, by rw [List.size_toArray, hlen]⟩, q⟩
theorem call_list_of : CallR X (.type "list") (fun xs H Q => ∃ p ys, xs = [.ref p] ∧ (SqL X.K H p ys ∨ SqT X.K H p ys) ∧ ∀ l, H l = none → Q (.ref l) (upd H l (.lst ys))) := by
  intro pins s σ H xs us Q I r h
  obtain ⟨p, ys, rfl, hq, q⟩ := h
  obtain ⟨u, rfl, rx⟩ := vals1 r
  cases rx
  have fin : ∀ (its : List Value), Vals ys its → ys.length ≤ sizeLine → ∀ (h' : Heap) (c' : Nat), (∀ b o', s.heap.get? b = some o' → h'.get? b = some o') →
      h'.get? s.heap.objs.size = some { cls := .type "list", dict := none, data := .seq its.toArray c', slots := #[] } → EP X pins σ Q (.ref s.heap.objs.size) { s with heap := h' } := fun its r' hz h' c' kp e =>
    ⟨.ref s.heap.objs.size, _, I.laid (t' := s.toks) kp (Nat.le_refl _) (show ObjOk X.prog X.w _ h' _ (.lst ys) from ⟨hz, its, c', r', e⟩), rfl, q _ (I.hok.fresh (Nat.le_refl _))⟩
  rcases hq with hq | hq
  · obtain ⟨its, r', pl, hz⟩ := I.list hq
    have hlen := r'.length
    obtain ⟨o, ho, hc, n, hd⟩ := pl.isList
    exact call_list_seq p (.inl rfl) ho hc hd (fun h' c' kp e => fin its r' hz h' c' kp e) (by simp only [List.size_toArray] <;> omega)
  · obtain ⟨its, r', pl, hz⟩ := I.tuple hq
    have hlen := r'.length
    obtain ⟨o, ho, hc, n, hd⟩ := pl
    exact call_list_seq p (.inr rfl) ho hc hd (fun h' c' kp e => fin its r' hz h' c' kp e) (by simp only [List.size_toArray] <;> omega)
/-- the value is of that builtin type -/
def tyV (K : PySem.W.Frag) (T : String) (x : V) (H : Hp) : Prop := match x with
  | .str _ => T = "str"
  | .int _ => T = "int"
  | .ref p => (T = "list" ∧ ∃ xs, SqL K H p xs) ∨ (T = "tuple" ∧ ∃ o, K.lookup p = some o ∧ o.cls = .type "tuple" ∧ o.dict = none) ∨
      (T = "dict" ∧ ((∃ kvs, H p = some (.dK kvs)) ∨ ∃ kvs, H p = some (.dT kvs))) ∨ (T = "set" ∧ ∃ S n, H p = some (.set S n))
  | _ => False
theorem tyV_is {pins : List (Addr × Obj)} {σ : St} {H : Hp} {s : Shared} {T : String} {x : V} {v : Value} (I : Inv X pins σ H s) (r : RelV x v) (ty : tyV X.K T x H) :
    s.TypeIs v T ∧ ∀ a, v = .ref a → ∃ ob, s.heap.get? a = some ob ∧ ob.dict = none := by
  cases x with
  | str z =>
    obtain ⟨t, rfl⟩ := r
    cases (show T = "str" from ty)
    exact ⟨typeIs_str s z t, fun _ e => nomatch e⟩
  | int i =>
    obtain ⟨t, rfl⟩ := r
    cases (show T = "int" from ty)
    exact ⟨typeIs_int s i t, fun _ e => nomatch e⟩
  | ref p =>
    cases r
    rcases ty with ⟨rfl, xs, hq⟩ | ⟨rfl, o, hk, hc, hd⟩ | ⟨rfl, hk⟩ | ⟨rfl, S, n, hk⟩
    · obtain ⟨its, _, pl, _⟩ := I.list hq
      refine ⟨pl.isList.typeIs, fun a e => ?_⟩
      cases e
      obtain ⟨o, n, e, c, hd, _⟩ := pl
      exact ⟨o, e, hd⟩
    · refine ⟨⟨o, I.kIn p o hk, hc⟩, fun a e => ?_⟩
      cases e
      exact ⟨o, I.kIn _ o hk, hd⟩
    · have z : ∃ o, s.heap.get? p = some o ∧ o.ExactDict := by
        rcases hk with ⟨kvs, hk⟩ | ⟨kvs, hk⟩
        · obtain ⟨_, _, _, _, o, _, _, e, ex, _⟩ := I.hok p _ hk
          exact ⟨o, e, ex⟩
        · obtain ⟨_, _, _, _, o, _, _, e, ex, _⟩ := I.hok p _ hk
          exact ⟨o, e, ex⟩
      obtain ⟨o, e, ex⟩ := z
      refine ⟨⟨o, e, ex.1⟩, fun a e2 => ?_⟩
      cases e2
      exact ⟨o, e, ex.2.1⟩
    · obtain ⟨o, _, _, _, e, ex, _⟩ := I.hok p _ hk
      refine ⟨⟨o, e, ex.1⟩, fun a e2 => ?_⟩
      cases e2
      exact ⟨o, e, ex.2.1⟩
  | _ => exact False.elim ty
def tBM0 (K : PySem.W.Frag) (T : String) (r : V → List V → Hp → VK → Prop) (to : TE) : TE := fun σ H Q => to σ H fun x H1 => tyV K T x H1 ∧ r x [] H1 Q
def tBM (K : PySem.W.Frag) (T : String) (r : V → List V → Hp → VK → Prop) (to : TE) (t : TA) : TE := fun σ H Q => to σ H fun x H1 => tyV K T x H1 ∧ t σ H1 fun xs H2 => r x xs H2 Q
variable {o e : Expr} {es : List Expr} {to : TE} {t : TA} {name : Str} {apos cpos : Pos} {T id : String} {r : V → List V → Hp → VK → Prop}
theorem pe_bm0 (pa : PlainAttrs T) (slot : Slot T name id) (hty : typeOf (.builtin id) = pure (.type "method_descriptor")) (hm : MtR X id r) (ho : PE X o to)
    (hbase : attributeBase o name X.env (eval o X.env) = eval o X.env := by rfl) (hline : (apos.endLine == cpos.line) = true := by rfl) : PE X (.Call (.Attribute o name apos) [] [] cpos) (tBM0 X.K T r to) := by
  intro pins s σ H Q I h
  refine wpAny_Call_method0_late hbase hline (thn (ho pins s σ H _ I h) fun v s1 ⟨x, H1, I1, r1, ty, q1⟩ => ?_)
  obtain ⟨h1, h2⟩ := tyV_is I1 r1 ty
  exact ⟨T, id, pa, slot, hty, h1, h2, Calls.callWith_builtin rfl (PySem.evalArgs_none (hm pins s1 σ H1 x [] v [] Q I1 r1 .nil q1))⟩
theorem pe_bm (pa : PlainAttrs T) (slot : Slot T name id) (hty : typeOf (.builtin id) = pure (.type "method_descriptor")) (hm : MtR X id r) (ho : PE X o to) (ha : PA X (e :: es) t)
    (hbase : attributeBase o name X.env (eval o X.env) = eval o X.env := by rfl)
    (hfew : ((backTo cpos (starEach (e :: es) X.env)).all (fun x => !x.1) && (backToKw cpos (keywordEach [] X.env)).all (fun x => x.1.isSome)
      && decide ((e :: es).length + ([] : List Keyword).length + (if ([] : List Keyword).isEmpty then 0 else 1) < 30)) = true := by rfl)
    (hline : (apos.endLine == cpos.line) = true := by rfl) (hs : starEach (e :: es) X.env = (false, eval e X.env) :: starEach es X.env := by rfl) (hplain : (backTo cpos (starEach es X.env)).any (·.1) = false := by rfl) :
    PE X (.Call (.Attribute o name apos) (e :: es) [] cpos) (tBM X.K T r to t) := by
  intro pins s σ H Q I h
  refine wpAny_Call_method_late hbase hfew hline rfl (thn (ho pins s σ H _ I h) fun v s1 ⟨x, H1, I1, r1, ty, q1⟩ => ?_)
  obtain ⟨h1, h2⟩ := tyV_is I1 r1 ty
  refine ⟨T, id, pa, slot, hty, h1, h2, ?_⟩
  have hA := ha cpos pins s1 σ H1 _ I1 q1
  rw [hs] at hA ⊢
  refine Calls.callWith_builtin (by show (false || (backTo cpos (starEach es X.env)).any (·.1)) = false; rw [hplain] <;> rfl) (Calls.evalArgs_plain ?_)
  exact thn hA fun us s2 ⟨vs, H2, I2, r2, q2⟩ => hm pins s2 σ H2 x vs v us Q I2 r1 r2 q2
end
end L2

namespace L2
open PySem PySem.Spec PyProof.Rows

def MtM (X : Cx) (id : String) (r : V → List V → Hp → VK → Prop) : Prop :=
  ∀ (pins : List (Addr × Obj)) (s : Shared) (σ : St) (H : Hp) (x : V) (xs : List V) (v : Value) (us : List Value) (Q : VK), Inv X pins σ H s → RelV x v → Vals xs us → r x xs H Q →
    wpAny (model X.prog X.w) X.A (call (.builtin id) (v :: us)) (EP X pins σ Q) X.xe s

theorem Vals.one {x : V} {us : List Value} (h : Vals [x] us) : ∃ u, us = [u] ∧ RelV x u := by
  cases h with
  | cons r t =>
    cases t
    exact ⟨_, rfl, r⟩
theorem Vals.two {x y : V} {us : List Value} (h : Vals [x, y] us) : ∃ u v, us = [u, v] ∧ RelV x u ∧ RelV y v := by
  cases h with
  | cons r t =>
    obtain ⟨v, rfl, q⟩ := Vals.one t
    exact ⟨_, v, rfl, r, q⟩
section
variable {X : Cx} {pins : List (Addr × Obj)} {σ : St} {H : Hp} {s : Shared} {l b : Addr} {xs ys zs : List V}

theorem Inv.lset {its its' : List Value} {n : Nat} {f : Array Value → Array Value} {t' : Nat} (I : Inv X pins σ H s) (hH : H l = some (.lst xs))
    (e : s.heap.get? l = some { cls := .type "list", data := .seq its.toArray n }) (hf : f its.toArray = its'.toArray) (hv : Vals ys its') (hz : ys.length ≤ sizeLine) :
    Inv X pins σ (upd H l (.lst ys)) { s with heap := s.heap.update l (Obj.mapSeq f), toks := t' } := by
  have q := PySem.IsL.update e f
  rw [hf] at q
  refine I.write (x := l) (e := l) (by rw [hH]; exact trivial) (.inl rfl) (fun b' u hb hu => (Heap.get?_update_other s.heap (Obj.mapSeq f) (Ne.symm hb)).trans hu) ⟨_, q⟩ ?_
  exact ⟨hz, its', _, hv, q⟩
theorem Inv.lstM (I : Inv X pins σ H s) (hH : H l = some (.lst xs)) : xs.length ≤ sizeLine ∧ ∃ (its : List Value) (n : Nat), Vals xs its ∧ xs.length = its.length ∧ s.heap.get? l = some { cls := .type "list", data := .seq its.toArray n } := by
  obtain ⟨z, its, n, r, e⟩ := I.hok l _ hH
  exact ⟨z, its, n, r, r.length, e⟩

theorem notLongL {n : Nat} (h : n ≤ sizeLine) : Builtin.List.listTooLong n = false := by
  unfold Builtin.List.listTooLong
  exact decide_eq_false (by omega)
end

section
variable {X : Cx}

def rAppend : V → List V → Hp → VK → Prop := fun x vs H Q => ∃ l xs y, x = .ref l ∧ vs = [y] ∧ H l = some (.lst xs) ∧ xs.length < sizeLine ∧ Q .non (upd H l (.lst (xs ++ [y])))
theorem mt_append : MtM X "list.append" rAppend := by
  intro pins s σ H x vs v us Q I rx rv h
  obtain ⟨l, xs, y, rfl, rfl, hH, hz, q⟩ := h
  cases rx
  obtain ⟨u, rfl, ru⟩ := rv.one
  obtain ⟨z, its, n, r, hl, e⟩ := I.lstM hH
  refine call_meets F.slot_list_append ⟨_, e, rfl⟩ F.entry_list_append (F.args_list_append_2 _ _) (PySem.list_append l its.toArray n u (by rw [List.size_toArray]; omega)) ⟨e, ?_⟩
  refine ⟨.non, _, I.lset (its' := its ++ [u]) hH e (by simp) (r.append (.cons ru .nil)) ?_, rfl, q⟩
  rw [List.length_append, List.length_singleton]
  omega

def rExtend : V → List V → Hp → VK → Prop := fun x vs H Q => ∃ l b xs zs, x = .ref l ∧ vs = [.ref b] ∧ H l = some (.lst xs) ∧ H b = some (.lst zs) ∧ xs.length + zs.length ≤ sizeLine ∧ Q .non (upd H l (.lst (xs ++ zs)))
theorem mt_extend : MtM X "list.extend" rExtend := by
  intro pins s σ H x vs v us Q I rx rv h
  obtain ⟨l, b, xs, zs, rfl, rfl, hH, hB, hz, q⟩ := h
  cases rx
  obtain ⟨u, rfl, ru⟩ := rv.one
  cases ru
  obtain ⟨z, its, n, r, hl, e⟩ := I.lstM hH
  obtain ⟨z2, its2, n2, r2, hl2, e2⟩ := I.lstM hB
  have hsz : its.toArray.size + its2.toArray.size ≤ sizeLine := by rw [List.size_toArray, List.size_toArray]; omega
  have hlong : ¬ (!its.toArray.isEmpty && Builtin.List.listTooLong (its.toArray.size + its2.toArray.size)) = true := by
    rw [notLongL hsz, Bool.and_false]
    exact Bool.false_ne_true
  refine call_meets F.slot_list_extend ⟨_, e, rfl⟩ F.entry_list_extend (F.args_list_extend_2 _ _)
    (AutoSeq1.list_extend_list_list_0 l its.toArray n b its2.toArray n2 hlong (by rw [List.size_toArray]; omega) (by omega)) ⟨e, e2, ?_⟩
  refine ⟨.non, _, I.lset (its' := its ++ its2) hH e (by simp) (r.append r2) ?_, rfl, q⟩
  rw [List.length_append]
  omega

end

section
variable {prog : Program} {w : World} {A : Around} {E : Value → Shared → Prop} {s : Shared}
end

section
variable {X : Cx}
end
end L2

namespace L2
open PySem PySem.Spec PyProof.Rows

theorem Vals.ints : ∀ {ns : List Int} {us : List Value}, Vals (ns.map V.int) us → IntsAre us ns
  | [], us, h => by
    rw [List.map_nil] at h
    cases h
    exact IntsAre.nil
  | n :: ns, us, h => by
    rw [List.map_cons] at h
    cases h with
    | cons r t =>
      obtain ⟨k, rfl⟩ := r
      exact IntsAre.cons n k (Vals.ints t)
theorem Vals.ref1 {a : Addr} {us : List Value} (r : Vals [V.ref a] us) : us = [Value.ref a] := by
  cases r with
  | cons r t =>
    cases t
    cases r
    rfl
section
variable {prog : Program} {w : World} {A : Around} {E : Value → Shared → Prop} {s : Shared} {l : Addr} {its : List Value} {ns : List Int} {Q : Value → Shared → Prop}
theorem sum_raw (hh : A.handled = none) (hl : s.heap.IsList l its.toArray) (hi : IntsAre its ns)
    (h : ∀ h' tk t', (∀ b o, s.heap.get? b = some o → h'.get? b = some o) → Q (.int ns.sum t') { s with heap := h', toks := tk }) : wpAny (model prog w) A (call (.builtin "sum") [.ref l]) Q E s := by
  obtain ⟨xs, e⟩ := hi.allInts.items
  have hn : numsOf (intItems xs).toList = ns := by rw [← e]; exact hi.numsOf
  rw [nums_intItems] at hn
  rw [e] at hl
  refine PySem.sum_intListG hh hl fun h' tk t' hk => ?_
  have := h h' tk t' hk
  rw [preSum_eq, List.take_of_length_le (by simp), hn]; exact this
end

section
variable {X : Cx}
/-- sum(xs) of a list of ints -/
def rSum (K : PySem.W.Frag) : List V → Hp → VK → Prop := fun vs H Q => ∃ (a : Addr) (ns : List Int), vs = [V.ref a] ∧ SqL K H a (ns.map V.int) ∧ Q (.int ns.sum) H
theorem cr_sum (hc : X.calm = true) : CallR X (.builtin "sum") (rSum X.K) := by
  intro pins s σ H vs us Q I r h
  obtain ⟨a, ns, rfl, hs, q⟩ := h
  obtain ⟨its, rv, hl, _⟩ := I.list hs
  rw [Vals.ref1 r]
  exact sum_raw (I.ok.hd hc) hl.isList rv.ints fun h' tk t' hk => ⟨.int _, H, I.kept hk, ⟨_, rfl⟩, q⟩
end

section
variable {X : Cx}
end

section
variable {X : Cx}
end

section
variable {X : Cx}
end

section
variable {X : Cx} {pins : List (Addr × Obj)} {σ : St} {H : Hp} {s : Shared}
end
section
variable {X : Cx}
end
end L2

namespace L2
open PySem PySem.Spec PyProof.Rows
abbrev CellAt (h : Heap) (c : Addr) (v : Option Value) : Prop := h.IsCell c v
def relS (scope sc : Scope) : Scope :=
  { scope with names := scope.names.map fun (n, k) => if (k == .free && sc.kind == .function && sc.names.lookup n == some .cell) then (n, .cell) else (n, k) }

def cloFrom (cells : List (Str × Addr)) : List (Str × NameKind) → List (Str × Addr) → List (Str × Addr)
  | [], acc => acc
  | (n, k) :: r, acc => if k == .free then cloFrom cells r ((n, (cells.lookup n).getD 0) :: acc) else cloFrom cells r acc

theorem closure_loop (env : Env) (f : Str × NameKind → List (Str × Addr) → Sem (ForInStep (List (Str × Addr))))
    (hf : ∀ n k c, f (n, k) c = if k == .free then (do let a ← cellOf env n; pure (.yield ((n, a) :: c))) else pure (.yield c)) :
    ∀ (names : List (Str × NameKind)) (acc : List (Str × Addr)), (∀ y ∈ names, y.2 = .free → ∃ c, env.cells.lookup y.1 = some c) → forIn names acc f = pure (cloFrom env.cells names acc)
  | [], acc, _ => by rw [List.forIn_nil]; rfl
  | (n, k) :: r, acc, h => by
    rw [List.forIn_cons, hf]
    have ih := fun acc => closure_loop env f hf r acc fun y hy => h y (List.mem_cons_of_mem _ hy)
    unfold cloFrom
    by_cases hk : (k == NameKind.free) = true
    · rw [if_pos hk, if_pos hk]
      obtain ⟨c, hc⟩ := h (n, k) List.mem_cons_self (by simpa using hk)
      have e : cellOf env n = pure c := by unfold cellOf; rw [hc]
      rw [e]
      have e2 : (env.cells.lookup n).getD 0 = c := by rw [hc]; rfl
      rw [e2]
      exact ih _
    · rw [if_neg hk, if_neg hk]
      exact ih _
theorem closure_ok {scope : Scope} {env : Env} (h : ∀ y ∈ scope.names, y.2 = .free → ∃ c, env.cells.lookup y.1 = some c) : closureFor scope env = pure (cloFrom env.cells scope.names []) := by
  simp only [closureFor]
  rw [closure_loop env _ (fun n k c => rfl) scope.names [] h]
  rfl

theorem mem_lookup {α : Type} : ∀ {l : List (Str × α)} {n : Str} {c : α}, (n, c) ∈ l → ∃ c', l.lookup n = some c'
  | (k, v) :: r, n, c, h => by
    rw [List.lookup_cons]
    cases hb : n == k with
    | true => exact ⟨_, rfl⟩
    | false =>
      rcases List.mem_cons.mp h with e | h
      · cases e; simp at hb
      · exact mem_lookup h

theorem cloFrom_mem {cells : List (Str × Addr)} : ∀ {names : List (Str × NameKind)} {acc : List (Str × Addr)} {n : Str} {c : Addr}, (n, c) ∈ cloFrom cells names acc → (n, c) ∈ acc ∨ ((n, .free) ∈ names ∧ c = (cells.lookup n).getD 0)
  | [], _, _, _, h => .inl h
  | (m, k) :: r, acc, n, c, h => by
    unfold cloFrom at h
    split at h
    · rename_i hk
      have hk : k = .free := by simpa using hk
      rcases cloFrom_mem h with h | ⟨h1, h2⟩
      · rcases List.mem_cons.mp h with e | h
        · cases e; exact .inr ⟨hk ▸ List.mem_cons_self, rfl⟩
        · exact .inl h
      · exact .inr ⟨List.mem_cons_of_mem _ h1, h2⟩
    · rcases cloFrom_mem h with h | ⟨h1, h2⟩
      · exact .inl h
      · exact .inr ⟨List.mem_cons_of_mem _ h1, h2⟩
theorem cloFrom_acc {cells : List (Str × Addr)} : ∀ {names : List (Str × NameKind)} {acc : List (Str × Addr)} {p : Str × Addr}, p ∈ acc → p ∈ cloFrom cells names acc
  | [], _, _, h => h
  | (m, k) :: r, acc, p, h => by
    unfold cloFrom
    split
    · exact cloFrom_acc (List.mem_cons_of_mem _ h)
    · exact cloFrom_acc h
theorem cloFrom_has {cells : List (Str × Addr)} : ∀ {names : List (Str × NameKind)} {acc : List (Str × Addr)} {n : Str}, (n, .free) ∈ names → (n, (cells.lookup n).getD 0) ∈ cloFrom cells names acc
  | (m, k) :: r, acc, n, h => by
    unfold cloFrom
    rcases List.mem_cons.mp h with e | h
    · cases e
      exact cloFrom_acc List.mem_cons_self
    · split
      · exact cloFrom_has h
      · exact cloFrom_has h

theorem cells_mem : ∀ {names : List (Str × NameKind)} {h : Heap} {acc : List (Str × Addr)} {x : Str} {c : Addr}, (x, c) ∈ cellsFrom h.objs.size names acc →
    (x, c) ∈ acc ∨ ((x, .cell) ∈ names ∧ h.objs.size ≤ c ∧ CellAt (pushCells h names) c none)
  | [], _, _, _, _, h => .inl h
  | (n, k) :: r, h, acc, x, c, hm => by
    unfold cellsFrom at hm
    unfold pushCells
    split at hm
    · rename_i hk
      rw [if_pos hk]
      have hk : k = .cell := by simpa using hk
      rw [← Heap.size_push h { cls := .type "cell", data := .cell none }] at hm
      rcases cells_mem hm with hm | ⟨h1, h2, h3⟩
      · rcases List.mem_cons.mp hm with e | hm
        · cases e
          exact .inr ⟨hk ▸ List.mem_cons_self, Nat.le_refl _, _, pushCells_keeps r _ _ _ (Heap.get?_push_size _ rfl), rfl⟩
        · exact .inl hm
      · rw [Heap.size_push] at h2
        exact .inr ⟨List.mem_cons_of_mem _ h1, Nat.le_of_succ_le h2, h3⟩
    · rename_i hk
      rw [if_neg hk]
      rcases cells_mem hm with hm | ⟨h1, h2, h3⟩
      · exact .inl hm
      · exact .inr ⟨List.mem_cons_of_mem _ h1, h2, h3⟩
theorem cells_acc : ∀ {names : List (Str × NameKind)} {n : Nat} {acc : List (Str × Addr)} {p : Str × Addr}, p ∈ acc → p ∈ cellsFrom n names acc
  | [], _, _, _, h => h
  | (m, k) :: r, n, acc, p, h => by
    unfold cellsFrom
    split
    · exact cells_acc (List.mem_cons_of_mem _ h)
    · exact cells_acc h
theorem cells_has : ∀ {names : List (Str × NameKind)} {n : Nat} {acc : List (Str × Addr)} {x : Str}, (x, .cell) ∈ names → ∃ c, (x, c) ∈ cellsFrom n names acc
  | (m, k) :: r, n, acc, x, h => by
    unfold cellsFrom
    rcases List.mem_cons.mp h with e | h
    · cases e
      exact ⟨n, cells_acc List.mem_cons_self⟩
    · split
      · exact cells_has h
      · exact cells_has h
theorem cells_inj : ∀ {names : List (Str × NameKind)} {h : Heap} {acc : List (Str × Addr)} {x y : Str} {c : Addr}, (∀ p ∈ acc, p.2 < h.objs.size) → (∀ x y c, (x, c) ∈ acc → (y, c) ∈ acc → x = y) →
    (x, c) ∈ cellsFrom h.objs.size names acc → (y, c) ∈ cellsFrom h.objs.size names acc → x = y
  | [], _, _, _, _, _, _, hi, h1, h2 => hi _ _ _ h1 h2
  | (n, k) :: r, h, acc, x, y, c, hl, hi, h1, h2 => by
    unfold cellsFrom at h1 h2
    split at h1
    · rename_i hk
      rw [if_pos hk] at h2
      rw [← Heap.size_push h { cls := .type "cell", data := .cell none }] at h1 h2
      refine cells_inj (h := h.push _) (fun p hp => ?_) (fun x y c a b => ?_) h1 h2
      · rw [Heap.size_push]
        rcases List.mem_cons.mp hp with rfl | hp
        · exact Nat.lt_succ_self _
        · exact Nat.lt_succ_of_lt (hl p hp)
      · rcases List.mem_cons.mp a with e | a <;> rcases List.mem_cons.mp b with e' | b
        · cases e; cases e'; rfl
        · cases e; exact absurd (hl _ b) (Nat.lt_irrefl _)
        · cases e'; exact absurd (hl _ a) (Nat.lt_irrefl _)
        · exact hi _ _ _ a b
    · rename_i hk
      rw [if_neg hk] at h2
      exact cells_inj hl hi h1 h2

theorem newEnv_comp {M : Model} {A : Around} {E : Value → Shared → Prop} {s : Shared} {scope : Scope} {globals : Addr} {closure : List (Str × Addr)} {qual : Str} {func : Option Addr} {code : Value} {around : Env} {builtins : Addr} {Q : Env → Shared → Prop}
    (h : Q (newEnv scope s.heap.objs.size globals (cellsFrom (s.heap.objs.size + 1) scope.names closure) qual func code (some around) builtins)
      { s with heap := pushCells (s.heap.push { cls := .type "dict", data := .dict #[] }) scope.names }) :
    wpAny M A (newFunctionEnv scope globals closure [] qual func code (some around) builtins) Q E s := by
  simp only [newFunctionEnv, Option.isSome_some, if_true]
  refine wpAny_bind (wpAny_alloc ?_)
  refine wpAny_bind (wpAny_layCells _ (fun n k c => rfl) scope.names closure _ _ ?_)
  rw [show ({ s with heap := s.heap.push { cls := .type "dict", data := .dict #[] } } : Shared).heap.objs.size = s.heap.objs.size + 1 from Heap.size_push ..]
  rw [List.forIn_nil]
  exact wpAny_bind (wpAny_pure (wpAny_pure h))

/-- every name of the written scope, in the scope that runs -/
theorem lookup_relS {sc : Scope} : ∀ {names : List (Str × NameKind)} {x : Str} {k : NameKind},
    (names.map fun (n, k) => if (k == NameKind.free && sc.kind == .function && sc.names.lookup n == some .cell) then (n, NameKind.cell) else (n, k)).lookup x = some k →
    ∃ k', names.lookup x = some k' ∧ (k = k' ∨ (k' = .free ∧ k = .cell))
  | [], _, _, h => by simp at h
  | (n, k₀) :: r, x, k, h => by
    have ih := @lookup_relS sc r x k
    have h' : List.lookup x ((if (k₀ == NameKind.free && sc.kind == .function && sc.names.lookup n == some .cell) = true then (n, NameKind.cell) else (n, k₀)) :: (r.map _)) = some k := h
    cases hx : x == n with
    | true =>
      simp only [List.lookup_cons, hx]
      by_cases hc : (k₀ == NameKind.free && sc.kind == .function && sc.names.lookup n == some .cell) = true
      · rw [if_pos hc] at h'
        simp only [List.lookup_cons, hx] at h'
        cases h'
        simp only [Bool.and_eq_true, beq_iff_eq] at hc
        exact ⟨k₀, rfl, .inr ⟨hc.1.1, rfl⟩⟩
      · rw [if_neg hc] at h'
        simp only [List.lookup_cons, hx] at h'
        cases h'
        exact ⟨_, rfl, .inl rfl⟩
    | false =>
      simp only [List.lookup_cons, hx]
      by_cases hc : (k₀ == NameKind.free && sc.kind == .function && sc.names.lookup n == some .cell) = true
      · rw [if_pos hc] at h'
        simp only [List.lookup_cons, hx] at h'
        exact ih h'
      · rw [if_neg hc] at h'
        simp only [List.lookup_cons, hx] at h'
        exact ih h'
/-- the names of a comprehension's block: its own (with their places in N), or captured -/
structure BlkOk (N : List Str) (sc scope : Scope) (own : List (Str × Nat)) : Prop where
  kind : scope.kind = .function
  uniq : ∀ y ∈ scope.names, scope.names.lookup y.1 = some y.2
  ix : ∀ p ∈ own, N[p.2]? = some p.1
  free : ∀ y ∈ scope.names, y.2 = .free → sc.names.lookup y.1 = some .cell ∨ sc.names.lookup y.1 = some .free
  own : ∀ y ∈ scope.names, y.2 = .local ∨ y.2 = .cell → y.1 ∈ own.map (·.1) ∨ y.1 ∉ N
/-- the slots of the block's own names forgotten -/
def wipe (σ : St) : List Nat → St
  | [] => σ
  | v :: vs => (wipe σ vs).set v none
theorem wipe_length (σ : St) : ∀ vs : List Nat, (wipe σ vs).length = σ.length
  | [] => rfl
  | v :: vs => by unfold wipe; rw [List.length_set, wipe_length σ vs]
theorem wipe_some {σ : St} {i : Nat} {x : V} : ∀ {vs : List Nat}, (wipe σ vs)[i]? = some (some x) → σ[i]? = some (some x) ∧ i ∉ vs
  | [], h => ⟨h, by simp⟩
  | v :: vs, h => by
    unfold wipe at h
    by_cases hi : v = i
    · subst hi
      by_cases hv : v < (wipe σ vs).length
      · rw [List.getElem?_set_self hv] at h; cases h
      · rw [List.getElem?_eq_none (by simpa using hv)] at h; cases h
    · rw [List.getElem?_set_ne hi] at h
      obtain ⟨h1, h2⟩ := wipe_some h
      exact ⟨h1, by simp only [List.mem_cons, not_or]; exact ⟨fun e => hi e.symm, h2⟩⟩

/-- the context of a block that starts at s, its iterator's objects at fp -/
abbrev Cx.blk (X : Cx) (s : Shared) (H : Hp) (scope : Scope) (cenv : Env) (fp : List Addr) : Cx := { X with s_0 := s, H_0 := H, env := cenv, outer := X.stack, ex := fp, fn := fun x => scope.names.lookup x == some .cell, pn := [], xe := fun _ _ => False }
section
variable {X : Cx} {pins : List (Addr × Obj)} {σ : St} {H : Hp} {s : Shared}
theorem block_start {scope : Scope} {own : List (Str × Nat)} {fp : List Addr} (I : Inv X pins σ H s) (ok : BlkOk X.N X.env.scope scope own) (hN : X.N.Nodup) (hfp : ∀ b ∈ fp, FpOk X pins H b ∧ b < s.heap.objs.size) :
    Inv (X.blk s H scope (compEnvC scope (cellsFrom (s.heap.objs.size + 1) scope.names (cloFrom X.env.cells scope.names [])) s.heap.objs.size X.env) fp) [] (wipe σ (own.map (·.2))) H { s with heap := pushCells (s.heap.push { cls := .type "dict", data := .dict #[] }) scope.names } := by
  have hfree : ∀ y ∈ scope.names, y.2 = .free → ∃ c, X.env.cells.lookup y.1 = some c := fun y hy e => by
    rcases ok.free y hy e with k | k
    · exact I.ok.has _ (.inl k)
    · exact I.ok.has _ (.inr k)
  generalize hcenv : compEnvC scope (cellsFrom (s.heap.objs.size + 1) scope.names (cloFrom X.env.cells scope.names [])) s.heap.objs.size X.env = cenv
  have kp : ∀ b o, s.heap.get? b = some o → (pushCells (s.heap.push { cls := .type "dict", data := .dict #[] }) scope.names).get? b = some o := fun b o e => pushCells_keeps _ _ _ _ (Heap.get?_push_of_some _ e)
  have hL : cenv.locals = s.heap.objs.size := by rw [← hcenv]; rfl
  have hcl : cenv.cells = cellsFrom (s.heap.objs.size + 1) scope.names (cloFrom X.env.cells scope.names []) := by rw [← hcenv]; rfl
  have hsc : cenv.scope = relS scope X.env.scope := by rw [← hcenv]; rfl
  rw [← Heap.size_push s.heap { cls := .type "dict", data := .dict #[] }] at hcl
  have cm : ∀ {y c}, (y, c) ∈ cloFrom X.env.cells scope.names [] → X.env.cells.lookup y = some c ∧ c < s.heap.objs.size := fun {y c} hm => by
    rcases cloFrom_mem hm with hm | ⟨h1, rfl⟩
    · cases hm
    · obtain ⟨c, hc⟩ := hfree _ h1 rfl
      rw [hc]
      obtain ⟨w, z⟩ := I.cell _ _ hc
      exact ⟨rfl, z.lt⟩
  have mem : ∀ {y c}, cenv.cells.lookup y = some c → (X.env.cells.lookup y = some c ∧ c < s.heap.objs.size) ∨ (s.heap.objs.size + 1 ≤ c ∧ CellAt (pushCells (s.heap.push { cls := .type "dict", data := .dict #[] }) scope.names) c none) := fun {y c} e => by
    rw [hcl] at e
    rcases cells_mem (PySem.mem_of_lookup e) with hm | ⟨_, h2, h3⟩
    · exact .inl (cm hm)
    · rw [Heap.size_push] at h2; exact .inr ⟨h2, h3⟩
  have look : ∀ {y}, scope.names.lookup y = some .free → ∃ c, cenv.cells.lookup y = some c ∧ X.env.cells.lookup y = some c := fun {y} hl => by
    have hy : (y, NameKind.free) ∈ scope.names := PySem.mem_of_lookup hl
    obtain ⟨c', e'⟩ := mem_lookup (cells_acc (names := scope.names) (n := (s.heap.push { cls := .type "dict", data := .dict #[] }).objs.size) (cloFrom_has (cells := X.env.cells) (acc := []) hy))
    rw [← hcl] at e'
    refine ⟨c', e', ?_⟩
    rw [hcl] at e'
    rcases cells_mem (PySem.mem_of_lookup e') with hm | ⟨h1, _, _⟩
    · exact (cm hm).1
    · have := ok.uniq _ h1
      rw [hl] at this; cases this
  have okB : (X.blk s H scope cenv fp).Ok := by
    refine ⟨I.ok.mod, by show cenv.scope.kind = _; rw [hsc]; exact ok.kind, by show cenv.globals = _; rw [← hcenv]; exact I.ok.glob, by show cenv.builtins = _; rw [← hcenv]; exact I.ok.blt, by show s.heap.objs.size ≤ cenv.locals; rw [hL]; exact Nat.le_refl _,
      fun y z c e1 e2 => ?_, fun y hy => ?_, fun y c z e => ?_, I.ok.hd, I.ok.frames, .inl rfl, fun b hb => ⟨?_, fun y c e z => ?_⟩, I.bs, Nat.le_trans I.ok.bsz I.sz, fun b o e hb => ?_, fun b hb z => ?_, I.stack, I.stkFree⟩
    · have e1 : cenv.cells.lookup y = some c := e1
      have e2 : cenv.cells.lookup z = some c := e2
      rw [hcl] at e1 e2
      refine cells_inj (fun p hp => ?_) (fun y z c a b => I.ok.inj y z c (cm a).1 (cm b).1) (PySem.mem_of_lookup e1) (PySem.mem_of_lookup e2)
      rw [Heap.size_push]
      exact Nat.lt_succ_of_lt (cm (y := p.1) (c := p.2) hp).2
    · show ∃ c, cenv.cells.lookup y = some c
      have key : ∀ k, cenv.kindOf y = some k → (k = .cell ∨ k = .free) → ∃ c, cenv.cells.lookup y = some c := fun k hk hk' => by
        unfold Env.kindOf at hk
        rw [hsc] at hk
        obtain ⟨k', e, r⟩ := lookup_relS hk
        have : k' = .cell ∨ k' = .free := by
          rcases r with rfl | ⟨rfl, _⟩
          · exact hk'
          · exact .inr rfl
        rcases this with rfl | rfl
        · obtain ⟨c, hm⟩ := cells_has (n := (s.heap.push { cls := .type "dict", data := .dict #[] }).objs.size) (acc := cloFrom X.env.cells scope.names []) (PySem.mem_of_lookup e)
          obtain ⟨c', e'⟩ := mem_lookup hm
          exact ⟨c', by rw [hcl]; exact e'⟩
        · obtain ⟨c, h1, _⟩ := look e
          exact ⟨c, h1⟩
      rcases hy with hy | hy
      · exact key _ hy (.inl rfl)
      · exact key _ hy (.inr rfl)
    · have z : (scope.names.lookup y == some NameKind.cell) = true := z
      have z : scope.names.lookup y = some .cell := by simpa using z
      have e : cenv.cells.lookup y = some c := e
      rw [hcl] at e
      rcases cells_mem (PySem.mem_of_lookup e) with hm | ⟨_, h2, _⟩
      · rcases cloFrom_mem hm with hm | ⟨h1, _⟩
        · cases hm
        · have q := ok.uniq _ h1
          rw [z] at q; cases q
      · rw [Heap.size_push] at h2
        exact Nat.le_of_succ_le h2
    · show b ≠ cenv.locals
      rw [hL]; exact Nat.ne_of_lt (hfp b hb).2
    · have e : cenv.cells.lookup y = some c := e
      rcases mem e with ⟨h1, _⟩ | ⟨h1, _⟩
      · exact (hfp b hb).1.2.2.2.2.1 y c h1 z
      · have h2 : s.heap.objs.size + 1 ≤ b := by rw [← z]; exact h1
        exact absurd (Nat.lt_of_lt_of_le (hfp b hb).2 (Nat.le_of_succ_le h2)) (Nat.lt_irrefl _)
    · rcases (hfp b hb).1.2.2.2.1 with z | z
      · exact I.ok.noex b o e z
      · exact absurd (Nat.lt_of_lt_of_le (Heap.lt_size e) (Nat.le_trans I.ok.bsz z)) (Nat.lt_irrefl _)
    · rcases List.mem_cons.mp (I.stkSub b z) with z | z
      · exact (hfp b hb).1.2.1 z
      · exact (hfp b hb).1.2.2.1 z
  refine ⟨okB, rfl, I.bare, Un.kept kp, ⟨fun _ => none, ?_, fun i y av e1 e2 e3 => ?_⟩, fun y c e => ?_, ?_, fun y c e => ?_, fun p hp => ?_, I.hok.kept kp, by rw [wipe_length]; exact I.len⟩
  · show Heap.Ns _ cenv.locals _
    rw [hL]
    exact Heap.Ns.keeps (Heap.Ns.new ..) fun b o e => pushCells_keeps _ _ _ _ e
  · obtain ⟨e2, hne⟩ := wipe_some e2
    have hfr : scope.names.lookup y = some .free ∧ (cenv.kindOf y = some .cell ∨ cenv.kindOf y = some .free) := by
      have key : ∀ k, cenv.scope.names.lookup y = some k → k = .local ∨ k = .cell ∨ k = .free → scope.names.lookup y = some .free ∧ (cenv.kindOf y = some .cell ∨ cenv.kindOf y = some .free) := fun k hk hk' => by
        have hk0 := hk
        rw [hsc] at hk
        obtain ⟨k', e, r⟩ := lookup_relS hk
        have no : ¬ (k' = .local ∨ k' = .cell) := fun hh => by
          rcases ok.own _ (PySem.mem_of_lookup e) hh with e' | e'
          · obtain ⟨p, hp, hpy⟩ := List.mem_map.mp e'
            have e3 := ok.ix p hp
            have : p.1 = y := hpy
            rw [this] at e3
            exact hne (List.mem_map.mpr ⟨p, hp, nodup_ix hN e3 e1⟩)
          · exact e' (List.mem_of_getElem? e1)
        rcases r with rfl | ⟨rfl, rfl⟩
        · rcases hk' with rfl | rfl | rfl
          · exact absurd (.inl rfl) no
          · exact absurd (.inr rfl) no
          · exact ⟨e, .inr hk0⟩
        · exact ⟨e, .inl hk0⟩
      have e3 : Vis cenv.scope y := e3
      rcases e3 with e3 | e3 | e3
      · exact key _ e3 (.inl rfl)
      · exact key _ e3 (.inr (.inl rfl))
      · exact key _ e3 (.inr (.inr rfl))
    obtain ⟨m, hn, hl⟩ := I.loc
    have hvis : Vis X.env.scope y := (ok.free _ (PySem.mem_of_lookup hfr.1) rfl).elim (fun k => .inr (.inl k)) (fun k => .inr (.inr k))
    obtain ⟨w, r, q⟩ := hl i y av e1 e2 hvis
    refine ⟨w, r, .inr ⟨hfr.2, ?_⟩⟩
    obtain ⟨c, h1, h2⟩ := look hfr.1
    rcases q with ⟨k, _⟩ | ⟨_, c', e', z⟩
    · have k : X.env.scope.names.lookup y = some .local := k
      rcases ok.free _ (PySem.mem_of_lookup hfr.1) rfl with k' | k' <;> rw [show X.env.scope.names.lookup y = _ from k'] at k <;> cases k
    · rw [h2] at e'; cases e'
      exact ⟨c, h1, z.keeps kp⟩
  · have e : cenv.cells.lookup y = some c := e
    rcases mem e with ⟨h1, _⟩ | ⟨_, z⟩
    · obtain ⟨w, z⟩ := I.cell y c h1
      exact ⟨w, z.keeps kp⟩
    · exact ⟨_, z⟩
  · show H cenv.locals = none
    rw [hL]; exact I.hok.fresh (Nat.le_refl _)
  · have e : cenv.cells.lookup y = some c := e
    rcases mem e with ⟨h1, _⟩ | ⟨h1, _⟩
    · exact I.freeC y c h1
    · exact I.hok.fresh (Nat.le_of_succ_le h1)
  · exact absurd (show p ∈ ([] : List (Addr × Obj)) ++ [] from hp) (by simp)

/-- an item appended to a tracked list -/
theorem app_ok {E : Value → Shared → Prop} {D : Addr} {xs : List V} {y : V} {v : Value} {Q : Value → Shared → Prop} (I : Inv X pins σ H s) (hD : H D = some (.lst xs)) (hz : xs.length < sizeLine) (r : RelV y v)
    (h : ∀ s', Inv X pins σ (upd H D (.lst (xs ++ [y]))) s' → Q .none s') : wpAny (model X.prog X.w) X.A (call (.builtin "list.append") [.ref D, v]) Q E s := by
  obtain ⟨hz', its, n, ri, e⟩ := I.hok D _ hD
  have hl := ri.length
  refine append_at (hsz := by rw [List.size_toArray]; omega) e fun h' sb ho' => ?_
  refine h { s with heap := h' } (I.write (t' := s.toks) (by rw [hD]; trivial) (.inl rfl) (fun b u hb q => (sb.2 b hb).trans q) ⟨_, ho'⟩ ⟨by rw [List.length_append]; exact hz, its ++ [v], n + 1, ri.append (.cons r .nil), ?_⟩)
  rw [ho']
  simp

/-- a clause's tests -/
def PTs (X : Cx) (ifs : List Expr) (t : TT) : Prop :=
  ∀ (pins : List (Addr × Obj)) (s : Shared) (σ : St) (H : Hp) (Q : Bool → Hp → Prop), Inv X pins σ H s → t σ H Q →
    wpAny (model X.prog X.w) X.A (forIn ifs true fun c r => if r = true then do let ok ← isTrue c X.env (eval c X.env); pure (ForInStep.yield ok) else pure (ForInStep.yield r)) (TP X pins σ Q) X.xe s
def tYes : TT := fun _ H Q => Q true H
theorem pts_nil : PTs X [] tYes := fun _ _ _ H _ I h => wpAny_tests_nil ⟨H, I, h⟩
theorem pts_one {c : Expr} {t : TT} (h : PT X c t) : PTs X [c] t := fun pins s σ H Q I hw => wpAny_tests_one (h pins s σ H Q I hw)
end

theorem thnF {α : Type} {t : Sem α} {Q Q' : α → Shared → Prop} {M : Model} {A : Around} {E : Value → Shared → Prop} {s : Shared} (h : wpAny M A t Q (fun _ _ => False) s) (hQ : ∀ a s, Q a s → Q' a s) : wpAny M A t Q' E s := wpAny_mono h hQ fun _ _ z => False.elim z

/-- the loop of a list comprehension's block, the target of any form (codeAny_compLoop_tests asks a target that no tuple goes to; statement and proof follow it, PyProof/CompMap.lean:41-61, with the step letOwnedTupleGo kept) -/
theorem compLoop_any {prog : Program} {w : World} {A : Around} {R : Result → Shared → Prop} {s : Shared} {elt target iter : Expr} {ifs : List Expr} {scope : Scope} {pos : Pos} {it acc : Value} {env : Env} (I : Nat → Shared → Prop)
    (turn : ∀ n s, I n s → wpAny (model prog w) A (pyNext it) (fun r s₁ => match r with
      | none => R (.ok .next) s₁
      | some v => wpAny (model prog w) A (letOwnedTupleGo target it v) (fun _ s₁' => wpAny (model prog w) A (assign target env v) (fun _ s₂ =>
          wpAny (model prog w) A (forIn ifs true fun c r => if r = true then do let ok ← isTrue c env (eval c env); pure (ForInStep.yield ok) else pure (ForInStep.yield r)) (fun ok s₃ =>
            if ok = true then wpAny (model prog w) A (eval elt env) (fun x s₄ =>
              wpAny (model prog w) A (call (.builtin "list.append") [acc, x]) (fun _ s₅ => ∃ m, m < n ∧ I m s₅) (notedBy (model prog w) A env fun e s' => R (.error e) s') s₄) (notedBy (model prog w) A env fun e s' => R (.error e) s') s₃
            else ∃ m, m < n ∧ I m s₃) (notedBy (model prog w) A env fun e s' => R (.error e) s') s₂) (notedBy (model prog w) A env fun e s' => R (.error e) s') s₁') (notedBy (model prog w) A env fun e s' => R (.error e) s') s₁) (notedBy (model prog w) A env fun e s' => R (.error e) s') s)
    (n : Nat) (h : I n s) :
    codeAny (model prog w) A (.compLoop (.ListComp elt [⟨target, iter, ifs, 0⟩] scope pos) 0 it acc env) R s := by
  refine codeAny_loop rfl I (fun n s hI => ?_) n h
  show wpAny _ A ((compTurn (.ListComp elt [⟨target, iter, ifs, 0⟩] scope pos) 0 it acc env).onRaise (fun x => do noteFrame x env; theTreesLotGoes x)) _ _ s
  refine wpAny_noted ?_
  rw [compTurn_list]
  refine wpAny_bind (wpAny_standAt (wpAny_bind (wpAny_mono (turn n s hI) (fun r s₁ h₁ => ?_) fun _ _ h' => h')))
  cases r with
  | none => exact wpAny_pure h₁
  | some v =>
    refine wpAny_bind (wpAny_mono h₁ (fun _ s₁' h₁' => ?_) fun _ _ h' => h')
    refine wpAny_bind (wpAny_mono h₁' (fun _ s₂ h₂ => wpAny_bind (wpAny_mono h₂ (fun ok s₃ h₃ => ?_) fun _ _ h' => h')) fun _ _ h' => h')
    cases ok with
    | false => exact wpAny_pure ⟨rfl, h₃⟩
    | true =>
      exact wpAny_bind (wpAny_bind (wpAny_mono h₃ (fun x s₄ h₄ => wpAny_bind (wpAny_mono h₄ (fun _ s₅ h₅ => wpAny_pure (wpAny_pure ⟨rfl, h₅⟩)) fun _ _ h' => h')) fun _ _ h' => h'))

section
variable {X : Cx}
/-- [elt for target in iter if ..]: D the new list; W by the turn and a measure, Nx what a turn is to reach -/
def tLc (wi : TI) (g : TG) (tt : TT) (te : TE) (vs : List Nat) : TE := fun σ H Q => wi σ H fun J H1 => ∀ D, H1 D = none → ∃ W : Nat → Nat → Hp → Prop, (∃ m, W 0 m (upd H1 D (.lst []))) ∧ ∀ i m H, W i m H →
  (J.stop i H ∧ Q (.ref D) H) ∨ (J.go i H ∧ ∃ Nx : Hp → Prop, (∀ H', Nx H' → ∃ m', m' < m ∧ W (i + 1) m' H') ∧ ∀ x H', J.yld i H x H' → g x (wipe σ vs) H' fun σ2 H2 => wipe σ2 vs = wipe σ vs ∧ tt σ2 H2 fun b H3 =>
    if b = true then te σ2 H3 fun y H4 => ∃ acc, H4 D = some (.lst acc) ∧ acc.length < sizeLine ∧ Nx (upd H4 D (.lst (acc ++ [y]))) else Nx H3)
theorem lc_core {pins : List (Addr × Obj)} {s : Shared} {σ : St} {H : Hp} {Q : VK} {elt tg iter : Expr} {ifs : List Expr} {scope : Scope} {own : List (Str × Nat)} {pos pos' : Pos} {wi : TI} {g : TG} {tt : TT} {te : TE} {use : Option (Value → Sem Unit)} {Qf : Value → Shared → Prop}
    (hc : X.calm = true) (hN : X.N.Nodup) (I : Inv X pins σ H s) (hi : PI X tg iter wi) (ok : BlkOk X.N X.env.scope scope own)
    (hg : ∀ (s : Shared) (H : Hp) (C : Addr) (cl : List (Str × Addr)) (fp : List Addr), PG (X.blk s H scope (compEnvC scope cl C X.env) fp) tg g) (ht : ∀ (s : Shared) (H : Hp) (C : Addr) (cl : List (Str × Addr)) (fp : List Addr), PTs (X.blk s H scope (compEnvC scope cl C X.env) fp) ifs tt)
    (he : ∀ (s : Shared) (H : Hp) (C : Addr) (cl : List (Str × Addr)) (fp : List Addr), PE (X.blk s H scope (compEnvC scope cl C X.env) fp) elt te) (hs : ∀ x, foldedSetIterable iter X.env x = pure x)
    (h : tLc wi g tt te (own.map (·.2)) σ H Q)
    (hRR : ∀ D C s' m H', Inv X pins σ H' s' → Q (.ref D) H' → s'.heap.Ns C m → FpOk X pins H' C → compPost (model X.prog X.w) X.A X.xe use Qf (.ref D) C (.ok .next) s') :
    wpAny (model X.prog X.w) X.A (comprehension (.ListComp elt [⟨tg, iter, ifs, 0⟩] scope pos) scope X.env pos' (newList []) false (eval iter X.env) use) Qf X.xe s := by
  have hfree : ∀ y ∈ scope.names, y.2 = .free → ∃ c, X.env.cells.lookup y.1 = some c := fun y hy e => by
    rcases ok.free y hy e with k | k
    · exact I.ok.has _ (.inl k)
    · exact I.ok.has _ (.inr k)
  refine wpAny_comprehension_free (use := use) rfl hs (closure_ok hfree) ok.kind (fun y hy e => by rw [ok.uniq y hy, e])
    (thn (hi pins s σ H _ I h) fun xv s1 hx => thn hx fun itv s2 h2 => ?_)
  obtain ⟨it, fp, tn, J, H2, e, I2, T, st2, f2, q⟩ := h2
  subst e
  refine wpAny_newObj_type (newEnv_comp ?_) (by show 0 ≤ sizeLine; decide)
  generalize hD : s2.heap.objs.size = D
  have hDn : H2 D = none := I2.hok.fresh (Nat.le_of_eq hD)
  obtain ⟨W, ⟨m0, w0⟩, turn⟩ := q D hDn
  -- the new list
  generalize hs3 : ({ s2 with heap := s2.heap.push { cls := .type "list", data := .seq ([] : List Value).toArray } } : Shared) = s3
  have I3 : Inv X pins σ (upd H2 D (.lst [])) s3 := by
    rw [← hs3]
    refine I2.laid (t' := s2.toks) (fun b o e => Heap.get?_push_of_some _ e) (Nat.le_of_eq hD) ⟨Nat.zero_le _, [], 0, .nil, ?_⟩
    rw [← hD]
    exact Heap.get?_push_size _ rfl
  have h3 : s3.heap = s2.heap.push { cls := .type "list", data := .seq ([] : List Value).toArray } := by rw [← hs3]
  have sz : ∀ b ∈ fp, b < s2.heap.objs.size := fun b hb => by
    obtain ⟨o, e, _⟩ := T.obj _ _ st2 b hb
    exact Heap.lt_size e
  have f3 : ∀ b ∈ fp, FpOk X pins (upd H2 D (.lst [])) b ∧ b < s3.heap.objs.size := fun b hb => by
    have hlt := sz b hb
    refine ⟨⟨?_, (f2 b hb).2⟩, by rw [h3, Heap.size_push]; exact Nat.lt_succ_of_lt hlt⟩
    rw [upd_ne (by rw [← hD]; exact Nat.ne_of_lt hlt)]
    exact (f2 b hb).1
  have st3 : tn 0 s3.heap := T.keep _ _ _ st2 fun b _ o e => by rw [h3]; exact Heap.get?_push_of_some _ e
  have I4 := block_start I3 ok hN f3
  have pg := hg s3 (upd H2 D (.lst [])) s3.heap.objs.size (cellsFrom (s3.heap.objs.size + 1) scope.names (cloFrom X.env.cells scope.names [])) fp
  have pt := ht s3 (upd H2 D (.lst [])) s3.heap.objs.size (cellsFrom (s3.heap.objs.size + 1) scope.names (cloFrom X.env.cells scope.names [])) fp
  have pe := he s3 (upd H2 D (.lst [])) s3.heap.objs.size (cellsFrom (s3.heap.objs.size + 1) scope.names (cloFrom X.env.cells scope.names [])) fp
  show codeAny _ _ (.compStart (.ListComp elt [⟨tg, iter, ifs, 0⟩] scope pos) 0 (.ref it) (.ref D) (compEnvC scope (cellsFrom (s3.heap.objs.size + 1) scope.names (cloFrom X.env.cells scope.names [])) s3.heap.objs.size X.env)) (compPost (model X.prog X.w) X.A X.xe use Qf (.ref D) s3.heap.objs.size) { s3 with heap := pushCells (s3.heap.push { cls := .type "dict", data := .dict #[] }) scope.names }
  have nfp : ∀ b ∈ fp, (upd H2 D (.lst [])) b = none := fun b hb => (f3 b hb).1.1
  generalize hce : compEnvC scope (cellsFrom (s3.heap.objs.size + 1) scope.names (cloFrom X.env.cells scope.names [])) s3.heap.objs.size X.env = ce at I4 pg pt pe ⊢
  have cL : ce.locals = s3.heap.objs.size := by subst hce; rfl
  generalize hH3 : upd H2 D (.lst []) = H3 at I3 I4 pg pt pe w0 nfp f3
  generalize hs4 : ({ s3 with heap := pushCells (s3.heap.push { cls := .type "dict", data := .dict #[] }) scope.names } : Shared) = s4 at I4 ⊢
  have st4 : tn 0 s4.heap := T.keep _ _ _ st3 fun b _ o e => by rw [← hs4]; exact pushCells_keeps _ _ _ _ (Heap.get?_push_of_some _ e)
  have stat : ∀ {σ' : St} {H' : Hp} {s' : Shared}, Inv (X.blk s3 H3 scope ce fp) [] σ' H' s' → (∀ b ∈ fp, H' b = none) → ∀ b ∈ fp, FpOk (X.blk s3 H3 scope ce fp) [] H' b := fun {σ' H' s'} I' hn b hb =>
    ⟨hn b hb, (I'.ok.exf b hb).1, I'.ok.exfs b hb, .inl hb, fun x c e => (I'.ok.exf b hb).2 x c e, fun p hp => absurd (show p ∈ ([] : List (Addr × Obj)) ++ [] from hp) (by simp)⟩
  have loop : codeAny (model X.prog X.w) X.A (.compLoop (.ListComp elt [⟨tg, iter, ifs, 0⟩] scope pos) 0 (.ref it) (.ref D) ce) (compPost (model X.prog X.w) X.A X.xe use Qf (.ref D) s3.heap.objs.size) s4 := by
    refine compLoop_any (fun n s' => ∃ i H', Inv (X.blk s3 H3 scope ce fp) [] (wipe σ (own.map (·.2))) H' s' ∧ tn i s'.heap ∧ (∀ b ∈ fp, H' b = none) ∧ W i n H') ?_ m0 ⟨0, H3, I4, st4, nfp, w0⟩
    rintro n s5 ⟨i, H5, I5, st5, n5, w5⟩
    rcases turn i n H5 w5 with ⟨stop, qq⟩ | ⟨go, Nx, hNx, step⟩
    · have td := T.done (X.blk s3 H3 scope ce fp) rfl rfl rfl hc i [] s5 _ H5 (fun _ _ => False) I5 (stat I5 n5) st5 stop
      refine thnF td fun r s6 ⟨hr, I6⟩ => ?_
      subst hr
      -- back in the def's context
      have I7 : Inv X pins σ H5 s6 := I3.call' (ch := fp) I6.os I6.base I6.hok I6.bare fun b hb => ⟨(f3 b hb).1.2.2.2.1, (f3 b hb).1.2.1, (f3 b hb).1.2.2.2.2.1, (f3 b hb).1.2.2.2.2.2⟩
      have nC : H5 s3.heap.objs.size = none := by
        have z : H5 ce.locals = none := I6.free
        rw [cL] at z
        exact z
      obtain ⟨m, hn, _⟩ := I6.loc
      have hn : s6.heap.Ns ce.locals m := hn
      rw [cL] at hn
      exact hRR D s3.heap.objs.size s6 m H5 I7 qq hn (I3.fpOk (Nat.le_refl _) nC)
    · have ti := T.item (X.blk s3 H3 scope ce fp) rfl rfl rfl hc i [] s5 _ H5 (fun _ _ => False) I5 (stat I5 n5) st5 go
      refine thnF ti fun r s6 ⟨u, hr, h6⟩ => ?_
      subst hr
      refine thnF h6 fun _ s7 ⟨x, H7, I7, r7, y7, st7, n7⟩ => ?_
      have I7' := I7.pinned (stat I7 n7) (T.obj _ _ st7)
      refine thnF (pg _ s7 _ H7 x u _ I7' r7 (step x H7 y7)) fun _ s8 ⟨σ8, H8, I8, hw8, q8⟩ => ?_
      refine thnF (pt _ s8 σ8 H8 _ I8 q8) fun b s9 ⟨H9, I9, q9⟩ => ?_
      -- the turn's end
      have fin : ∀ {s' : Shared} {H' : Hp}, Inv (X.blk s3 H3 scope ce fp) ([] ++ pinsAt fp s7.heap) σ8 H' s' → Nx H' → ∃ m, m < n ∧ ∃ i H', Inv (X.blk s3 H3 scope ce fp) [] (wipe σ (own.map (·.2))) H' s' ∧ tn i s'.heap ∧ (∀ b ∈ fp, H' b = none) ∧ W i m H' := fun {s' H'} I' nx => by
        obtain ⟨m', hm, w'⟩ := hNx H' nx
        have pin' : ∀ b ∈ fp, ∀ o, s7.heap.get? b = some o → s'.heap.get? b = some o ∧ H' b = none := fun b hb o e =>
          let z := I'.pin (b, o) (List.mem_append_right _ (List.mem_append_right _ (mem_pinsAt hb e)))
          ⟨z.1, z.2.1⟩
        have hl : (wipe σ (own.map (·.2))).length = σ8.length := by rw [← hw8, wipe_length]
        refine ⟨m', hm, i + 1, H', (I'.unpinned (pins := [])).weak hl (fun j v e => ?_), T.keep _ _ _ st7 fun b hb o e => (pin' b hb o e).1, fun b hb => ?_, w'⟩
        · rw [← hw8] at e
          exact (wipe_some e).1
        · obtain ⟨o, e, _⟩ := T.obj _ _ st7 b hb
          exact (pin' b hb o e).2
      cases b with
      | false =>
        simp only [Bool.false_eq_true, if_false] at q9 ⊢
        exact fin I9 q9
      | true =>
        simp only [if_true] at q9 ⊢
        refine thnF (pe _ s9 σ8 H9 _ I9 q9) fun z s10 ⟨yv, H10, I10, r10, acc, hD10, hz10, nx⟩ => ?_
        exact app_ok (X := X.blk s3 H3 scope ce fp) I10 hD10 hz10 r10 fun s11 I11 => fin I11 nx
  exact codeAny_compStart_list loop (T.self X.A 0 _ _ _ st4 loop)
/-- as a value -/
theorem pe_lc {elt tg iter : Expr} {ifs : List Expr} {scope : Scope} {own : List (Str × Nat)} {pos : Pos} {wi : TI} {g : TG} {tt : TT} {te : TE} (hc : X.calm = true) (hN : X.N.Nodup) (hi : PI X tg iter wi) (ok : BlkOk X.N X.env.scope scope own)
    (hg : ∀ (s : Shared) (H : Hp) (C : Addr) (cl : List (Str × Addr)) (fp : List Addr), PG (X.blk s H scope (compEnvC scope cl C X.env) fp) tg g) (ht : ∀ (s : Shared) (H : Hp) (C : Addr) (cl : List (Str × Addr)) (fp : List Addr), PTs (X.blk s H scope (compEnvC scope cl C X.env) fp) ifs tt)
    (he : ∀ (s : Shared) (H : Hp) (C : Addr) (cl : List (Str × Addr)) (fp : List Addr), PE (X.blk s H scope (compEnvC scope cl C X.env) fp) elt te) (hs : ∀ x, foldedSetIterable iter X.env x = pure x := by intro _; rfl) :
    PE X (.ListComp elt [⟨tg, iter, ifs, 0⟩] scope pos) (tLc wi g tt te (own.map (·.2))) := by
  intro pins s σ H Q I h
  rw [eval_ListComp]
  refine lc_core hc hN I hi ok hg ht he hs h fun D C s' m H' I' q hn f => ⟨m, hn, fun h'' sb => ?_⟩
  obtain ⟨f0, f1, f2, f3, f4, f5⟩ := f
  exact ⟨.ref D, H', I'.turned (t' := s'.toks) (fun b o hb e => (sb.2 b hb).trans e) f0 f1 f3 f4 f5, rfl, q⟩
/-- name = [..] on one line, the name a local -/
theorem ps_setLc {i : Nat} {y : Str} {py : Pos} {elt tg iter : Expr} {ifs : List Expr} {scope : Scope} {own : List (Str × Nat)} {pos spos : Pos} {wi : TI} {g : TG} {tt : TT} {te : TE} (hc : X.calm = true) (hN : X.N.Nodup) (hy : X.N[i]? = some y) (hyl : X.env.scope.names.lookup y = some .local)
    (hsw : swapsWith (.ListComp elt [⟨tg, iter, ifs, 0⟩] scope pos) (some (.Name y py)) spos.line X.env = pure true) (hi : PI X tg iter wi) (ok : BlkOk X.N X.env.scope scope own)
    (hg : ∀ (s : Shared) (H : Hp) (C : Addr) (cl : List (Str × Addr)) (fp : List Addr), PG (X.blk s H scope (compEnvC scope cl C X.env) fp) tg g) (ht : ∀ (s : Shared) (H : Hp) (C : Addr) (cl : List (Str × Addr)) (fp : List Addr), PTs (X.blk s H scope (compEnvC scope cl C X.env) fp) ifs tt)
    (he : ∀ (s : Shared) (H : Hp) (C : Addr) (cl : List (Str × Addr)) (fp : List Addr), PE (X.blk s H scope (compEnvC scope cl C X.env) fp) elt te) (hs : ∀ x, foldedSetIterable iter X.env x = pure x := by intro _; rfl) :
    PS X (.Assign [.Name y py] (.ListComp elt [⟨tg, iter, ifs, 0⟩] scope pos) spos) (tAsg (tLc wi g tt te (own.map (·.2))) (gName i)) := by
  intro pins s σ H D I h
  rw [exec_Assign_Name_used _ _ _ _ hsw]
  refine wpAny_bind (wpAny_standAt (wpAny_bind ?_))
  show wpAny _ X.A (do let _ ← comprehension (.ListComp elt [⟨tg, iter, ifs, 0⟩] scope pos) scope X.env (firstIterPos [⟨tg, iter, ifs, 0⟩] pos) (newList []) false (eval iter X.env) (some (assign (.Name y py) X.env))) _ _ s
  have h : tLc wi g tt te (own.map (·.2)) σ H (fun x H1 => gName i x σ H1 D.nx) := h
  refine wpAny_bind (thn (lc_core (Qf := fun _ s' => SP X pins D .next s') hc hN I hi ok hg ht he hs h fun L C s' m H' I' q hn f => ?_) fun _ s' hq => wpAny_pure (wpAny_pure hq))
  show wpAny _ _ (assign (.Name y py) X.env (.ref L)) _ _ _
  refine wpAny_assign_Name (store_ok2 (v := V.ref L) I' hN hy (.inl hyl) rfl (fun s2 I2 ⟨a, sb, ha⟩ => ?_) (.inr hyl))
  obtain ⟨f0, f1, f2, f3, f4, f5⟩ := f
  have haC : C ≠ a := by
    rcases ha with z | z
    · rw [z]; exact f1
    · exact fun e => f4 y a z e.symm
  refine ⟨m, hn.sameBut sb haC, fun h3 sb3 => ?_⟩
  exact ⟨_, H', I2.turned (t' := s2.toks) (fun b o hb e => (sb3.2 b hb).trans e) f0 f1 f3 f4 f5, q⟩
theorem sw_true {elt : Expr} {gs : List Comprehension} {scope : Scope} {pos py : Pos} {y : Str} {l : Nat} {env : Env} (hk : env.scope.kind = .function) (hy : env.scope.names.lookup y = some .local) (hl : (py.line == pos.line) = true)
    (ha : (scope.names.any fun (n, k) => n == y && (k == .local || k == .cell)) = false) : swapsWith (.ListComp elt gs scope pos) (some (.Name y py)) l env = pure true := by
  have ky : env.kindOf y = some .local := hy
  have hb : env.blockKind = .function := by unfold Env.blockKind; rw [hk]; rfl
  unfold swapsWith
  have hp1 : Expr.pos (.ListComp elt gs scope pos) = pos := rfl
  have hp2 : Expr.pos (.Name y py) = py := rfl
  simp only [hb, ky, ha, hp1, hp2, hl]
  rfl
end

/-- over a range: Pv by the turn and the heap (the new list at D within) -/
theorem lc_range {lo : Int} {n : Nat} {g : TG} {tt : TT} {te : TE} {vs : List Nat} {σ : St} {H1 : Hp} {D : Addr} {Qd : Hp → Prop} (Pv : Nat → Hp → Prop) (h0 : Pv 0 (upd H1 D (.lst [])))
    (hs : ∀ i H, i < n → Pv i H → g (.int (lo + i)) (wipe σ vs) H fun σ2 H2 => wipe σ2 vs = wipe σ vs ∧ tt σ2 H2 fun b H3 =>
      if b = true then te σ2 H3 fun y H4 => ∃ acc, H4 D = some (.lst acc) ∧ acc.length < sizeLine ∧ Pv (i + 1) (upd H4 D (.lst (acc ++ [y]))) else Pv (i + 1) H3) (hd : ∀ H, Pv n H → Qd H) :
    ∃ W : Nat → Nat → Hp → Prop, (∃ m, W 0 m (upd H1 D (.lst []))) ∧ ∀ i m H, W i m H →
      ((Itr lo n).stop i H ∧ Qd H) ∨ ((Itr lo n).go i H ∧ ∃ Nx : Hp → Prop, (∀ H', Nx H' → ∃ m', m' < m ∧ W (i + 1) m' H') ∧ ∀ x H', (Itr lo n).yld i H x H' → g x (wipe σ vs) H' fun σ2 H2 => wipe σ2 vs = wipe σ vs ∧ tt σ2 H2 fun b H3 =>
        if b = true then te σ2 H3 fun y H4 => ∃ acc, H4 D = some (.lst acc) ∧ acc.length < sizeLine ∧ Nx (upd H4 D (.lst (acc ++ [y]))) else Nx H3) := by
  refine ⟨fun i m H => m = n - i ∧ i ≤ n ∧ Pv i H, ⟨n, by simp, Nat.zero_le _, h0⟩, ?_⟩
  rintro i m H ⟨rfl, hi, p⟩
  by_cases hlt : i < n
  · refine .inr ⟨hlt, Pv (i + 1), fun H' p' => ⟨n - (i + 1), by omega, rfl, hlt, p'⟩, fun x H' y => ?_⟩
    obtain ⟨e, y⟩ := y
    subst e y
    exact hs i _ hlt p
  · have e : i = n := by omega
    subst e
    exact .inl ⟨Nat.le_refl _, hd H p⟩
/-- over a list that the block leaves as it is -/
theorem lc_list {K : PySem.W.Frag} {a : Addr} {xs : List V} {g : TG} {tt : TT} {te : TE} {vs : List Nat} {σ : St} {H1 : Hp} {D : Addr} {Qd : Hp → Prop} (Pv : Nat → Hp → Prop) (h0 : Pv 0 (upd H1 D (.lst []))) (hl : ∀ i H, i ≤ xs.length → Pv i H → SqL K H a xs)
    (hs : ∀ i x H, xs[i]? = some x → Pv i H → g x (wipe σ vs) H fun σ2 H2 => wipe σ2 vs = wipe σ vs ∧ tt σ2 H2 fun b H3 =>
      if b = true then te σ2 H3 fun y H4 => ∃ acc, H4 D = some (.lst acc) ∧ acc.length < sizeLine ∧ Pv (i + 1) (upd H4 D (.lst (acc ++ [y]))) else Pv (i + 1) H3) (hd : ∀ H, Pv xs.length H → Qd H) :
    ∃ W : Nat → Nat → Hp → Prop, (∃ m, W 0 m (upd H1 D (.lst []))) ∧ ∀ i m H, W i m H →
      ((Itl K a).stop i H ∧ Qd H) ∨ ((Itl K a).go i H ∧ ∃ Nx : Hp → Prop, (∀ H', Nx H' → ∃ m', m' < m ∧ W (i + 1) m' H') ∧ ∀ x H', (Itl K a).yld i H x H' → g x (wipe σ vs) H' fun σ2 H2 => wipe σ2 vs = wipe σ vs ∧ tt σ2 H2 fun b H3 =>
        if b = true then te σ2 H3 fun y H4 => ∃ acc, H4 D = some (.lst acc) ∧ acc.length < sizeLine ∧ Nx (upd H4 D (.lst (acc ++ [y]))) else Nx H3) := by
  refine ⟨fun i m H => m = xs.length - i ∧ i ≤ xs.length ∧ Pv i H, ⟨xs.length, by simp, Nat.zero_le _, h0⟩, ?_⟩
  rintro i m H ⟨rfl, hi, p⟩
  have q := hl i H hi p
  by_cases hlt : i < xs.length
  · refine .inr ⟨⟨xs, xs[i], q, by simp [hlt]⟩, Pv (i + 1), fun H' p' => ⟨xs.length - (i + 1), by omega, rfl, hlt, p'⟩, fun x H' y => ?_⟩
    obtain ⟨e, y⟩ := y
    subst e
    exact hs i x _ (y xs q) p
  · have e : i = xs.length := by omega
    subst e
    exact .inl ⟨⟨xs, q, Nat.le_refl _⟩, hd H p⟩
def blkC (N : List Str) (sc scope : Scope) (own : List (Str × Nat)) : Bool :=
  (match scope.kind with | .function => true | _ => false) && (scope.names.all fun y => decide (scope.names.lookup y.1 = some y.2)) && (own.all fun p => decide (N[p.2]? = some p.1)) &&
    (scope.names.all fun y => match y.2 with
      | .free => (match sc.names.lookup y.1 with | some .cell => true | some .free => true | _ => false)
      | .local => decide (y.1 ∈ own.map (·.1)) || decide (y.1 ∉ N)
      | .cell => decide (y.1 ∈ own.map (·.1)) || decide (y.1 ∉ N)
      | _ => true)
theorem blkOk_by {N : List Str} {sc scope : Scope} {own : List (Str × Nat)} (h : blkC N sc scope own = true) : BlkOk N sc scope own := by
  unfold blkC at h
  simp only [Bool.and_eq_true, List.all_eq_true, decide_eq_true_eq] at h
  obtain ⟨⟨⟨h1, h2⟩, h3⟩, h4⟩ := h
  refine ⟨?_, h2, h3, fun y hy e => ?_, fun y hy e => ?_⟩
  · split at h1
    · assumption
    · cases h1
  · have q := h4 y hy
    simp only [e] at q
    split at q <;> first | exact .inl (by assumption) | exact .inr (by assumption) | cases q
  · have q := h4 y hy
    rcases e with e | e <;> (simp only [e, Bool.or_eq_true, decide_eq_true_eq] at q; exact q)
end L2

namespace L2
open PySem PySem.Spec PyProof.Rows

section
variable {prog : Program} {w : World} {A : Around} {R : Result → Shared → Prop} {s : Shared} {elt t0 i0 t1 i1 : Expr} {ifs0 ifs1 : List Expr} {scope : Scope} {pos : Pos} {it acc : Value} {env : Env}
end

section
variable {X : Cx}
end
end L2

namespace L2
open PySem PySem.Spec PyProof.Rows

section
variable {κ : Type} [DecidableEq κ]
end


section
variable {P : Program} {w : World} {H : Hp} {h : Heap} {a : Addr}
end

section
variable {X : Cx} {pins : List (Addr × Obj)} {σ : St} {H : Hp} {s : Shared} {a : Addr} {y v : V} {u r : Value} {o : Option V} {A : Around} {E : Value → Shared → Prop}

end

section
variable {X : Cx} {pins : List (Addr × Obj)} {σ : St} {H : Hp} {s : Shared} {a : Addr} {kvs : List (Key × V)} {k : Key} {u : Value} {A : Around} {E : Value → Shared → Prop}
end


/-- the element of a subscription, not a slice -/
def NoSl (i : Expr) : Prop := ∀ ov iv, subscripted i false ov iv = operate [ov, iv] (getItem ov iv)
theorem subD_of {prog : Program} {w : World} {A : Around} {E : Value → Shared → Prop} {s : Shared} {env : Env} {value slice : Expr} {pos : Pos} {T id : String} {Q : Value → Shared → Prop}
    (hl : typeLookup (.type T) "__getitem__" = pure (some (.builtin id))) (hs : NoSl slice)
    (h : wpAny (model prog w) A (eval value env) (fun o s₁ => wpAny (model prog w) A (eval slice env) (fun i s₂ => s₂.TypeIs o T ∧ wpAny (model prog w) A (getItem o i) Q E s₂) E s₁) E s) :
    wpAny (model prog w) A (eval (.Subscript value slice pos) env) Q E s := by
  refine Subscript_ (wpAny_mono h (fun o s₁ h₁ => wpAny_mono h₁ (fun i s₂ h₂ => ?_) fun _ _ x => x) fun _ _ x => x)
  obtain ⟨hT, h₂⟩ := h₂
  unfold subscriptTail
  refine wpAny_bind ?_
  rw [getitemInPython_of_ne hT.not_modules]
  refine wpAny_bind (wpAny_specialOf hT hl ?_)
  have fin : wpAny (model prog w) A (subscripted slice false o i) (fun r s₃ => wpAny (model prog w) A (letTemporaryGo value o r >>= fun _ => pure r) Q E s₃) E s₂ := by
    rw [hs o i]
    exact wpAny_operating (wpAny_mono h₂ (fun r s₃ h₃ => wpAny_bind (wpAny_letTemporaryGo (wpAny_pure h₃))) fun _ _ x => x)
  first
    | exact wpAny_pure (wpAny_bind fin)
    | exact wpAny_bind (wpAny_pure (wpAny_bind fin))
    | exact wpAny_bind fin

section
variable {X : Cx} {o i e value : Expr} {pos pos' tpos : Pos} {td ty tv : TE}
end


section
variable {X : Cx} {pos : Pos}
end

section
variable {X : Cx} {pins : List (Addr × Obj)} {σ : St} {H : Hp} {s : Shared} {a : Addr} {y d : V} {u r : Value} {o : Option V} {A : Around} {E : Value → Shared → Prop}
end

section
variable {X : Cx} {o e f : Expr} {apos cpos : Pos} {td ty tx : TE}
end

section
variable {X : Cx} {pins : List (Addr × Obj)} {σ : St} {H : Hp} {s : Shared} {a : Addr} {kvs : List (Key × V)} {A : Around} {E : Value → Shared → Prop}
end


section
variable {X : Cx} {pins : List (Addr × Obj)} {σ : St} {H : Hp} {s : Shared} {a : Addr} {y : V} {u : Value} {A : Around} {E : Value → Shared → Prop}
end
end L2

namespace L2
open PySem PySem.Spec PyProof.Rows

section
variable {prog : Program} {w : World} {A : Around} {E : Value → Shared → Prop}
end

section
variable {X : Cx}
end
end L2

namespace L2
open PySem PySem.Spec PyProof.Rows

section
variable {X : Cx} {pins : List (Addr × Obj)} {σ : St} {H : Hp} {s : Shared} {h' : Heap}
end
section
variable {X : Cx}
end

section
variable {X : Cx} {tg : Expr}
end
section
variable {X : Cx} {tg : Expr}
end

section
variable {prog : Program} {w : World} {A : Around} {E : Value → Shared → Prop} {s : Shared}
end

section
variable {X : Cx} {pins : List (Addr × Obj)} {σ : St} {H : Hp} {s : Shared} {d : Addr} {o : Obj}
end

section
variable {P : Program} {w : World} {K : PySem.W.Frag} {tg : Expr} {d : Addr} {o : Obj} {es : Array DictEntry} {ep : Nat}
end

section
variable {X : Cx} {tg e : Expr} {td : TE} {apos cpos : Pos}
end

end L2

section 
namespace Bits
open PySem PyProof.Rows

theorem nat_xor_add_and (m n : Nat) : (m ^^^ n) + 2 * (m &&& n) = m + n := by
  have h1 := nat_or_add_and m n
  have h2 := nat_or_add_and (m ^^^ n) (m &&& n)
  have e1 : (m ^^^ n) ||| (m &&& n) = m ||| n := by
    apply Nat.eq_of_testBit_eq; intro i
    rw [Nat.testBit_or, Nat.testBit_xor, Nat.testBit_and, Nat.testBit_or]
    cases m.testBit i <;> cases n.testBit i <;> rfl
  have e2 : (m ^^^ n) &&& (m &&& n) = 0 := by
    apply Nat.eq_of_testBit_eq; intro i
    rw [Nat.testBit_and, Nat.testBit_xor, Nat.testBit_and, Nat.zero_testBit]
    cases m.testBit i <;> cases n.testBit i <;> rfl
  rw [e1, e2, Nat.add_zero] at h2
  rw [← h1, h2, Nat.two_mul, Nat.add_assoc]
theorem bitXor_pp {x y : Int} (hx : 0 ≤ x) (hy : 0 ≤ y) : Builtin.bitXor x y = ((x.toNat ^^^ y.toNat : Nat) : Int) := by
  have e := nat_xor_add_and x.toNat y.toNat
  rw [bitXor_and, bitAnd_pp hx hy]
  omega
theorem bitOr_pp {x y : Int} (hx : 0 ≤ x) (hy : 0 ≤ y) : Builtin.bitOr x y = ((x.toNat ||| y.toNat : Nat) : Int) := by
  have e := nat_or_add_and x.toNat y.toNat
  rw [bitOr_and, bitAnd_pp hx hy]
  omega
end Bits
end 

section 
namespace TL
open PySem PySem.Builtin PySem.Builtin.Str PySem.StrLaws

end TL
end 

namespace L2
open PySem PySem.Spec PyProof.Rows

section
variable {X : Cx} {pins : List (Addr × Obj)} {σ : St} {H : Hp} {s : Shared} {Q : VK}
end

section
variable {X : Cx}

end

section
variable {X : Cx} {o e : Expr} {to te : TE}
end
end L2

namespace L2
open PySem PySem.Spec PyProof.Rows

section
variable {X : Cx}
end

end L2

namespace Att
open PySem PySem.W PySem.Calls PyProof.Rows

section
variable {prog : Program} {w : World} {A : Around} {E : Value → Shared → Prop} {s : Shared} {K : Frag}

end
end Att

namespace L2
open PySem PySem.Spec PyProof.Rows

end L2

namespace L2
open PySem PySem.Spec PyProof.Rows

end L2


namespace L2
open PySem PySem.Spec PyProof.Rows

/-- the j-th statement of a class's body -/
def inClass (s : Stmt) (j : Nat) : Stmt := match s with
  | .ClassDef _ _ _ body _ _ _ _ _ _ _ => body.getD j (.Pass ⟨0, 0, 0, 0⟩)
  | _ => .Pass ⟨0, 0, 0, 0⟩
def defArgs (s : Stmt) : Arguments := match s with
  | .FunctionDef _ a _ _ _ _ _ _ _ _ => a
  | _ => { posonlyargs := [], args := [], vararg := none, kwonlyargs := [], kw_defaults := [], kwarg := none, defaults := [] }
def defBody (s : Stmt) : List Stmt := match s with
  | .FunctionDef _ _ b _ _ _ _ _ _ _ => b
  | _ => []
def defScope (s : Stmt) : Scope := match s with
  | .FunctionDef _ _ _ _ _ _ sc _ _ _ => sc
  | _ => { kind := .function, names := [], isGenerator := false, isCoroutine := false }

abbrev CX0 : CXT := fun _ _ _ _ _ _ => False
abbrev E0 : XK := fun _ _ _ => False
theorem pass0 {X : Cx} : Passes CX0 X E0 := fun _ _ _ _ _ _ _ h => h.elim

structure Fun (K : PySem.W.Frag) (x qual : Str) (st : Stmt) (f : Addr) (fd : FuncData) : Prop where
  ex : ∃ (oc : Value) (od : Option Addr) (kV doc pm : Value) (an : Option Addr) (cdv ct : Value) (osl : Array (Option Value)),
    fd = PySem.W.fnOf x qual (defArgs st) (defBody st) (defScope st) .none kV doc pm an cdv ct ∧ K.lookup f = some ⟨oc, od, .func fd, osl⟩ ∧ PySem.W.codeIn K cdv qual = true
  kp : PySem.W.keepIn K (.ref f) = true
section
variable {P : Program} {w : World} {K : PySem.W.Frag} {mg : Str → Option Value} {base : Heap}
/-- THE RULE for a def: its body as a term of rules, and the reading of that term -/
theorem Fun.ok {x qual : Str} {st : Stmt} {f : Addr} {fd : FuncData} {N ps : List Str} {k : Nat} {sp : Sp} (F : Fun K x qual st f fd) (S : FnScope N ps (defScope st)) (len : ∀ vs H Q E, sp vs H Q E → vs.length = ps.length)
    (hbody : ∀ (cdv : Value) (A : Around) (outer : List Env) (s : Shared) (H : Hp) (vs : List V) (Q : VK) (E : XK), Room k (A.deeper (envOfC qual (defScope st) s.heap.objs.size f cdv)) → sp vs H Q E →
      ∃ t, PSs (cxOf CX0 P w K mg base N qual (defScope st) f cdv A outer s H E).nox (defBody st) t ∧ t { nx := fun _ H' => Q .non H', rt := Q } (start N vs) H) : FnOk P w K mg base CX0 (k + 1) f fd ps sp := by
  obtain ⟨oc, od, kV, doc, pm, an, cdv, ct, osl, rfl, lk, hcd⟩ := F.ex
  refine fn_of lk hcd S len fun A outer s H vs Q E hr hsp => ?_
  obtain ⟨t, h, q⟩ := hbody cdv A outer s H vs Q E hr hsp
  exact ⟨t, h.nox, q⟩
/-- how its arguments bind (no defaults): h is «fun _ _ _ _ _ _ us hl => match us, hl with | [_, _], _ => rfl», one _ a parameter -/
theorem Fun.binds {x qual : Str} {st : Stmt} {f : Addr} {fd : FuncData} {ps : List Str} (F : Fun K x qual st f fd)
    (h : ∀ (kV doc pm : Value) (an : Option Addr) (cdv ct : Value) (us : List Value), us.length = ps.length → bindArgs (PySem.W.fnOf x qual (defArgs st) (defBody st) (defScope st) .none kV doc pm an cdv ct) ⟨us, []⟩ = pure (ps.zip us)) : Binds K fd ps [] := by
  obtain ⟨oc, od, kV, doc, pm, an, cdv, ct, osl, rfl, lk, hcd⟩ := F.ex
  exact .all (h kV doc pm an cdv ct)
theorem fun_mk {x qual : Str} {st : Stmt} {f : Addr} {oc : Value} {od an : Option Addr} {osl : Array (Option Value)} {kV doc pm cdv ct : Value} (l : K.lookup f = some ⟨oc, od, .func (PySem.W.fnOf x qual (defArgs st) (defBody st) (defScope st) .none kV doc pm an cdv ct), osl⟩)
    (c : PySem.W.codeIn K cdv qual = true) (k : PySem.W.keepIn K (.ref f) = true) : Fun K x qual st f (PySem.W.fnOf x qual (defArgs st) (defBody st) (defScope st) .none kV doc pm an cdv ct) := ⟨⟨oc, od, kV, doc, pm, an, cdv, ct, osl, rfl, l, c⟩, k⟩
end
section
variable {X : Cx}
theorem pv (i : Nat) {x : Str} {pos : Pos} (hN : X.N[i]? = some x := by rfl) (hv : Vis X.env.scope x := by first | exact Or.inl rfl | exact Or.inr (Or.inl rfl) | exact Or.inr (Or.inr rfl)) (hd : (x == ("__debug__" : Str)) = false := by decide)
    (hcd : (x == ("__classdict__" : Str)) = false := by decide) : PE X (.Name x pos) (tVar i) := pe_var hN hv hd hcd
end

theorem iteF {A B : Prop} (h : B) : if false = true then A else B := by
  rw [if_neg Bool.false_ne_true]
  exact h
theorem iteT {A B : Prop} (h : A) : if true = true then A else B := by
  rw [if_pos rfl]
  exact h
/-- all that was tracked is as it was -/
def Same (H H' : Hp) : Prop := ∀ b o, H b = some o → H' b = some o
theorem Same.trans {H H1 H2 : Hp} (a : Same H H1) (b : Same H1 H2) : Same H H2 := fun c o h => b c o (a c o h)
theorem Same.free {H H' : Hp} (e : Same H H') {l : Addr} (h : H' l = Option.none) : H l = Option.none := by
  cases q : H l with
  | none => rfl
  | some o =>
    rw [e l o q] at h
    cases h
theorem Same.seq {K : PySem.W.Frag} {H H' : Hp} {a : Addr} {xs : List V} (e : Same H H') (h : SqL K H a xs) : SqL K H' a xs := by
  rcases h with (h | ⟨o, h⟩) | h
  · exact .inl (.inl (e _ _ h))
  · exact .inl (.inr ⟨o, e _ _ h⟩)
  · exact .inr h

section
variable {κ : Type} [DecidableEq κ]
end
theorem at_of {xs : List V} {z : Int} {j : Nat} {v : V} (e : z = (j : Int)) (h : xs[j]? = some v) : atI xs z = some v := by
  rw [e]
  exact atI_nat h
/-- a new instance and its __init__ leave all that was tracked as it was -/
theorem Same.made {H H1 : Hp} {x dx C : Addr} (nx : H x = Option.none) (nd : H dx = Option.none) (k : ∀ b o, (upd (upd H dx (.own x)) x (.ins C dx [])) b = some o → b ≠ x → H1 b = some o) : Same H H1 := fun b o e =>
  k b o (by rw [upd_ne (ne_of_none e nx), upd_ne (ne_of_none e nd)]; exact e) (ne_of_none e nx)
end L2
end
section
section
set_option Elab.async false
set_option linter.all false
set_option maxRecDepth 100000
set_option maxHeartbeats 2000000
namespace L2
open PySem PySem.Spec PyProof.Rows
open PySem.W (WData Codec OpenSpec Well WellAll ReadsW ReadsAllW)
mutual
/-- x stands for the datum d, lists and tuples all the way -/
inductive Dw (K : PySem.W.Frag) (H : Hp) : V → WData → Prop
  | non : Dw K H .non .none
  | bl (b : Bool) : Dw K H (.bl b) (.bool b)
  | int (i : Int) : Dw K H (.int i) (.int i)
  | str (x : Str) : Dw K H (.str x) (.str x)
  | byt (b : Array UInt8) : Dw K H (.byt b) (.bytes b.toList)
  | lst {a : Addr} {xs : List V} {ds : List WData} : SqL K H a xs → DwAll K H xs ds → Dw K H (.ref a) (.list ds)
  | tup {a : Addr} {xs : List V} {ds : List WData} : SqT K H a xs → DwAll K H xs ds → Dw K H (.ref a) (.tuple ds)
inductive DwAll (K : PySem.W.Frag) (H : Hp) : List V → List WData → Prop
  | nil : DwAll K H [] []
  | cons {v : V} {vs : List V} {d : WData} {ds : List WData} : Dw K H v d → DwAll K H vs ds → DwAll K H (v :: vs) (d :: ds)
end
theorem dw_ints {K : PySem.W.Frag} {H : Hp} : ∀ ns : List Int, DwAll K H (ns.map V.int) (ns.map WData.int)
  | [] => .nil
  | n :: r => .cons (.int n) (dw_ints r)
theorem ints_dw {K : PySem.W.Frag} {H : Hp} : ∀ (ns : List Int) (xs : List V), DwAll K H xs (ns.map WData.int) → xs = ns.map V.int
  | [], xs, h => by
    cases h
    rfl
  | n :: r, xs, h => by
    cases h with
    | cons h1 h2 =>
      cases h1
      rw [ints_dw r _ h2] <;> rfl
section
variable {P : Program} {w : World} {K : PySem.W.Frag} {H : Hp} {h : Heap} {R : PySem.W.WRecords} {cl : Str → Option Addr}
theorem sqL_at {a : Addr} {xs : List V} (hok : HOk P w H h) (KX : K.In h) (q : SqL K H a xs) : ∃ (its : List Value) (o : Obj) (n : Nat), Vals xs its ∧ h.get? a = some o ∧ o.cls = .type "list" ∧ o.data = .seq its.toArray n := by
  rcases q with q | ⟨o, its, n, e, hc, _, hd, _, hv⟩
  · obtain ⟨_, its, n, hv, e⟩ := (show ObjOk P w H h a (.lst xs) from q.ok hok)
    exact ⟨its, _, n, hv, e, rfl, rfl⟩
  · exact ⟨its.toList, o, n, hv, KX _ _ e, hc, by simp [hd]⟩
theorem sqT_at {a : Addr} {xs : List V} (hok : HOk P w H h) (KX : K.In h) (q : SqT K H a xs) : ∃ (its : List Value) (o : Obj) (n : Nat), Vals xs its ∧ h.get? a = some o ∧ o.cls = .type "tuple" ∧ o.data = .seq its.toArray n := by
  rcases q with q | ⟨o, its, n, e, hc, hd, _, hv⟩
  · obtain ⟨_, its, hv, o, e, hc, n, hd⟩ := (show ObjOk P w H h a (.tup xs) from q.ok hok)
    exact ⟨its, o, n, hv, e, hc, hd⟩
  · exact ⟨its.toList, o, n, hv, KX _ _ e, hc, by simp [hd]⟩
mutual
theorem Dw.reads (hok : HOk P w H h) (KX : K.In h) : ∀ (d : WData) (v : V) (u : Value), Dw K H v d → RelV v u → ∃ as, ReadsW R cl h u d as
  | .none, _, _, x, r => by
    cases x
    cases r
    exact ⟨_, ReadsW.none⟩
  | .bool b, _, _, x, r => by
    cases x
    cases r
    exact ⟨_, ReadsW.bool b⟩
  | .int i, _, _, x, r => by
    cases x
    obtain ⟨t, rfl⟩ := r
    exact ⟨_, ReadsW.int i t⟩
  | .str s, _, _, x, r => by
    cases x
    obtain ⟨t, rfl⟩ := r
    exact ⟨_, ReadsW.str s t⟩
  | .bytes b, _, _, x, r => by
    cases x
    obtain ⟨t, rfl⟩ := r
    exact ⟨_, ReadsW.bytes _ t⟩
  | .list ds, _, _, x, r => by
    cases x with
    | lst hs ha =>
      cases r
      obtain ⟨its, o, n, rv, ho, hc, hd⟩ := sqL_at hok KX hs
      obtain ⟨as, hr⟩ := Dw.readsAll hok KX ds _ its ha rv
      exact ⟨_, ReadsW.list ho hc hd hr⟩
  | .tuple ds, _, _, x, r => by
    cases x with
    | tup hs ha =>
      cases r
      obtain ⟨its, o, n, rv, ho, hc, hd⟩ := sqT_at hok KX hs
      obtain ⟨as, hr⟩ := Dw.readsAll hok KX ds _ its ha rv
      exact ⟨_, ReadsW.tuple ho hc hd hr⟩
  | .float _, _, _, x, _ => by cases x
  | .dict _, _, _, x, _ => by cases x
  | .bytearray _, _, _, x, _ => by cases x
  | .set _, _, _, x, _ => by cases x
  | .frozenset _, _, _, x, _ => by cases x
  | .obj _ _, _, _, x, _ => by cases x
theorem Dw.readsAll (hok : HOk P w H h) (KX : K.In h) : ∀ (ds : List WData) (vs : List V) (us : List Value), DwAll K H vs ds → Vals vs us → ∃ as, ReadsAllW R cl h us ds as
  | [], _, _, x, r => by
    cases x
    cases r
    exact ⟨_, ReadsAllW.nil⟩
  | d :: ds, _, _, x, r => by
    cases x with
    | cons h1 h2 =>
      cases r with
      | cons r1 r2 =>
        obtain ⟨as, q1⟩ := Dw.reads hok KX d _ _ h1 r1
        obtain ⟨bs, q2⟩ := Dw.readsAll hok KX ds _ _ h2 r2
        exact ⟨_, ReadsAllW.cons q1 q2⟩
end
end
mutual
/-- data that a codec tells -/
def plW : WData → Bool
  | .none => true
  | .bool _ => true
  | .int _ => true
  | .str _ => true
  | .bytes _ => true
  | .list xs => plWs xs
  | .tuple xs => plWs xs
  | _ => false
def plWs : List WData → Bool
  | [] => true
  | x :: r => plW x && plWs r
end
theorem plWs_map {α : Type} {f : α → WData} (h : ∀ a, plW (f a) = true) : ∀ l : List α, plWs (l.map f) = true
  | [] => rfl
  | x :: r => by
    show (plW (f x) && plWs (r.map f)) = true
    rw [h x, plWs_map h r] <;> rfl
theorem pl_enc : ∀ (c : Codec) (a : c.denote), plW (c.enc a) = true
  | .unit, _ => rfl
  | .bool, _ => rfl
  | .int _ _, _ => rfl
  | .nat _ _, _ => rfl
  | .u8, _ => rfl
  | .bytes _ _, _ => rfl
  | .text _ _ _ _, _ => rfl
  | .list _ _ c, a => plWs_map (fun x => pl_enc c x) a
  | .pair c d, a => by
    show (plW (c.enc a.1) && (plW (d.enc a.2) && true)) = true
    rw [pl_enc c a.1, pl_enc d a.2] <;> rfl
  | .triple c d e, a => by
    show (plW (c.enc a.1) && (plW (d.enc a.2.1) && (plW (e.enc a.2.2) && true))) = true
    rw [pl_enc c a.1, pl_enc d a.2.1, pl_enc e a.2.2] <;> rfl
  | .option c, none => rfl
  | .option c, some x => pl_enc c x
theorem pl_encAll : ∀ (cs : List Codec) (a : Codec.denoteAll cs), plWs (Codec.encAll cs a) = true
  | [], _ => rfl
  | c :: cs, a => by
    show (plW (c.enc a.1) && plWs (Codec.encAll cs a.2)) = true
    rw [pl_enc c a.1, pl_encAll cs a.2] <;> rfl
theorem weight_mem : ∀ {xs : List WData} {d : WData}, d ∈ xs → d.weight ≤ WData.weightAll xs
  | [], d, h => absurd h (by simp)
  | x :: r, d, h => by
    show d.weight ≤ x.weight + 1 + WData.weightAll r
    rcases List.mem_cons.mp h with e | m
    · rw [e]
      omega
    · have z := weight_mem m
      omega
def toV : Value → V
  | .none => .non
  | .bool b => .bl b
  | .int i _ => .int i
  | .str x _ => .str x
  | .bytes b _ => .byt b
  | .ref a => .ref a
  | _ => .non
/-- a value of the arguments, its objects among A -/
def OkU (A : List Addr) : Value → Prop
  | .none => True
  | .bool _ => True
  | .int _ _ => True
  | .str _ _ => True
  | .bytes _ _ => True
  | .ref a => a ∈ A
  | _ => False
theorem OkU.mono {A B : List Addr} (h : ∀ a ∈ A, a ∈ B) : ∀ {u : Value}, OkU A u → OkU B u := fun {u} x => by
  cases u with
  | ref a => exact h a x
  | none => trivial
  | bool b => trivial
  | int i t => trivial
  | str s t => trivial
  | bytes b t => trivial
  | _ => exact False.elim x
theorem relV_toV {A : List Addr} {u : Value} (x : OkU A u) : RelV (toV u) u := by
  cases u with
  | ref a => rfl
  | none => rfl
  | bool b => rfl
  | int i t => exact ⟨t, rfl⟩
  | str s t => exact ⟨t, rfl⟩
  | bytes b t => exact ⟨t, rfl⟩
  | _ => exact False.elim x
theorem vals_toV {A : List Addr} : ∀ {vs : List Value}, (∀ u ∈ vs, OkU A u) → Vals (vs.map toV) vs
  | [], _ => .nil
  | u :: r, h => .cons (relV_toV (h u (List.mem_cons_self ..))) (vals_toV fun x hx => h x (List.mem_cons_of_mem _ hx))
/-- an object of the arguments -/
def ArgOb (h : Heap) (A : List Addr) (a : Addr) : Prop := ∃ vs : List Value, vs.length ≤ sizeLine ∧ (∀ u ∈ vs, OkU A u) ∧
  (h.get? a = some { cls := .type "list", data := .seq vs.toArray } ∨ h.get? a = some { cls := .type "tuple", data := .seq vs.toArray })
theorem ArgOb.mono {h : Heap} {A B : List Addr} {a : Addr} (k : ∀ a ∈ A, a ∈ B) (x : ArgOb h A a) : ArgOb h B a := by
  obtain ⟨vs, h1, h2, h3⟩ := x
  exact ⟨vs, h1, fun u hu => (h2 u hu).mono k, h3⟩
theorem wellAll_len {P : Params} {h : Heap} : ∀ {vs : List Value} {ds : List WData}, WellAll P h vs ds → vs.length = ds.length
  | _, _, .nil => rfl
  | _, _, .cons _ b => by
    show _ + 1 = _ + 1
    rw [wellAll_len b]
theorem well_list {P : Params} {h : Heap} {v : Value} {ds : List WData} (x : Well P h v (.list ds)) : ∃ (a : Addr) (vs : List Value), v = .ref a ∧ h.get? a = some { cls := .type "list", data := .seq vs.toArray } ∧ WellAll P h vs ds := by
  cases x with
  | list ho hall => exact ⟨_, _, rfl, ho, hall⟩
theorem well_tuple {P : Params} {h : Heap} {v : Value} {ds : List WData} (x : Well P h v (.tuple ds)) : ∃ (a : Addr) (vs : List Value), v = .ref a ∧ h.get? a = some { cls := .type "tuple", data := .seq vs.toArray } ∧ WellAll P h vs ds := by
  cases x with
  | tuple ho hall => exact ⟨_, _, rfl, ho, hall⟩
theorem well_cons {P : Params} {h : Heap} {us : List Value} {d : WData} {ds : List WData} (x : WellAll P h us (d :: ds)) : ∃ (v : Value) (vs : List Value), us = v :: vs ∧ Well P h v d ∧ WellAll P h vs ds := by
  cases x with
  | cons a b => exact ⟨_, _, rfl, a, b⟩
theorem line_of {n : Nat} (h : n ≤ 1048576) : n ≤ sizeLine := Nat.le_trans h (by decide)
section
variable {P : Params} {h : Heap}
mutual
theorem area_one : ∀ (d : WData) (v : Value), Well P h v d → plW d = true → d.weight ≤ 1048576 → ∃ A : List Addr, OkU A v ∧ ∀ a ∈ A, ArgOb h A a
  | .none, _, x, _, _ => by
    cases x
    exact ⟨[], trivial, fun a m => absurd m (by simp)⟩
  | .bool b, _, x, _, _ => by
    cases x
    exact ⟨[], trivial, fun a m => absurd m (by simp)⟩
  | .int i, _, x, _, _ => by
    cases x
    exact ⟨[], trivial, fun a m => absurd m (by simp)⟩
  | .str s, _, x, _, _ => by
    cases x
    exact ⟨[], trivial, fun a m => absurd m (by simp)⟩
  | .bytes b, _, x, _, _ => by
    cases x
    exact ⟨[], trivial, fun a m => absurd m (by simp)⟩
  | .list ds, _, x, p, z => by
    obtain ⟨a, vs, rfl, ho, hall⟩ := well_list x
    have z2 : WData.weightAll ds ≤ 1048576 := z
    obtain ⟨A, h1, h2⟩ := area_all ds _ hall p fun d hd => Nat.le_trans (weight_mem hd) z2
    have k : ∀ b ∈ A, b ∈ a :: A := fun b hb => List.mem_cons_of_mem _ hb
    refine ⟨a :: A, List.mem_cons_self .., fun b hb => ?_⟩
    rcases List.mem_cons.mp hb with e | m
    · rw [e]
      exact ⟨vs, line_of (by rw [wellAll_len hall]; exact Nat.le_trans (PySem.W.length_le_weightAllW ds) z2), fun u hu => (h1 u hu).mono k, .inl ho⟩
    · exact (h2 b m).mono k
  | .tuple ds, _, x, p, z => by
    obtain ⟨a, vs, rfl, ho, hall⟩ := well_tuple x
    have z2 : WData.weightAll ds ≤ 1048576 := z
    obtain ⟨A, h1, h2⟩ := area_all ds _ hall p fun d hd => Nat.le_trans (weight_mem hd) z2
    have k : ∀ b ∈ A, b ∈ a :: A := fun b hb => List.mem_cons_of_mem _ hb
    refine ⟨a :: A, List.mem_cons_self .., fun b hb => ?_⟩
    rcases List.mem_cons.mp hb with e | m
    · rw [e]
      exact ⟨vs, line_of (by rw [wellAll_len hall]; exact Nat.le_trans (PySem.W.length_le_weightAllW ds) z2), fun u hu => (h1 u hu).mono k, .inr ho⟩
    · exact (h2 b m).mono k
  | .float _, _, _, p, _ => Bool.noConfusion (show false = true from p)
  | .dict _, _, _, p, _ => Bool.noConfusion (show false = true from p)
  | .bytearray _, _, _, p, _ => Bool.noConfusion (show false = true from p)
  | .set _, _, _, p, _ => Bool.noConfusion (show false = true from p)
  | .frozenset _, _, _, p, _ => Bool.noConfusion (show false = true from p)
  | .obj _ _, _, _, p, _ => Bool.noConfusion (show false = true from p)
theorem area_all : ∀ (ds : List WData) (vs : List Value), WellAll P h vs ds → plWs ds = true → (∀ d ∈ ds, d.weight ≤ 1048576) → ∃ A : List Addr, (∀ u ∈ vs, OkU A u) ∧ ∀ a ∈ A, ArgOb h A a
  | [], _, x, _, _ => by
    cases x
    exact ⟨[], fun u m => absurd m (by simp), fun a m => absurd m (by simp)⟩
  | d :: ds, _, x, p, z => by
    obtain ⟨v, vs, rfl, x1, x2⟩ := well_cons x
    have q : plW d = true ∧ plWs ds = true := Bool.and_eq_true_iff.mp p
    obtain ⟨A, a1, a2⟩ := area_one d v x1 q.1 (z d (List.mem_cons_self ..))
    obtain ⟨B, b1, b2⟩ := area_all ds vs x2 q.2 fun e he => z e (List.mem_cons_of_mem _ he)
    have kA : ∀ b ∈ A, b ∈ A ++ B := fun b hb => List.mem_append.mpr (.inl hb)
    have kB : ∀ b ∈ B, b ∈ A ++ B := fun b hb => List.mem_append.mpr (.inr hb)
    refine ⟨A ++ B, fun u hu => ?_, fun b hb => ?_⟩
    · rcases List.mem_cons.mp hu with e | m
      · rw [e]
        exact a1.mono kA
      · exact (b1 u m).mono kB
    · rcases List.mem_append.mp hb with m | m
      · exact (a2 b m).mono kA
      · exact (b2 b m).mono kB
end
end
/-- what is tracked of an argument's object -/
def hoOf (o : Obj) : Option HO := match o.data with
  | .seq vs _ => if (o.cls == Value.type "list") = true then some (.frz o (.lst (vs.toList.map toV))) else some (.frz o (.tup (vs.toList.map toV)))
  | _ => none
def argH (K : PySem.W.Frag) (h : Heap) (A : List Addr) : Hp := fun b => if b ∈ A then (if (K.lookup b).isNone = true then (h.get? b).bind hoOf else none) else none
/-- nothing is tracked but what is known to the object -/
def OnlyF (H : Hp) : Prop := ∀ b, H b = none ∨ ∃ o u, H b = some (.frz o u)
theorem hoOf_lst (vs : List Value) : hoOf { cls := .type "list", data := .seq vs.toArray } = some (.frz { cls := .type "list", data := .seq vs.toArray } (.lst (vs.map toV))) := by
  show (if (Value.type "list" == Value.type "list") = true then some (HO.frz { cls := .type "list", data := .seq vs.toArray } (.lst (vs.toArray.toList.map toV))) else some (HO.frz { cls := .type "list", data := .seq vs.toArray } (.tup (vs.toArray.toList.map toV)))) = _
  rw [if_pos (beq_self_eq_true _)]
theorem hoOf_tup (vs : List Value) : hoOf { cls := .type "tuple", data := .seq vs.toArray } = some (.frz { cls := .type "tuple", data := .seq vs.toArray } (.tup (vs.map toV))) := by
  show (if (Value.type "tuple" == Value.type "list") = true then some (HO.frz { cls := .type "tuple", data := .seq vs.toArray } (.lst (vs.toArray.toList.map toV))) else some (HO.frz { cls := .type "tuple", data := .seq vs.toArray } (.tup (vs.toArray.toList.map toV)))) = _
  rw [if_neg (by decide)]
section
variable {P : Program} {w : World} {K : PySem.W.Frag} {h : Heap} {A : List Addr}
theorem argH_at {b : Addr} {o : Obj} (hb : b ∈ A) (hk : K.lookup b = none) (e : h.get? b = some o) : argH K h A b = hoOf o := by
  unfold argH
  rw [if_pos hb, hk, if_pos (show (none : Option Obj).isNone = true from rfl), e] <;> rfl
theorem of_argH {b : Addr} {u : HO} (q : argH K h A b = some u) : b ∈ A ∧ K.lookup b = none := by
  unfold argH at q
  by_cases hb : b ∈ A
  · rw [if_pos hb] at q
    cases hk : K.lookup b with
    | none => exact ⟨hb, rfl⟩
    | some o =>
      rw [hk, if_neg (by simp)] at q
      cases q
  · rw [if_neg hb] at q
    cases q
/-- what stands tracked -/
theorem argH_is (ar : ∀ a ∈ A, ArgOb h A a) {b : Addr} {u : HO} (q : argH K h A b = some u) : K.lookup b = none ∧ ∃ vs : List Value, vs.length ≤ sizeLine ∧ (∀ u ∈ vs, OkU A u) ∧
    ((h.get? b = some { cls := .type "list", data := .seq vs.toArray } ∧ u = .frz { cls := .type "list", data := .seq vs.toArray } (.lst (vs.map toV))) ∨
     (h.get? b = some { cls := .type "tuple", data := .seq vs.toArray } ∧ u = .frz { cls := .type "tuple", data := .seq vs.toArray } (.tup (vs.map toV)))) := by
  obtain ⟨hb, hk⟩ := of_argH q
  obtain ⟨vs, h1, h2, h3⟩ := ar b hb
  refine ⟨hk, vs, h1, h2, ?_⟩
  rcases h3 with e | e
  · rw [argH_at hb hk e, hoOf_lst] at q
    exact .inl ⟨e, (Option.some.inj q).symm⟩
  · rw [argH_at hb hk e, hoOf_tup] at q
    exact .inr ⟨e, (Option.some.inj q).symm⟩
theorem argH_only (ar : ∀ a ∈ A, ArgOb h A a) : OnlyF (argH K h A) := fun b => by
  cases q : argH K h A b with
  | none => exact .inl rfl
  | some u =>
    obtain ⟨_, vs, _, _, ⟨_, e⟩ | ⟨_, e⟩⟩ := argH_is ar q
    · exact .inr ⟨_, _, by rw [e]⟩
    · exact .inr ⟨_, _, by rw [e]⟩
theorem argH_ok (ar : ∀ a ∈ A, ArgOb h A a) : HOk P w (argH K h A) h := fun b u q => by
  obtain ⟨_, vs, h1, h2, ⟨e, rfl⟩ | ⟨e, rfl⟩⟩ := argH_is ar q
  · exact ⟨e, by rw [List.length_map]; exact h1, vs, _, vals_toV h2, e⟩
  · exact ⟨e, by rw [List.length_map]; exact h1, vs, vals_toV h2, _, e, rfl, _, rfl⟩
theorem seq_inj {c c' : Value} {vs us : List Value} (e : (some { cls := c, data := .seq vs.toArray } : Option Obj) = some { cls := c', data := .seq us.toArray }) : c = c' ∧ vs = us := by
  have e1 := Option.some.inj e
  have e2 : c = c' := congrArg Obj.cls e1
  have e3 : Data.seq vs.toArray = Data.seq us.toArray := congrArg Obj.data e1
  injection e3 with e4
  refine ⟨e2, ?_⟩
  have e5 := congrArg Array.toList e4
  simpa using e5
/-- a list argument -/
theorem argL (KX : K.In h) (ar : ∀ a ∈ A, ArgOb h A a) {a : Addr} {vs : List Value} (ha : a ∈ A) (e : h.get? a = some { cls := .type "list", data := .seq vs.toArray }) : (∀ u ∈ vs, OkU A u) ∧ SqL K (argH K h A) a (vs.map toV) := by
  obtain ⟨us, h1, h2, h3⟩ := ar a ha
  have hu : us = vs := by
    rcases h3 with q | q
    · rw [e] at q
      exact (seq_inj q).2.symm
    · rw [e] at q
      exact absurd (Value.type.inj (seq_inj q).1) (by decide)
  subst hu
  refine ⟨h2, ?_⟩
  cases hk : K.lookup a with
  | none => exact .inl (.inr ⟨_, by rw [argH_at ha hk e, hoOf_lst]⟩)
  | some o =>
    have e2 := KX a o hk
    rw [e] at e2
    obtain rfl := Option.some.inj e2
    exact .inr ⟨_, us.toArray, _, hk, rfl, rfl, rfl, by rw [List.size_toArray]; exact h1, by simpa using vals_toV h2⟩
theorem argT (KX : K.In h) (ar : ∀ a ∈ A, ArgOb h A a) {a : Addr} {vs : List Value} (ha : a ∈ A) (e : h.get? a = some { cls := .type "tuple", data := .seq vs.toArray }) : (∀ u ∈ vs, OkU A u) ∧ SqT K (argH K h A) a (vs.map toV) := by
  obtain ⟨us, h1, h2, h3⟩ := ar a ha
  have hu : us = vs := by
    rcases h3 with q | q
    · rw [e] at q
      exact absurd (Value.type.inj (seq_inj q).1) (by decide)
    · rw [e] at q
      exact (seq_inj q).2.symm
  subst hu
  refine ⟨h2, ?_⟩
  cases hk : K.lookup a with
  | none => exact .inl (.inr ⟨_, by rw [argH_at ha hk e, hoOf_tup]⟩)
  | some o =>
    have e2 := KX a o hk
    rw [e] at e2
    obtain rfl := Option.some.inj e2
    exact .inr ⟨_, us.toArray, _, hk, rfl, rfl, by rw [List.size_toArray]; exact h1, by simpa using vals_toV h2⟩
mutual
theorem dw_one {Pm : Params} (KX : K.In h) (ar : ∀ a ∈ A, ArgOb h A a) : ∀ (d : WData) (v : Value), Well Pm h v d → plW d = true → OkU A v → Dw K (argH K h A) (toV v) d
  | .none, _, x, _, _ => by
    cases x
    exact .non
  | .bool b, _, x, _, _ => by
    cases x
    exact .bl b
  | .int i, _, x, _, _ => by
    cases x
    exact .int i
  | .str s, _, x, _, _ => by
    cases x
    exact .str s
  | .bytes b, _, x, _, _ => by
    cases x
    have z := Dw.byt (K := K) (H := argH K h A) b.toArray
    exact z
  | .list ds, _, x, p, hu => by
    obtain ⟨a, vs, rfl, ho, hall⟩ := well_list x
    obtain ⟨h2, hs⟩ := argL KX ar hu ho
    exact .lst hs (dw_all KX ar ds _ hall p h2)
  | .tuple ds, _, x, p, hu => by
    obtain ⟨a, vs, rfl, ho, hall⟩ := well_tuple x
    obtain ⟨h2, hs⟩ := argT KX ar hu ho
    exact .tup hs (dw_all KX ar ds _ hall p h2)
  | .float _, _, _, p, _ => Bool.noConfusion (show false = true from p)
  | .dict _, _, _, p, _ => Bool.noConfusion (show false = true from p)
  | .bytearray _, _, _, p, _ => Bool.noConfusion (show false = true from p)
  | .set _, _, _, p, _ => Bool.noConfusion (show false = true from p)
  | .frozenset _, _, _, p, _ => Bool.noConfusion (show false = true from p)
  | .obj _ _, _, _, p, _ => Bool.noConfusion (show false = true from p)
theorem dw_all {Pm : Params} (KX : K.In h) (ar : ∀ a ∈ A, ArgOb h A a) : ∀ (ds : List WData) (vs : List Value), WellAll Pm h vs ds → plWs ds = true → (∀ u ∈ vs, OkU A u) → DwAll K (argH K h A) (vs.map toV) ds
  | [], _, x, _, _ => by
    cases x
    exact .nil
  | d :: ds, _, x, p, hu => by
    obtain ⟨v, vs, rfl, x1, x2⟩ := well_cons x
    have q : plW d = true ∧ plWs ds = true := Bool.and_eq_true_iff.mp p
    exact .cons (dw_one KX ar d v x1 q.1 (hu _ (List.mem_cons_self ..))) (dw_all KX ar ds vs x2 q.2 fun u m => hu u (List.mem_cons_of_mem _ m))
end
end
theorem spec_call {P : Program} {w : World} {K : PySem.W.Frag} {mg mb : Str → Option Value} {CX : CXT} {k : Nat} {fa : Addr} {fd : FuncData} {ps : List Str} {sp : Sp} {s₁ : Shared} {vals : List Value} {ds : List WData} {R : PySem.W.WRecords} {cl : Str → Option Addr} {d0 : WData}
    (KX : K.In s₁.heap) (hns : s₁.heap.Ns mainGlobals mg) (hb : s₁.heap.Ns builtinsNs mb) (hbb : ∀ x : Str, x ≠ "__name__" → mb x = bootBuiltins x) (hlim : s₁.heap.NoLimit) (hg : s₁.gens = #[])
    (hwl : WellAll w.params s₁.heap vals ds) (hpl : plWs ds = true) (hwt : ∀ d ∈ ds, d.weight ≤ 1048576) (hr : Room k callerA)
    (F : ∀ base : Heap, K.In base → base.Ns mainGlobals mg → FnOk P w K mg base CX k fa fd ps sp) (hbind : ∀ (s : Shared) (us : List Value), us.length = ps.length → BindsTo s fd ⟨us, []⟩ (ps.zip us)) (hlen : ds.length = ps.length)
    (hsp : ∀ (H : Hp) (xs : List V), OnlyF H → DwAll K H xs ds → sp xs H (fun v H' => Dw K H' v d0) fun _ _ _ => False)
    (hCX : ∀ H e s', CX [] H s₁ (fun _ _ _ => False) e s' → False) :
    codeAny (model P w) callerA (.call (.ref fa) ⟨vals, []⟩) (fun r s' => ∃ u as, r = .ok (.ret u) ∧ ReadsW R cl s'.heap u d0 as ∧ OldK s₁.heap s'.heap ∧ s'.os = s₁.os ∧ AllBare s'.gens) s₁ := by
  obtain ⟨A, ho, ar⟩ := area_all ds vals hwl hpl hwt
  have hO : OnlyF (argH K s₁.heap A) := argH_only ar
  have hok : HOk P w (argH K s₁.heap A) s₁.heap := argH_ok ar
  have hS := dw_all KX ar ds vals hwl hpl ho
  have hV := vals_toV ho
  have hK : ∀ b u, argH K s₁.heap A b = some u → K.lookup b = none := fun b u q => (argH_is ar q).1
  have noA : ∀ {b : Addr} {o : Obj} {es : Array DictEntry} {ep : Nat}, s₁.heap.get? b = some o → o.data = .dict es ep → argH K s₁.heap A b = none := fun {b o es ep} e d => by
    cases q : argH K s₁.heap A b with
    | none => rfl
    | some u =>
      obtain ⟨_, vs, _, _, ⟨e2, _⟩ | ⟨e2, _⟩⟩ := argH_is ar q
      · rw [e2] at e
        cases e
        have d' : Data.seq vs.toArray _ = Data.dict es ep := d
        cases d'
      · rw [e2] at e
        cases e
        have d' : Data.seq vs.toArray _ = Data.dict es ep := d
        cases d'
  generalize argH K s₁.heap A = H at hO hok hS hK noA
  have base_of : ∀ {b : Addr} {o : Obj}, s₁.heap.get? b = some o → H b = none → (hidT s₁.heap H).get? b = some o := fun e n => hidT_get e n
  have nsK : ∀ {b : Addr} {m : Str → Option Value}, s₁.heap.Ns b m → (hidT s₁.heap H).Ns b m := fun {b m} ⟨o, es, ep, e, d, r⟩ => ⟨o, es, ep, base_of e (noA e d), d, r⟩
  have nK : ∀ b o, K.lookup b = some o → H b = none := fun b o e => by
    cases q : H b with
    | none => rfl
    | some u =>
      rw [hK b u q] at e
      cases e
  have hKb : K.In (hidT s₁.heap H) := fun b o e => base_of (KX b o e) (nK b o e)
  have hM : Mod K mg (hidT s₁.heap H) := ⟨hKb, nsK hns, ⟨mb, nsK hb, hbb⟩, let ⟨mc, h1, h2⟩ := hlim; ⟨mc, nsK h1, h2⟩⟩
  have e0 : Env0 P w K mg (hidT s₁.heap H) callerA [] s₁ H := ⟨rfl, hM, fun b o e => of_hidT e, Nat.le_of_eq (hidT_size _ _), trivial, fun b hb => absurd (show b ∈ ([] : List Addr) from hb) (by simp), hok, .of_eq hg⟩
  have hl : vals.length = ps.length := by rw [wellAll_len hwl]; exact hlen
  refine codeAny_mono ((F _ hKb (nsK hns)).run callerA [] s₁ H ⟨vals, []⟩ vals (vals.map toV) _ _ hr e0 (hbind s₁ vals hl) hV (hsp H _ hO hS)) fun r s' x => ?_
  cases r with
  | error e => exact (hCX H e s' x).elim
  | ok fl =>
    cases fl with
    | next => exact False.elim x
    | brk => exact False.elim x
    | cont => exact False.elim x
    | ret u =>
      obtain ⟨v, H', os, bare, un, hok', r', q⟩ := x
      have kept : ∀ b o, s₁.heap.get? b = some o → s'.heap.get? b = some o := fun b o e => by
        cases q2 : H b with
        | none => exact un.keep b o e q2 (by intro z; exact absurd (show b ∈ ([] : List Addr) from z) (by simp)) (by simp)
        | some u2 =>
          rcases hO b with z | ⟨ob, u3, z⟩
          · rw [q2] at z
            cases z
          · have z2 := un.frzs b ob _ z
            obtain ⟨e1, _⟩ := hok b _ z
            obtain ⟨e2, _⟩ := hok' b _ z2
            rw [e] at e1
            cases e1
            exact e2
      have KX' : K.In s'.heap := fun b o e => kept b o (KX b o e)
      obtain ⟨as, hrd⟩ := Dw.reads (R := R) (cl := cl) hok' KX' d0 v u q r'
      exact ⟨u, as, rfl, hrd, OldK.of_keep kept, os, bare⟩
theorem layable_weight {ds : List WData} (h : WData.layableAll ds = true) : ∀ d ∈ ds, d.weight ≤ 1048576 := fun d hd =>
  (PySem.W.layableW_iff.mp (List.all_eq_true.mp h d hd)).2.2
theorem encAll_len : ∀ (cs : List Codec) (a : Codec.denoteAll cs), (Codec.encAll cs a).length = cs.length
  | [], _ => rfl
  | c :: cs, a => by
    show (Codec.encAll cs a.2).length + 1 = cs.length + 1
    rw [encAll_len cs a.2]
/-- the goal that k_headS leaves (case hc), from the promise of the row's def: whatever the arguments that the codecs let and the row asks for, the def gives what stands for enc (f ..) -/
theorem walk_spec {r : OpenSpec} {k : Nat} {q : Program} {loose : List Str} {XP : (Str → Option Value) → Heap → Prop} {YP : World → Heap → Prop} {d : DefRec} {K : Params → PySem.W.Frag} {CX : World → CXT} {ps : List Str} {sp : World → Sp}
    (hwell : r.wellSaid = true) (hdf : d.params.defaults = []) (hlen : r.args.length = ps.length) (hr : Room k callerA)
    (hY : ∀ (w : World) (h : Heap), YP w h → (K w.params).In h)
    (F : ∀ (w : World) (mg : Str → Option Value) (fa : Addr) (h : Heap), YP w h → (K w.params).In h → h.Ns mainGlobals mg → mg d.name = some (.ref fa) →
      ∃ fd : FuncData, (∀ (s : Shared) (us : List Value), us.length = ps.length → BindsTo s fd ⟨us, []⟩ (ps.zip us)) ∧
        ∀ base : Heap, (K w.params).In base → base.Ns mainGlobals mg → FnOk r.prog w (K w.params) mg base (CX w) k fa fd ps (sp w))
    (hsp : ∀ (w : World) (H : Hp) (xs : List V) (a : Codec.denoteAll r.args), OnlyF H → Codec.withinAll r.args a = true → Codec.app r.args r.asked a = true → DwAll (K w.params) H xs (Codec.encAll r.args a) →
      sp w xs H (fun v H' => Dw (K w.params) H' v (r.ret.enc (Codec.app r.args r.f a))) fun _ _ _ => False)
    (hCX : ∀ (w : World) (H : Hp) (s : Shared) (e : Value) (s' : Shared), CX w [] H s (fun _ _ _ => False) e s' → False) :
    PySem.W.WalkOS q loose XP YP r d [] (fun f vs => PySem.call f vs) := by
  intro w s_0 s₁ mg mb G Y fa o pm cd doc dV kV ho hd hcd hD hmg hg args vals as hpre hlay hrd hwl hlo
  obtain ⟨a, e1, e2⟩ := PySem.W.os_pre_some hpre
  obtain ⟨e3, hwi⟩ := Codec.encAll_of_decAll r.args args a e1
  subst e3
  have KX := hY w _ Y
  obtain ⟨fd, hb, hF⟩ := F w mg fa _ Y KX G.T.g hmg
  refine PySem.W.enter_call (codeAny_mono (spec_call (R := []) (cl := classAt s_0.heap) (d0 := r.ret.enc (Codec.app r.args r.f a)) KX G.T.g G.T.b G.T.builtins G.T.nolimit hg hwl (pl_encAll _ _) (layable_weight hlay) hr hF hb (by rw [encAll_len]; exact hlen)
    (fun H xs hO hS => hsp w H xs a hO hwi e2 hS) fun H e s' => hCX w H s₁ e s') fun r' s' hq => ?_)
  obtain ⟨u, as', rfl, h1, h2, h3, h4⟩ := hq
  exact ⟨.inl ⟨u, _, as', rfl, fun _ => rfl, h1, (OpenSpec.post_iff hwell hwi _ _).mpr rfl, fun z => Bool.noConfusion (show false = true from z)⟩, h2, h3, h4⟩
/-- the same where the promise hangs on the written part alone -/
theorem walk_specK {r : OpenSpec} {k : Nat} {q : Program} {loose : List Str} {XP : (Str → Option Value) → Heap → Prop} {YP : World → Heap → Prop} {d : DefRec} {K : Params → PySem.W.Frag} {CX : CXT} {ps : List Str} {sp : PySem.W.Frag → Sp}
    (hwell : r.wellSaid = true) (hdf : d.params.defaults = []) (hlen : r.args.length = ps.length) (hr : Room k callerA)
    (hY : ∀ (w : World) (h : Heap), YP w h → (K w.params).In h)
    (F : ∀ (w : World) (mg : Str → Option Value) (fa : Addr) (h : Heap), YP w h → (K w.params).In h → h.Ns mainGlobals mg → mg d.name = some (.ref fa) →
      ∃ fd : FuncData, (∀ (s : Shared) (us : List Value), us.length = ps.length → BindsTo s fd ⟨us, []⟩ (ps.zip us)) ∧
        ∀ base : Heap, (K w.params).In base → base.Ns mainGlobals mg → FnOk r.prog w (K w.params) mg base CX k fa fd ps (sp (K w.params)))
    (hsp : ∀ (K : PySem.W.Frag) (H : Hp) (xs : List V) (a : Codec.denoteAll r.args), OnlyF H → Codec.withinAll r.args a = true → Codec.app r.args r.asked a = true → DwAll K H xs (Codec.encAll r.args a) →
      sp K xs H (fun v H' => Dw K H' v (r.ret.enc (Codec.app r.args r.f a))) fun _ _ _ => False)
    (hCX : ∀ (H : Hp) (s : Shared) (e : Value) (s' : Shared), CX [] H s (fun _ _ _ => False) e s' → False) :
    PySem.W.WalkOS q loose XP YP r d [] (fun f vs => PySem.call f vs) :=
  walk_spec (K := K) (CX := fun _ => CX) (sp := fun w => sp (K w.params)) hwell hdf hlen hr hY F (fun w H xs a h1 h2 h3 h4 => hsp (K w.params) H xs a h1 h2 h3 h4) fun _ H s e s' => hCX H s e s'
end L2
-- rests on (row put in by the clerk, for the bench that shows a file only what it spells): KE.SpHead KE.OsShapes
end
end
section
set_option linter.all false
namespace Fg
/-! ### bits -/
def msk (n : Nat) (f : Nat → Bool) : Nat := ((List.range n).map fun v => if f v = true then 2 ^ v else 0).sum
def dif (a b : Nat) : Nat := a ^^^ (a &&& b)
def pc : Nat → Nat → Nat
  | 0, _ => 0
  | n + 1, r => r % 2 + pc n (r / 2)
theorem msk_succ (n : Nat) (f : Nat → Bool) : msk (n + 1) f = msk n f + (if f n = true then 2 ^ n else 0) := by
  simp [msk, List.range_succ]
theorem msk_lt (f : Nat → Bool) : ∀ n, msk n f < 2 ^ n
  | 0 => by simp [msk]
  | n + 1 => by
    have := msk_lt f n
    rw [msk_succ, Nat.pow_succ]
    split <;> omega
theorem testBit_msk (f : Nat → Bool) : ∀ n v, (msk n f).testBit v = (decide (v < n) && f v)
  | 0, v => by simp [msk]
  | n + 1, v => by
    have h := msk_lt f n
    have ih := testBit_msk f n v
    rw [msk_succ]
    by_cases hf : f n = true
    · rw [if_pos hf, Nat.add_comm]
      rcases Nat.lt_trichotomy v n with hv | hv | hv
      · rw [Nat.testBit_two_pow_add_gt hv, ih]
        simp [hv, Nat.lt_succ_of_lt hv]
      · subst hv
        rw [Nat.testBit_two_pow_add_eq, ih]
        simp [hf]
      · have : 2 ^ n + msk n f < 2 ^ v := by
          have : 2 ^ (n + 1) ≤ 2 ^ v := Nat.pow_le_pow_right (by decide) hv
          rw [Nat.pow_succ] at this
          omega
        rw [Nat.testBit_lt_two_pow this]
        have : ¬ v < n + 1 := by omega
        simp [this]
    · rw [if_neg hf, Nat.add_zero, ih]
      by_cases hv : v < n
      · simp [hv, Nat.lt_succ_of_lt hv]
      · by_cases e : v = n
        · subst e; simp at hf; simp [hf]
        · have : ¬ v < n + 1 := by omega
          simp [hv, this]
theorem bits_ext {n a b : Nat} (ha : a < 2 ^ n) (hb : b < 2 ^ n) (h : ∀ v, v < n → a.testBit v = b.testBit v) : a = b := by
  apply Nat.eq_of_testBit_eq
  intro i
  by_cases hi : i < n
  · exact h i hi
  · have p : 2 ^ n ≤ 2 ^ i := Nat.pow_le_pow_right (by decide) (by omega)
    rw [Nat.testBit_lt_two_pow (Nat.lt_of_lt_of_le ha p), Nat.testBit_lt_two_pow (Nat.lt_of_lt_of_le hb p)]
theorem testBit_of_lt {n r v : Nat} (h : r < 2 ^ n) (hv : n ≤ v) : r.testBit v = false :=
  Nat.testBit_lt_two_pow (Nat.lt_of_lt_of_le h (Nat.pow_le_pow_right (by decide) hv))
theorem lt_of_testBit {n r v : Nat} (h : r < 2 ^ n) (hb : r.testBit v = true) : v < n := by
  rcases Nat.lt_or_ge v n with q | q
  · exact q
  · rw [testBit_of_lt h q] at hb; cases hb
theorem msk_self {n r : Nat} (h : r < 2 ^ n) : msk n (fun v => r.testBit v) = r := by
  apply bits_ext (msk_lt _ _) h
  intro v hv
  rw [testBit_msk]; simp [hv]
theorem testBit_dif (a b v : Nat) : (dif a b).testBit v = (a.testBit v && !b.testBit v) := by
  unfold dif
  rw [Nat.testBit_xor, Nat.testBit_and]
  cases a.testBit v <;> cases b.testBit v <;> rfl
theorem dif_lt {n a b : Nat} (h : a < 2 ^ n) : dif a b < 2 ^ n := Nat.xor_lt_two_pow h (Nat.lt_of_le_of_lt Nat.and_le_left h)
theorem exists_testBit {m : Nat} (h : m ≠ 0) : ∃ v, m.testBit v = true := Nat.exists_testBit_of_ne_zero h
theorem pow_testBit (i v : Nat) : (2 ^ i).testBit v = decide (i = v) := Nat.testBit_two_pow
theorem xor_add_and (m n : Nat) : (m ^^^ n) + 2 * (m &&& n) = m + n := Bits.nat_xor_add_and m n
theorem and_left_idem (r m : Nat) : r &&& (r &&& m) = r &&& m := by
  apply Nat.eq_of_testBit_eq; intro i
  simp only [Nat.testBit_and]
  cases r.testBit i <;> simp
theorem dif_add (r m : Nat) : dif r m + (r &&& m) = r := by
  have := xor_add_and r (r &&& m)
  rw [and_left_idem] at this
  unfold dif; omega
/-- sets without a point in common: their sum is their union -/
theorem or_disj {a b : Nat} (h : a &&& b = 0) : a ||| b = a + b := by
  have e : a ||| b = a ^^^ b := by
    apply Nat.eq_of_testBit_eq; intro i
    have q := congrArg (fun z => Nat.testBit z i) h
    simp only [Nat.testBit_and, Nat.zero_testBit] at q
    rw [Nat.testBit_or, Nat.testBit_xor]
    cases x : a.testBit i <;> cases y : b.testBit i <;> simp_all
  have := xor_add_and a b
  rw [h] at this
  rw [e]; omega
/-! ### how many bits -/
theorem pc_cnt : ∀ n r, ((List.range n).filter fun v => r.testBit v).length = pc n r
  | 0, r => rfl
  | n + 1, r => by
    rw [List.range_succ_eq_map, List.filter_cons, List.filter_map]
    have ih := pc_cnt n (r / 2)
    have e : (fun v => r.testBit v) ∘ Nat.succ = fun v => (r / 2).testBit v := by
      funext v; simp [Nat.testBit_succ]
    rw [e]
    unfold pc
    by_cases h : r % 2 = 1
    · rw [if_pos (by rw [Nat.testBit_zero]; simp [h])]
      simp [ih, h]; omega
    · rw [if_neg (by rw [Nat.testBit_zero]; simp [h])]
      have h0 : r % 2 = 0 := by omega
      simp [ih, h0]
theorem pc_zero : ∀ n, pc n 0 = 0
  | 0 => rfl
  | n + 1 => by simp [pc, pc_zero n]
theorem pc_more : ∀ n m r, r < 2 ^ n → pc (n + m) r = pc n r
  | 0, m, r, h => by
    have : r = 0 := by simpa using h
    subst this; rw [pc_zero]; rfl
  | n + 1, m, r, h => by
    have h2 : r / 2 < 2 ^ n := by rw [Nat.pow_succ] at h; omega
    have e : n + 1 + m = (n + m) + 1 := by omega
    rw [e]
    show r % 2 + pc (n + m) (r / 2) = r % 2 + pc n (r / 2)
    rw [pc_more n m _ h2]
theorem pc_eq {n m r : Nat} (hn : r < 2 ^ n) (hm : r < 2 ^ m) : pc n r = pc m r := by
  rw [← pc_more n m r hn, Nat.add_comm, pc_more m n r hm]
def tab : List Nat := [0, 1, 1, 2, 1, 2, 2, 3, 1, 2, 2, 3, 2, 3, 3, 4]
theorem tab_at : ∀ j, j < 16 → tab[j]? = some (j % 2 + (j / 2 % 2 + (j / 4 % 2 + j / 8 % 2))) := by decide
theorem pc_four {n r : Nat} (h : r < 2 ^ n) : ∃ t, tab[r % 16]? = some t ∧ pc n r = t + pc n (r / 16) := by
  refine ⟨_, tab_at (r % 16) (Nat.mod_lt _ (by decide)), ?_⟩
  rw [← pc_more n 4 r h]
  show r % 2 + (r / 2 % 2 + (r / 2 / 2 % 2 + (r / 2 / 2 / 2 % 2 + pc n (r / 2 / 2 / 2 / 2)))) = _
  have e1 : r % 16 % 2 = r % 2 := Nat.mod_mod_of_dvd r (by decide)
  have e2 : r % 16 / 2 % 2 = r / 2 % 2 := by
    show r % (2 * 8) / 2 % 2 = _
    rw [Nat.mod_mul_right_div_self]
    exact Nat.mod_mod_of_dvd _ (by decide)
  have e3 : r % 16 / 4 % 2 = r / 4 % 2 := by
    show r % (4 * 4) / 4 % 2 = _
    rw [Nat.mod_mul_right_div_self]
    exact Nat.mod_mod_of_dvd _ (by decide)
  have e4 : r % 16 / 8 % 2 = r / 8 % 2 := by
    show r % (8 * 2) / 8 % 2 = _
    rw [Nat.mod_mul_right_div_self, Nat.mod_mod]
  rw [e1, e2, e3, e4, Nat.div_div_eq_div_mul, Nat.div_div_eq_div_mul, Nat.div_div_eq_div_mul, Nat.add_assoc, Nat.add_assoc, Nat.add_assoc]
/-! ### the points of a row, the highest first -/
def pts (r : Nat) : List Nat := if h : r = 0 then [] else Nat.log2 r :: pts (r ^^^ 2 ^ Nat.log2 r)
termination_by r
decreasing_by
  have h1 := Nat.log2_self_le h
  have e : r &&& 2 ^ Nat.log2 r = 2 ^ Nat.log2 r := by
    apply Nat.eq_of_testBit_eq; intro i
    rw [Nat.testBit_and, Nat.testBit_two_pow]
    by_cases q : Nat.log2 r = i
    · subst q; simp [Nat.testBit_log2 h]
    · simp [q]
  have h2 := xor_add_and r (2 ^ Nat.log2 r)
  have h3 : 0 < 2 ^ Nat.log2 r := Nat.two_pow_pos _
  rw [e] at h2
  omega
theorem top_lt {r : Nat} (h : r ≠ 0) : r ^^^ 2 ^ Nat.log2 r < r := by
  have h1 := Nat.log2_self_le h
  have e : r &&& 2 ^ Nat.log2 r = 2 ^ Nat.log2 r := by
    apply Nat.eq_of_testBit_eq; intro i
    rw [Nat.testBit_and, Nat.testBit_two_pow]
    by_cases q : Nat.log2 r = i
    · subst q; simp [Nat.testBit_log2 h]
    · simp [q]
  have h2 := xor_add_and r (2 ^ Nat.log2 r)
  have h3 : 0 < 2 ^ Nat.log2 r := Nat.two_pow_pos _
  rw [e] at h2
  omega
theorem pts_zero : pts 0 = [] := by rw [pts]; simp
theorem pts_pos {r : Nat} (h : r ≠ 0) : pts r = Nat.log2 r :: pts (r ^^^ 2 ^ Nat.log2 r) := by rw [pts]; simp [h]
theorem mem_pts : ∀ (r v : Nat), v ∈ pts r ↔ r.testBit v = true := by
  intro r
  induction r using Nat.strongRecOn with
  | ind r ih =>
    intro v
    by_cases h : r = 0
    · subst h; rw [pts_zero]; simp
    · rw [pts_pos h, List.mem_cons, ih _ (top_lt h), Nat.testBit_xor, Nat.testBit_two_pow]
      by_cases q : r.log2 = v
      · subst q; simp [Nat.testBit_log2 h]
      · have q' : ¬ v = r.log2 := fun z => q z.symm
        simp [q, q']
theorem pts_len : ∀ (n r : Nat), r < 2 ^ n → (pts r).length ≤ n := by
  intro n
  induction n with
  | zero => intro r h; have : r = 0 := by simpa using h
            subst this; rw [pts_zero]; simp
  | succ n ih =>
    intro r h
    by_cases z : r = 0
    · subst z; rw [pts_zero]; simp
    · rw [pts_pos z]
      have hl : r.log2 < n + 1 := (Nat.log2_lt z).mpr h
      have : r ^^^ 2 ^ r.log2 < 2 ^ r.log2 := by
        have h1 := Nat.log2_self_le z
        have h4 : r < 2 ^ (r.log2 + 1) := Nat.lt_log2_self
        have e : r &&& 2 ^ Nat.log2 r = 2 ^ Nat.log2 r := by
          apply Nat.eq_of_testBit_eq; intro i
          rw [Nat.testBit_and, Nat.testBit_two_pow]
          by_cases q : Nat.log2 r = i
          · subst q; simp [Nat.testBit_log2 z]
          · simp [q]
        have h2 := xor_add_and r (2 ^ Nat.log2 r)
        rw [e] at h2
        rw [Nat.pow_succ] at h4
        omega
      have h5 : r ^^^ 2 ^ r.log2 < 2 ^ n := Nat.lt_of_lt_of_le this (Nat.pow_le_pow_right (by decide) (by omega))
      have := ih _ h5
      simp; omega
/-! ### all that are next to some points -/
def nxt (rs : List Nat) (m : Nat) : Nat := (pts m).foldl (fun f u => f ||| rs.getD u 0) 0
theorem foldl_or (rs : List Nat) (v : Nat) : ∀ (l : List Nat) (f : Nat), (l.foldl (fun f u => f ||| rs.getD u 0) f).testBit v = (f.testBit v || l.any fun u => (rs.getD u 0).testBit v)
  | [], f => by simp
  | a :: l, f => by
    rw [List.foldl_cons, foldl_or rs v l, Nat.testBit_or, List.any_cons, Bool.or_assoc]
theorem testBit_nxt {rs : List Nat} {m v : Nat} : (nxt rs m).testBit v = true ↔ ∃ u, m.testBit u = true ∧ (rs.getD u 0).testBit v = true := by
  unfold nxt
  rw [foldl_or]
  simp only [Nat.zero_testBit, Bool.false_or, List.any_eq_true, mem_pts]
theorem nxt_lt {rs : List Nat} {n m : Nat} (hr : ∀ r ∈ rs, r < 2 ^ n) : nxt rs m < 2 ^ n := by
  apply Nat.lt_pow_two_of_testBit
  intro i hi
  cases h : (nxt rs m).testBit i with
  | false => rfl
  | true =>
    obtain ⟨u, _, h2⟩ := testBit_nxt.mp h
    rw [List.getD_eq_getElem?_getD] at h2
    cases q : rs[u]? with
    | none => rw [q] at h2; simp at h2
    | some r =>
      rw [q] at h2
      have := hr r (List.mem_of_getElem? q)
      simp at h2
      rw [testBit_of_lt this hi] at h2; cases h2
end Fg
end
section
set_option linter.all false
namespace Fg
/-! ### layers -/
def st (rs : List Nat) (u : Nat) : Nat → Nat × Nat
  | 0 => (0, 2 ^ u)
  | k + 1 => ((st rs u k).1 ||| (st rs u k).2, dif (nxt rs (st rs u k).2) ((st rs u k).1 ||| (st rs u k).2))
def sn (rs : List Nat) (u k : Nat) : Nat := (st rs u k).1
def dl (rs : List Nat) (u k : Nat) : Nat := (st rs u k).2
theorem sn_zero (rs : List Nat) (u : Nat) : sn rs u 0 = 0 := rfl
theorem dl_zero (rs : List Nat) (u : Nat) : dl rs u 0 = 2 ^ u := rfl
theorem sn_succ (rs : List Nat) (u k : Nat) : sn rs u (k + 1) = sn rs u k ||| dl rs u k := rfl
theorem dl_succ (rs : List Nat) (u k : Nat) : dl rs u (k + 1) = dif (nxt rs (dl rs u k)) (sn rs u (k + 1)) := rfl
/-- rows of up to 64 points -/
structure Rw (rs : List Nat) : Prop where
  one : 1 ≤ rs.length
  most : rs.length ≤ 64
  low : ∀ r ∈ rs, r < 2 ^ rs.length
theorem Rw.lt64 {rs : List Nat} (h : Rw rs) {m : Nat} (hm : m < 2 ^ rs.length) : m < 2 ^ 64 := Nat.lt_of_lt_of_le hm (Nat.pow_le_pow_right (by decide) h.most)
theorem Rw.getD {rs : List Nat} (h : Rw rs) (u : Nat) : rs.getD u 0 < 2 ^ rs.length := by
  rw [List.getD_eq_getElem?_getD]
  cases q : rs[u]? with
  | none => exact Nat.two_pow_pos _
  | some r => exact h.low r (List.mem_of_getElem? q)
theorem pow_lt_pow {u n : Nat} (h : u < n) : 2 ^ u < 2 ^ n := Nat.pow_lt_pow_right (by decide) h
theorem st_lt {rs : List Nat} (h : Rw rs) {u : Nat} (hu : u < rs.length) : ∀ k, sn rs u k < 2 ^ rs.length ∧ dl rs u k < 2 ^ rs.length
  | 0 => ⟨by rw [sn_zero]; exact Nat.two_pow_pos _, by rw [dl_zero]; exact pow_lt_pow hu⟩
  | k + 1 => by
    obtain ⟨h1, h2⟩ := st_lt h hu k
    exact ⟨by rw [sn_succ]; exact Nat.or_lt_two_pow h1 h2, by rw [dl_succ]; exact dif_lt (nxt_lt h.low)⟩
theorem disj_dif (a b : Nat) : b &&& dif a b = 0 := by
  apply Nat.eq_of_testBit_eq; intro i
  rw [Nat.testBit_and, testBit_dif, Nat.zero_testBit]
  cases a.testBit i <;> cases b.testBit i <;> rfl
theorem st_disj (rs : List Nat) (u : Nat) : ∀ k, sn rs u k &&& dl rs u k = 0
  | 0 => by rw [sn_zero]; simp
  | k + 1 => by rw [dl_succ]; exact disj_dif _ _
theorem sn_add (rs : List Nat) (u k : Nat) : sn rs u (k + 1) = sn rs u k + dl rs u k := by
  rw [sn_succ]; exact or_disj (st_disj rs u k)
theorem sn_sum (rs : List Nat) (u : Nat) : ∀ k, ((List.range k).map (dl rs u)).sum = sn rs u k
  | 0 => rfl
  | k + 1 => by
    rw [List.range_succ, List.map_append, List.sum_append, sn_sum rs u k, sn_add]
    simp
/-! ### more points, a longer list -/
theorem filter_le {α : Type} {p q : α → Bool} : ∀ (l : List α), (∀ x ∈ l, p x = true → q x = true) → (l.filter p).length ≤ (l.filter q).length
  | [], _ => by simp
  | a :: l, h => by
    have ih := filter_le l fun x hx => h x (List.mem_cons_of_mem _ hx)
    have ha := h a (List.mem_cons_self ..)
    rw [List.filter_cons, List.filter_cons]
    cases e : p a with
    | false =>
      rw [if_neg (by simp)]
      cases q a with
      | false => rw [if_neg (by simp)]; exact ih
      | true => rw [if_pos rfl]; exact Nat.le_succ_of_le ih
    | true =>
      rw [if_pos rfl, if_pos (ha e)]
      exact Nat.succ_le_succ ih
theorem filter_lt {α : Type} {p q : α → Bool} : ∀ (l : List α), (∀ x ∈ l, p x = true → q x = true) → (∃ x ∈ l, q x = true ∧ p x = false) → (l.filter p).length < (l.filter q).length
  | [], _, h => by obtain ⟨x, hx, _⟩ := h; cases hx
  | a :: l, h, ⟨x, hx, hq, hp⟩ => by
    have h' : ∀ x ∈ l, p x = true → q x = true := fun x hx => h x (List.mem_cons_of_mem _ hx)
    have ha := h a (List.mem_cons_self ..)
    rw [List.filter_cons, List.filter_cons]
    rcases List.mem_cons.mp hx with e | hx
    · subst e
      rw [if_neg (by simp [hp]), if_pos hq]
      exact Nat.lt_succ_of_le (filter_le l h')
    · have ih := filter_lt l h' ⟨x, hx, hq, hp⟩
      cases e : p a with
      | false =>
        rw [if_neg (by simp)]
        cases q a with
        | false => rw [if_neg (by simp)]; exact ih
        | true => rw [if_pos rfl]; exact Nat.lt_succ_of_lt ih
      | true =>
        rw [if_pos rfl, if_pos (ha e)]
        exact Nat.succ_lt_succ ih
theorem pc_le (n r : Nat) : pc n r ≤ n := by
  rw [← pc_cnt]
  have := List.length_filter_le (fun v => r.testBit v) (List.range n)
  simpa using this
theorem pc_sub {n a b : Nat} (h : ∀ v, a.testBit v = true → b.testBit v = true) : pc n a ≤ pc n b := by
  rw [← pc_cnt, ← pc_cnt]; exact filter_le _ fun x _ => h x
theorem pc_sub_lt {n a b : Nat} (h : ∀ v, a.testBit v = true → b.testBit v = true) (h2 : ∃ v, v < n ∧ b.testBit v = true ∧ a.testBit v = false) : pc n a < pc n b := by
  rw [← pc_cnt, ← pc_cnt]
  obtain ⟨v, hv, hb, ha⟩ := h2
  exact filter_lt _ (fun x _ => h x) ⟨v, List.mem_range.mpr hv, hb, ha⟩
theorem sn_pc {rs : List Nat} (h : Rw rs) {u : Nat} (hu : u < rs.length) : ∀ k, (∀ i, i < k → dl rs u i ≠ 0) → k ≤ pc rs.length (sn rs u k)
  | 0, _ => Nat.zero_le _
  | k + 1, hk => by
    have ih := sn_pc h hu k fun i hi => hk i (by omega)
    refine Nat.lt_of_le_of_lt ih (pc_sub_lt (fun v hv => by rw [sn_succ, Nat.testBit_or, hv]; rfl) ?_)
    obtain ⟨v, hv⟩ := exists_testBit (hk k (by omega))
    refine ⟨v, lt_of_testBit (st_lt h hu k).2 hv, by rw [sn_succ, Nat.testBit_or, hv]; simp, ?_⟩
    have q := congrArg (fun z => Nat.testBit z v) (st_disj rs u k)
    simp only [Nat.testBit_and, Nat.zero_testBit, hv, Bool.and_true] at q
    exact q
theorem depth_le {rs : List Nat} (h : Rw rs) {u : Nat} (hu : u < rs.length) {k : Nat} (hk : ∀ i, i < k → dl rs u i ≠ 0) : k ≤ rs.length :=
  Nat.le_trans (sn_pc h hu k hk) (pc_le _ _)
theorem take_snoc {α : Type} : ∀ {l : List α} {i : Nat} {x : α}, l[i]? = some x → l.take (i + 1) = l.take i ++ [x]
  | [], i, x, h => by simp at h
  | a :: l, 0, x, h => by
    have e : a = x := Option.some.inj h
    subst e
    rfl
  | a :: l, i + 1, x, h => by
    have ih := take_snoc (l := l) (i := i) (x := x) h
    show a :: l.take (i + 1) = a :: l.take i ++ [x]
    rw [ih]
    rfl
theorem getD_some {α : Type} {l : List α} {i : Nat} {x d : α} (h : l[i]? = some x) : l.getD i d = x := by
  rw [List.getD_eq_getElem?_getD, h]; rfl
theorem get_of_lt {l : List Nat} {i : Nat} (h : i < l.length) : l[i]? = some (l.getD i 0) := by
  rw [List.getD_eq_getElem?_getD, List.getElem?_eq_getElem h]; rfl
/-! ### how deep -/
theorem sn_bit (rs : List Nat) (u v : Nat) : ∀ k, (sn rs u k).testBit v = true ↔ ∃ i, i < k ∧ (dl rs u i).testBit v = true
  | 0 => by
    rw [sn_zero, Nat.zero_testBit]
    constructor
    · intro h; cases h
    · rintro ⟨i, hi, _⟩; omega
  | k + 1 => by
    rw [sn_succ, Nat.testBit_or, Bool.or_eq_true, sn_bit rs u v k]
    constructor
    · rintro (⟨i, hi, h⟩ | h)
      · exact ⟨i, by omega, h⟩
      · exact ⟨k, by omega, h⟩
    · rintro ⟨i, hi, h⟩
      by_cases e : i = k
      · subst e; exact .inr h
      · exact .inl ⟨i, by omega, h⟩
theorem dl_bit (rs : List Nat) (u v k : Nat) : (dl rs u (k + 1)).testBit v = true ↔ (∃ w, (dl rs u k).testBit w = true ∧ (rs.getD w 0).testBit v = true) ∧ (sn rs u (k + 1)).testBit v = false := by
  rw [dl_succ, testBit_dif, Bool.and_eq_true, testBit_nxt]
  simp
theorem dl_sn {rs : List Nat} {u v k : Nat} (h : (dl rs u k).testBit v = true) : (sn rs u k).testBit v = false := by
  have q := congrArg (fun z => Nat.testBit z v) (st_disj rs u k)
  simp only [Nat.testBit_and, Nat.zero_testBit, h, Bool.and_true] at q
  exact q
theorem dl_uniq {rs : List Nat} {u v i j : Nat} (hi : (dl rs u i).testBit v = true) (hj : (dl rs u j).testBit v = true) : i = j := by
  rcases Nat.lt_trichotomy i j with h | h | h
  · have := dl_sn hj
    rw [(sn_bit rs u v j).mpr ⟨i, h, hi⟩] at this; cases this
  · exact h
  · have := dl_sn hi
    rw [(sn_bit rs u v i).mpr ⟨j, h, hj⟩] at this; cases this
theorem dl_stop {rs : List Nat} {u k : Nat} (h : dl rs u k = 0) : ∀ m, dl rs u (k + m) = 0
  | 0 => h
  | m + 1 => by
    have ih := dl_stop h m
    have e : dl rs u (k + m + 1) = 0 := by
      apply Nat.eq_of_testBit_eq
      intro v
      rw [Nat.zero_testBit]
      cases q : (dl rs u (k + m + 1)).testBit v with
      | false => rfl
      | true =>
        obtain ⟨⟨w, hw, _⟩, _⟩ := (dl_bit rs u v (k + m)).mp q
        rw [ih, Nat.zero_testBit] at hw; cases hw
    exact e
structure Dep (rs : List Nat) (u k : Nat) : Prop where
  stop : dl rs u k = 0
  go : ∀ i, i < k → dl rs u i ≠ 0
def dep (rs : List Nat) (u : Nat) : Nat := ((List.range (rs.length + 1)).find? fun k => dl rs u k == 0).getD 0
theorem find_range {p : Nat → Bool} : ∀ {n k : Nat}, k < n → p k = true → (∀ i, i < k → p i = false) → (List.range n).find? p = some k := by
  intro n k hk hp hn
  rw [List.find?_range_eq_some]
  exact ⟨hp, List.mem_range.mpr hk, fun j hj => by simp [hn j hj]⟩
theorem Dep.eq {rs : List Nat} {u k : Nat} (h : Rw rs) (hu : u < rs.length) (d : Dep rs u k) : dep rs u = k := by
  unfold dep
  have hk : k ≤ rs.length := depth_le h hu d.go
  rw [find_range (k := k) (by omega) (by simp [d.stop]) fun i hi => by simp [d.go i hi]]
  rfl
theorem dep_is {rs : List Nat} {u : Nat} (h : Rw rs) (hu : u < rs.length) : Dep rs u (dep rs u) := by
  have q : ∃ k, Dep rs u k := by
    cases e : (List.range (rs.length + 1)).find? (fun k => dl rs u k == 0) with
    | none =>
      exfalso
      have := depth_le h hu (k := rs.length + 1) fun i hi => by
        have := List.find?_eq_none.mp e i (List.mem_range.mpr hi)
        simpa using this
      omega
    | some k =>
      have := List.find?_range_eq_some.mp e
      exact ⟨k, by simpa using this.1, fun i hi => by simpa using this.2.2 i hi⟩
  obtain ⟨k, d⟩ := q
  rw [d.eq h hu]; exact d
theorem Dep.pos {rs : List Nat} {u k : Nat} (d : Dep rs u k) : 0 < k := by
  rcases Nat.eq_zero_or_pos k with e | e
  · subst e
    have := d.stop
    rw [dl_zero] at this
    have := Nat.two_pow_pos u
    omega
  · exact e
def farM (rs : List Nat) (u v : Nat) : Option Nat := (List.range (dep rs u)).find? fun k => (dl rs u k).testBit v
def eccM (rs : List Nat) (u : Nat) : Option Nat := if sn rs u (dep rs u) = 2 ^ rs.length - 1 then some (dep rs u - 1) else none
/-- the first u rows' farthest: none if some is not joined -/
def wideN (rs : List Nat) : Nat → Option Nat
  | 0 => some 0
  | u + 1 => match wideN rs u, eccM rs u with
    | some a, some b => some (max a b)
    | _, _ => none
def wideM (rs : List Nat) : Option Nat := wideN rs rs.length
/-! ### rings -/
def two (s : Nat) : Bool := (s &&& (s - 1)) != 0
def sh2 (rs : List Nat) (m o : Nat) : Bool := (pts m).any fun u => two (rs.getD u 0 &&& o)
def ringF (rs : List Nat) : Nat → Nat → Nat → Nat → Nat
  | 0, _, _, _ => 0
  | f + 1, b, l, s => if l = 0 then 0 else if sh2 rs l b = true then 2 * s else if nxt rs l &&& l ≠ 0 then 2 * s + 1 else ringF rs f l (dif (nxt rs l) b) (s + 1)
def ringM (rs : List Nat) (u : Nat) : Nat := ringF rs 65 0 (2 ^ u) 0
def minM : List Nat → Nat
  | [] => 0
  | x :: l => l.foldl min x
def girthM (rs : List Nat) : Nat := minM (((List.range rs.length).map (ringM rs)).filter fun r => decide (0 < r))
/-- edges go both ways -/
def Sy (rs : List Nat) : Prop := ∀ u v, (rs.getD u 0).testBit v = (rs.getD v 0).testBit u
def bf (rs : List Nat) (u : Nat) : Nat → Nat
  | 0 => 0
  | k + 1 => dl rs u k
/-- behind a layer without an edge in it come the neighbours that are not in the layer before -/
theorem ring_step {rs : List Nat} (hs : Sy rs) {u k : Nat} (h : nxt rs (dl rs u k) &&& dl rs u k = 0) : dif (nxt rs (dl rs u k)) (bf rs u k) = dl rs u (k + 1) := by
  apply Nat.eq_of_testBit_eq
  intro v
  rw [dl_succ, testBit_dif, testBit_dif]
  cases q : (nxt rs (dl rs u k)).testBit v with
  | false => rfl
  | true =>
    rw [Bool.true_and, Bool.true_and]
    congr 1
    have hk : (dl rs u k).testBit v = false := by
      have z := congrArg (fun z => Nat.testBit z v) h
      simp only [Nat.testBit_and, Nat.zero_testBit, q, Bool.true_and] at z
      exact z
    rw [Bool.eq_iff_iff, sn_bit]
    obtain ⟨w, hw, hv⟩ := testBit_nxt.mp q
    constructor
    · intro hb
      cases k with
      | zero => rw [show bf rs u 0 = 0 from rfl, Nat.zero_testBit] at hb; cases hb
      | succ k => exact ⟨k, by omega, hb⟩
    · rintro ⟨i, hi, hd⟩
      by_cases e : i = k
      · subst e; rw [hk] at hd; cases hd
      · -- w is next to v, which is in layer i: so w is in a layer up to i + 1
        have hw2 : (nxt rs (dl rs u i)).testBit w = true := testBit_nxt.mpr ⟨v, hd, by rw [hs]; exact hv⟩
        cases k with
        | zero => omega
        | succ k =>
          by_cases e2 : i = k
          · subst e2; exact hd
          · exfalso
            have : (sn rs u (k + 1)).testBit w = true := by
              cases z : (sn rs u (i + 1)).testBit w with
              | true =>
                obtain ⟨j, hj, hjd⟩ := (sn_bit rs u w (i + 1)).mp z
                exact (sn_bit rs u w (k + 1)).mpr ⟨j, by omega, hjd⟩
              | false =>
                exact (sn_bit rs u w (k + 1)).mpr ⟨i + 1, by omega, (dl_bit rs u w i).mpr ⟨⟨v, hd, by rw [hs]; exact hv⟩, z⟩⟩
            rw [dl_sn hw] at this; cases this
end Fg
end
section
set_option linter.all false
namespace Fg
/-! ### what the calls make and answer, by rows -/
def setb (r v : Nat) (on : Int) : Nat := if on = 1 then r ||| 2 ^ v else dif r (2 ^ v)
theorem minM_of {l : List Nat} {m : Nat} (h : m ∈ l) (hl : ∀ z ∈ l, m ≤ z) : minM l = m := by
  cases l with
  | nil => cases h
  | cons x l =>
    show l.foldl min x = m
    have key : ∀ (l : List Nat) (x : Nat), m ≤ x → (∀ z ∈ l, m ≤ z) → (m = x ∨ m ∈ l) → l.foldl min x = m := by
      intro l
      induction l with
      | nil => intro x _ _ h; rcases h with h | h
               · exact h.symm
               · cases h
      | cons a l ih =>
        intro x h1 h2 h3
        rw [List.foldl_cons]
        have ha := h2 a (List.mem_cons_self ..)
        refine ih _ (by omega) (fun z hz => h2 z (List.mem_cons_of_mem _ hz)) ?_
        rcases h3 with h3 | h3
        · left; omega
        · rcases List.mem_cons.mp h3 with h3 | h3
          · left; omega
          · right; exact h3
    refine key l x (hl x (List.mem_cons_self ..)) (fun z hz => hl z (List.mem_cons_of_mem _ hz)) ?_
    rcases List.mem_cons.mp h with h | h
    · exact .inl h
    · exact .inr h
theorem notT {b : Bool} (h : (!b) = true) : b = false := by cases b with | false => rfl | true => cases h
theorem notF {b : Bool} (h : (!b) = false) : b = true := by cases b with | true => rfl | false => cases h
def agreeM (rs : List Nat) : Bool := (List.range rs.length).all fun u => !(rs.getD u 0).testBit u && (List.range u).all fun v => (rs.getD u 0).testBit v == (rs.getD v 0).testBit u
def areM (rs : List Nat) : Bool := (decide (1 ≤ rs.length) && decide (rs.length ≤ 64)) && (rs.all (fun r => r >>> rs.length == 0) && agreeM rs)
theorem all_false {p : Nat → Bool} {n i : Nat} (hi : i < n) (h : p i = false) : (List.range n).all p = false := by
  rw [List.all_eq_false]
  exact ⟨i, List.mem_range.mpr hi, by simp [h]⟩
theorem all_true {p : Nat → Bool} {n : Nat} (h : ∀ i, i < n → p i = true) : (List.range n).all p = true := by
  rw [List.all_eq_true]
  exact fun i hi => h i (List.mem_range.mp hi)
/-- a graph: rows of up to 64 points, edges both ways, none to oneself -/
structure Gd (rs : List Nat) : Prop where
  rw_ : Rw rs
  sy : Sy rs
  ir : ∀ u, (rs.getD u 0).testBit u = false
def hasM (rs : List Nat) (u v : Int) : Bool := decide (0 ≤ u) && (decide (u < (rs.length : Int)) && (decide (0 ≤ v) && decide (v < (rs.length : Int))))
def cmM (rs : List Nat) (u v : Nat) : Nat := pc rs.length (rs.getD u 0 &&& rs.getD v 0)
def AlwIs (rs : List Nat) (on : Bool) : Option Nat → Prop
  | some c => (∃ u v, v < u ∧ u < rs.length ∧ (rs.getD u 0).testBit v = on ∧ cmM rs u v = c) ∧ ∀ u v, v < u → u < rs.length → (rs.getD u 0).testBit v = on → cmM rs u v = c
  | none => (∀ u v, v < u → u < rs.length → (rs.getD u 0).testBit v ≠ on) ∨ ∃ u v a b, v < u ∧ u < rs.length ∧ (rs.getD u 0).testBit v = on ∧ b < a ∧ a < rs.length ∧ (rs.getD a 0).testBit b = on ∧ cmM rs u v ≠ cmM rs a b
def swr (rs : List Nat) (u c : Nat) : Nat := if c.testBit u = true then rs.getD u 0 ^^^ dif (2 ^ rs.length - 1) c else rs.getD u 0 ^^^ c
def odw (rs : List Nat) (u v : Nat) : Nat := if (rs.getD u 0).testBit v = true then dif (2 ^ rs.length - 1) (rs.getD u 0 ^^^ rs.getD v 0) else rs.getD u 0 ^^^ rs.getD v 0
def sizeR (rs : List Nat) (n : Int) : List Nat := if (decide (1 ≤ n) && decide (n ≤ 64)) = true then List.replicate n.toNat 0 else rs
def sizeA (n : Int) : List Int := if (decide (1 ≤ n) && decide (n ≤ 64)) = true then [0] else [-1]
def edgeB (rs : List Nat) (u v on : Int) : Bool := !hasM rs u v || (u == v || (decide (on < 0) || decide (1 < on)))
def edgeM (rs : List Nat) (u v : Nat) (on : Int) : List Nat := (rs.set u (setb (rs.getD u 0) v on)).set v (setb ((rs.set u (setb (rs.getD u 0) v on)).getD v 0) u on)
def edgeR (rs : List Nat) (u v on : Int) : List Nat := if edgeB rs u v on = true then rs else edgeM rs u.toNat v.toNat on
def edgeA (rs : List Nat) (u v on : Int) : List Int := if edgeB rs u v on = true then [-1] else [0]
theorem has_of {rs : List Nat} {u v : Int} (h : hasM rs u v = true) : ∃ a b : Nat, u = a ∧ v = b ∧ a < rs.length ∧ b < rs.length := by
  unfold hasM at h
  simp only [Bool.and_eq_true, decide_eq_true_eq] at h
  exact ⟨u.toNat, v.toNat, by omega, by omega, by omega, by omega⟩
def rowsR (rs ls : List Nat) : List Nat := if areM ls = true then ls else rs
def rowsA (ls : List Nat) : List Int := if areM ls = true then [0] else [-1]
def rowA (rs : List Nat) (u : Int) : List Int := if hasM rs u u = true then [((pc rs.length (rs.getD u.toNat 0) : Nat) : Int), ((rs.getD u.toNat 0 : Nat) : Int)] else [-1]
def commonA (rs : List Nat) (u v : Int) : List Int := if hasM rs u v = true then [((cmM rs u.toNat v.toNat : Nat) : Int)] else [-1]
/-- what strong answers, by what is found in common -/
def strongA (rs : List Nat) (x y : Option Nat) : List Int :=
  if (decide (pc rs.length (rs.getD 0 0) < 1) || (decide (rs.length < pc rs.length (rs.getD 0 0) + 2) || !(rs.all fun r => pc rs.length r == pc rs.length (rs.getD 0 0)))) = true then [-2]
  else match x, y with
    | some a, some b => [1, (rs.length : Int), (pc rs.length (rs.getD 0 0) : Nat), (a : Nat), (b : Nat)]
    | _, _ => [-2]
theorem alw_ex (rs : List Nat) (on : Bool) : ∃ o, AlwIs rs on o := by
  by_cases h : ∃ u v, v < u ∧ u < rs.length ∧ (rs.getD u 0).testBit v = on
  · obtain ⟨u, v, h1, h2, h3⟩ := h
    by_cases q : ∀ a b, b < a → a < rs.length → (rs.getD a 0).testBit b = on → cmM rs a b = cmM rs u v
    · exact ⟨some (cmM rs u v), ⟨u, v, h1, h2, h3, rfl⟩, q⟩
    · refine ⟨none, .inr ?_⟩
      apply Classical.byContradiction
      intro n
      apply q
      intro a b k1 k2 k3
      apply Classical.byContradiction
      intro k4
      exact n ⟨u, v, a, b, h1, h2, h3, k1, k2, k3, fun e => k4 e.symm⟩
  · exact ⟨none, .inl fun u v h1 h2 h3 => h ⟨u, v, h1, h2, h3⟩⟩
def oI : Option Nat → Int
  | none => -2
  | some k => (k : Nat)
def farA (rs : List Nat) (u v : Int) : List Int := if hasM rs u v = true then [oI (farM rs u.toNat v.toNat)] else [-1]
def switchM (rs : List Nat) (s : Nat) : List Nat := (List.range rs.length).map fun u => swr rs u (s &&& (2 ^ rs.length - 1))
def turnM (rs : List Nat) : List Nat := (List.range rs.length).map fun u => rs.getD u 0 ^^^ setb (2 ^ rs.length - 1) u 0
def oddM (rs : List Nat) (u v : Nat) : Nat := pc rs.length (odw rs u v &&& (2 ^ v - 1))
def oddsM (rs : List Nat) : Nat := ((List.range rs.length).map fun u => ((List.range u).map (oddM rs u)).sum).sum
theorem sum_range_succ (f : Nat → Nat) (n : Nat) : ((List.range (n + 1)).map f).sum = ((List.range n).map f).sum + f n := by
  simp [List.range_succ]
theorem odw_lt {rs : List Nat} (hR : Rw rs) (u v : Nat) : odw rs u v < 2 ^ rs.length := by
  unfold odw
  have h1 : rs.getD u 0 ^^^ rs.getD v 0 < 2 ^ rs.length := Nat.xor_lt_two_pow (hR.getD u) (hR.getD v)
  split
  · exact dif_lt (by have := Nat.two_pow_pos rs.length; omega)
  · exact h1
def rngM (n k l m : Int) : Bool := decide (1 ≤ n) && (decide (n ≤ 10000) && (decide (0 ≤ min (min k l) m) && decide (max (max k l) m ≤ 10000)))
/-- the whole root (0 of a number below 0) -/
def RootIs (z : Int) (r : Nat) : Prop := (z < 0 ∧ r = 0) ∨ (0 ≤ z ∧ (r : Int) * r ≤ z ∧ z < ((r : Int) + 1) * ((r : Int) + 1))
theorem root_ex (z : Int) : ∃ r, RootIs z r := by
  by_cases h : z < 0
  · exact ⟨0, .inl ⟨h, rfl⟩⟩
  · have key : ∀ n : Nat, ∃ r : Nat, r * r ≤ n ∧ n < (r + 1) * (r + 1) := by
      intro n
      induction n with
      | zero => exact ⟨0, by omega, by omega⟩
      | succ n ih =>
        obtain ⟨r, h1, h2⟩ := ih
        by_cases q : n + 1 < (r + 1) * (r + 1)
        · exact ⟨r, by omega, q⟩
        · refine ⟨r + 1, by omega, ?_⟩
          have : (r + 1 + 1) * (r + 1 + 1) = (r + 1) * (r + 1) + 2 * r + 3 := by
            rw [Nat.add_mul, Nat.mul_add, Nat.add_mul]; omega
          omega
    obtain ⟨r, h1, h2⟩ := key z.toNat
    refine ⟨r, .inr ⟨by omega, ?_, ?_⟩⟩
    · have : ((r * r : Nat) : Int) ≤ z := by omega
      simpa using this
    · have : z < (((r + 1) * (r + 1) : Nat) : Int) := by omega
      simpa using this
def eM (n k l m : Int) : Int := 2 * k + (n - 1) * (l - m)
def sqM (k l m : Int) : Int := (l - m) * (l - m) + 4 * (k - m)
def evM (n k l m : Int) (d : Nat) : Bool := eM n k l m == 0 || (!(d == 0) && (((d : Int) * d == sqM k l m) && ((eM n k l m % (d : Int) == 0) && ((n - 1 - eM n k l m / (d : Int)) % 2 == 0))))
theorem rng_iff (n k l m : Int) : rngM n k l m = true ↔ (1 ≤ n ∧ n ≤ 10000) ∧ (0 ≤ k ∧ 0 ≤ l ∧ 0 ≤ m) ∧ (k ≤ 10000 ∧ l ≤ 10000 ∧ m ≤ 10000) := by
  unfold rngM
  rw [Bool.and_eq_true, Bool.and_eq_true, Bool.and_eq_true, decide_eq_true_eq, decide_eq_true_eq, decide_eq_true_eq, decide_eq_true_eq, Int.le_min, Int.le_min, Int.max_le, Int.max_le]
  constructor
  · rintro ⟨a, b, ⟨⟨c, d⟩, e⟩, ⟨f, g⟩, h⟩
    exact ⟨⟨a, b⟩, ⟨c, d, e⟩, f, g, h⟩
  · rintro ⟨⟨a, b⟩, ⟨c, d, e⟩, f, g, h⟩
    exact ⟨a, b, ⟨⟨c, d⟩, e⟩, ⟨f, g⟩, h⟩
theorem rng_of {n k l m : Int} (h : rngM n k l m = true) : 1 ≤ n ∧ n ≤ 10000 ∧ 0 ≤ k ∧ k ≤ 10000 ∧ 0 ≤ l ∧ l ≤ 10000 ∧ 0 ≤ m ∧ m ≤ 10000 := by
  obtain ⟨⟨a, b⟩, ⟨c, d, e⟩, f, g, h⟩ := (rng_iff n k l m).mp h
  exact ⟨a, b, c, f, d, g, e, h⟩
def passB (n k l m : Int) (d : Nat) : Bool := !(decide (k < 1) || decide (n - 2 < k)) && ((k * (k - l - 1) == (n - k - 1) * m) && evM n k l m d)
def passA (n k l m : Int) (d : Nat) : List Int := if rngM n k l m = true then (if passB n k l m d = true then [1] else [0]) else [-1]
def hndT : List (Int × Int) := [(0, 0), (1, 1), (2, 3), (4, 1), (5, 2), (6, 0), (7, 4), (8, 2), (9, 0), (10, 0), (11, 1), (12, 0), (13, 0)]
def fromM (c : Int) (at_ : Nat) : Nat := if c = 3 then at_ + 2 else at_ + 1
/-- what a call makes of the rows, and what it answers -/
inductive StepIs (rs : List Nat) : Int → List Int → List Nat → List Int → Prop
  | begin : StepIs rs 0 [] [0] [0]
  | size (n : Int) : StepIs rs 1 [n] (sizeR rs n) (sizeA n)
  | edge (u v on : Int) : StepIs rs 2 [u, v, on] (edgeR rs u v on) (edgeA rs u v on)
  | rows (ls : List Nat) : StepIs rs 3 (ls.map fun (r : Nat) => (r : Int)) (rowsR rs ls) (rowsA ls)
  | row (u : Int) : StepIs rs 4 [u] rs (rowA rs u)
  | common (u v : Int) : StepIs rs 5 [u, v] rs (commonA rs u v)
  | strong {x y : Option Nat} (hx : AlwIs rs true x) (hy : AlwIs rs false y) : StepIs rs 6 [] rs (strongA rs x y)
  | pass (n k l m : Int) {d : Nat} (hd : RootIs (sqM k l m) d) : StepIs rs 7 [n, k, l, m] rs (passA n k l m d)
  | far (u v : Int) : StepIs rs 8 [u, v] rs (farA rs u v)
  | wide : StepIs rs 9 [] rs [oI (wideM rs)]
  | girth : StepIs rs 10 [] rs [((girthM rs : Nat) : Int)]
  | switch (s : Nat) : StepIs rs 11 [(s : Int)] (switchM rs s) [0]
  | turn : StepIs rs 12 [] (turnM rs) [0]
  | odds : StepIs rs 13 [] rs [((oddsM rs : Nat) : Int)]
/-- a call by its number and its numbers -/
inductive Shp : Int → List Int → Prop
  | begin : Shp 0 []
  | size (n : Int) : Shp 1 [n]
  | edge (u v on : Int) : Shp 2 [u, v, on]
  | rows (ls : List Nat) : Shp 3 (ls.map fun (r : Nat) => (r : Int))
  | row (u : Int) : Shp 4 [u]
  | common (u v : Int) : Shp 5 [u, v]
  | strong : Shp 6 []
  | pass (n k l m : Int) : Shp 7 [n, k, l, m]
  | far (u v : Int) : Shp 8 [u, v]
  | wide : Shp 9 []
  | girth : Shp 10 []
  | switch (s : Nat) : Shp 11 [(s : Int)]
  | turn : Shp 12 []
  | odds : Shp 13 []
end Fg
end
section
set_option linter.all false
namespace Fg
/-! ### walks -/
def Wk (e : Nat → Nat → Bool) (u : Nat) : Nat → Nat → Prop
  | 0, v => u = v
  | k + 1, v => ∃ w, Wk e u k w ∧ e w v = true
abbrev gr (rs : List Nat) : Rc90.Graph := ⟨rs.length, rs⟩
def ed (rs : List Nat) (u v : Nat) : Bool := (rs.getD u 0).testBit v
theorem Wk.cons {e : Nat → Nat → Bool} {u w : Nat} (h : e u w = true) : ∀ {k v : Nat}, Wk e w k v → Wk e u (k + 1) v
  | 0, v, q => by
    have q : w = v := q
    subst q; exact ⟨u, rfl, h⟩
  | k + 1, v, ⟨x, q, hx⟩ => ⟨x, Wk.cons h q, hx⟩
theorem Wk.trans {e : Nat → Nat → Bool} {u w i : Nat} (h : Wk e u i w) : ∀ {j v : Nat}, Wk e w j v → Wk e u (i + j) v
  | 0, v, q => by
    have q : w = v := q
    subst q; exact h
  | k + 1, v, ⟨x, q, hx⟩ => ⟨x, Wk.trans h q, hx⟩
theorem Wk.rev {e : Nat → Nat → Bool} (hs : ∀ a b, e a b = e b a) {u : Nat} : ∀ {k v : Nat}, Wk e u k v → Wk e v k u
  | 0, v, q => Eq.symm q
  | k + 1, v, ⟨w, q, h⟩ => Wk.cons (by rw [hs]; exact h) (Wk.rev hs q)
theorem Wk.mono {e f : Nat → Nat → Bool} (hs : ∀ a b, e a b = true → f a b = true) {u : Nat} : ∀ {k v : Nat}, Wk e u k v → Wk f u k v
  | 0, v, q => q
  | k + 1, v, ⟨w, q, h⟩ => ⟨w, Wk.mono hs q, hs _ _ h⟩
theorem Rw.ed_lt {rs : List Nat} (hR : Rw rs) {u v : Nat} (h : ed rs u v = true) : v < rs.length := lt_of_testBit (hR.getD u) h
theorem Rw.ed_lt1 {rs : List Nat} {u v : Nat} (h : ed rs u v = true) : u < rs.length := by
  unfold ed at h
  apply Classical.byContradiction
  intro q
  rw [List.getD_eq_getElem?_getD, List.getElem?_eq_none (by omega)] at h
  simp at h
theorem Wk.lt {rs : List Nat} (hR : Rw rs) {u : Nat} (hu : u < rs.length) : ∀ {k v : Nat}, Wk (ed rs) u k v → v < rs.length
  | 0, v, q => by
    have q : u = v := q
    omega
  | k + 1, v, ⟨w, q, h⟩ => hR.ed_lt h
theorem dl_wk {rs : List Nat} {u : Nat} : ∀ {k v : Nat}, (dl rs u k).testBit v = true → Wk (ed rs) u k v
  | 0, v, h => by
    rw [dl_zero, pow_testBit] at h
    have h : u = v := of_decide_eq_true h
    exact h
  | k + 1, v, h => by
    obtain ⟨⟨w, h1, h2⟩, _⟩ := (dl_bit rs u v k).mp h
    exact ⟨w, dl_wk h1, h2⟩
theorem wk_dl {rs : List Nat} {u : Nat} : ∀ {k v : Nat}, Wk (ed rs) u k v → ∃ j, j ≤ k ∧ (dl rs u j).testBit v = true
  | 0, v, q => by
    have q : u = v := q
    exact ⟨0, by omega, by rw [dl_zero, pow_testBit]; simp [q]⟩
  | k + 1, v, ⟨w, q, h⟩ => by
    obtain ⟨j, hj, hd⟩ := wk_dl q
    cases z : (sn rs u (j + 1)).testBit v with
    | true =>
      obtain ⟨i, hi, hid⟩ := (sn_bit rs u v (j + 1)).mp z
      exact ⟨i, by omega, hid⟩
    | false => exact ⟨j + 1, by omega, (dl_bit rs u v j).mpr ⟨⟨w, hd, h⟩, z⟩⟩
theorem mem_within {rs : List Nat} (hR : Rw rs) {u : Nat} (hu : u < rs.length) : ∀ (k v : Nat), v ∈ Rc90.within (gr rs) k u ↔ ∃ j, j ≤ k ∧ Wk (ed rs) u j v
  | 0, v => by
    show v ∈ [u] ↔ _
    rw [List.mem_singleton]
    constructor
    · intro e; exact ⟨0, by omega, e.symm⟩
    · rintro ⟨j, hj, h⟩
      have e : j = 0 := by omega
      subst e; exact Eq.symm h
  | k + 1, v => by
    show v ∈ (Rc90.points (gr rs)).filter _ ↔ _
    rw [List.mem_filter, List.any_eq_true]
    show v ∈ List.range rs.length ∧ _ ↔ _
    rw [List.mem_range]
    constructor
    · rintro ⟨_, w, hw, h⟩
      obtain ⟨j, hj, q⟩ := (mem_within hR hu k w).mp hw
      rw [Bool.or_eq_true] at h
      rcases h with h | h
      · have e : w = v := eq_of_beq h
        subst e; exact ⟨j, by omega, q⟩
      · exact ⟨j + 1, by omega, w, q, h⟩
    · rintro ⟨j, hj, q⟩
      refine ⟨q.lt hR hu, ?_⟩
      by_cases e : j ≤ k
      · exact ⟨v, (mem_within hR hu k v).mpr ⟨j, e, q⟩, by simp⟩
      · have e : j = k + 1 := by omega
        subst e
        obtain ⟨w, q, h⟩ := q
        refine ⟨w, (mem_within hR hu k w).mpr ⟨k, by omega, q⟩, ?_⟩
        rw [Bool.or_eq_true]
        exact .inr h
theorem dl_dep {rs : List Nat} (hR : Rw rs) {u : Nat} (hu : u < rs.length) {k v : Nat} (h : (dl rs u k).testBit v = true) : k < dep rs u := by
  apply Classical.byContradiction
  intro q
  have := dl_stop (dep_is hR hu).stop (k - dep rs u)
  rw [show dep rs u + (k - dep rs u) = k by omega] at this
  rw [this, Nat.zero_testBit] at h
  cases h
theorem dep_le {rs : List Nat} (hR : Rw rs) {u : Nat} (hu : u < rs.length) : dep rs u ≤ rs.length := depth_le hR hu (dep_is hR hu).go
theorem farM_of {rs : List Nat} (hR : Rw rs) {u : Nat} (hu : u < rs.length) {k v : Nat} (h : (dl rs u k).testBit v = true) : farM rs u v = some k := by
  unfold farM
  refine find_range (dl_dep hR hu h) h fun i hi => ?_
  cases q : (dl rs u i).testBit v with
  | false => rfl
  | true => have := dl_uniq q h; omega
theorem farM_some {rs : List Nat} {u k v : Nat} (h : farM rs u v = some k) : (dl rs u k).testBit v = true := (List.find?_range_eq_some.mp h).1
theorem farM_wk {rs : List Nat} (hR : Rw rs) {u : Nat} (hu : u < rs.length) {t v : Nat} (h : Wk (ed rs) u t v) : ∃ k, k ≤ t ∧ farM rs u v = some k := by
  obtain ⟨j, hj, hd⟩ := wk_dl h
  exact ⟨j, hj, farM_of hR hu hd⟩
theorem far_eq {rs : List Nat} (hR : Rw rs) {u : Nat} (hu : u < rs.length) (v : Nat) : Rc90.far (gr rs) u v = farM rs u v := by
  unfold Rc90.far
  show (List.range rs.length).find? _ = _
  cases h : farM rs u v with
  | some k =>
    have hd := farM_some h
    refine find_range (Nat.lt_of_lt_of_le (dl_dep hR hu hd) (dep_le hR hu)) ?_ fun i hi => ?_
    · rw [List.contains_iff_mem]
      exact (mem_within hR hu k v).mpr ⟨k, by omega, dl_wk hd⟩
    · cases q : (Rc90.within (gr rs) i u).contains v with
      | false => rfl
      | true =>
        rw [List.contains_iff_mem] at q
        obtain ⟨j, hj, w⟩ := (mem_within hR hu i v).mp q
        obtain ⟨m, hm, hmd⟩ := wk_dl w
        have := dl_uniq hmd hd
        omega
  | none =>
    rw [List.find?_eq_none]
    intro i hi q
    rw [List.contains_iff_mem] at q
    obtain ⟨j, hj, w⟩ := (mem_within hR hu i v).mp q
    obtain ⟨k, _, e⟩ := farM_wk hR hu w
    rw [h] at e; cases e
/-! ### wide -/
theorem ones_bit (n v : Nat) : (2 ^ n - 1).testBit v = decide (v < n) := Nat.testBit_two_pow_sub_one n v
theorem ones_lt (n : Nat) : 2 ^ n - 1 < 2 ^ n := by have := Nat.two_pow_pos n; omega
def WideTo (rs : List Nat) (m : Nat) : Option Nat → Prop
  | some a => (∀ u, u < m → ∀ v, v < rs.length → ∃ k, farM rs u v = some k ∧ k ≤ a) ∧ (a = 0 ∨ ∃ u, u < m ∧ ∃ v, v < rs.length ∧ farM rs u v = some a)
  | none => ∃ u, u < m ∧ ∃ v, v < rs.length ∧ farM rs u v = none
theorem ecc_to {rs : List Nat} (hR : Rw rs) {u : Nat} (hu : u < rs.length) : match eccM rs u with
    | some d => (∀ v, v < rs.length → ∃ k, farM rs u v = some k ∧ k ≤ d) ∧ ∃ v, v < rs.length ∧ farM rs u v = some d
    | none => ∃ v, v < rs.length ∧ farM rs u v = none := by
  have hd := dep_is hR hu
  have hp := hd.pos
  unfold eccM
  by_cases h : sn rs u (dep rs u) = 2 ^ rs.length - 1
  · rw [if_pos h]
    refine ⟨fun v hv => ?_, ?_⟩
    · have : (sn rs u (dep rs u)).testBit v = true := by rw [h, ones_bit]; simp [hv]
      obtain ⟨i, hi, hid⟩ := (sn_bit rs u v _).mp this
      exact ⟨i, farM_of hR hu hid, by omega⟩
    · obtain ⟨v, hv⟩ := exists_testBit (hd.go (dep rs u - 1) (by omega))
      exact ⟨v, lt_of_testBit (st_lt hR hu _).2 hv, farM_of hR hu hv⟩
  · rw [if_neg h]
    apply Classical.byContradiction
    intro q
    apply h
    apply bits_ext (st_lt hR hu _).1 (ones_lt _)
    intro v hv
    rw [ones_bit, decide_eq_true hv]
    cases e : farM rs u v with
    | none => exact absurd ⟨v, hv, e⟩ q
    | some k =>
      have := farM_some e
      exact (sn_bit rs u v _).mpr ⟨k, dl_dep hR hu this, this⟩
theorem wide_to {rs : List Nat} (hR : Rw rs) : ∀ m, m ≤ rs.length → WideTo rs m (wideN rs m)
  | 0, _ => ⟨fun u hu => by omega, .inl rfl⟩
  | m + 1, hm => by
    have ih := wide_to hR m (by omega)
    have he := ecc_to hR (u := m) (by omega)
    unfold wideN
    cases h1 : wideN rs m with
    | none =>
      rw [h1] at ih
      obtain ⟨u, hu, v, hv, q⟩ := ih
      exact ⟨u, by omega, v, hv, q⟩
    | some a =>
      rw [h1] at ih
      cases h2 : eccM rs m with
      | none =>
        rw [h2] at he
        obtain ⟨v, hv, q⟩ := he
        exact ⟨m, by omega, v, hv, q⟩
      | some b =>
        rw [h2] at he
        obtain ⟨i1, i2⟩ := ih
        obtain ⟨e1, e2⟩ := he
        refine ⟨fun u hu v hv => ?_, ?_⟩
        · by_cases e : u = m
          · subst e
            obtain ⟨k, q, hk⟩ := e1 v hv
            exact ⟨k, q, by omega⟩
          · obtain ⟨k, q, hk⟩ := i1 u (by omega) v hv
            exact ⟨k, q, by omega⟩
        · rcases Nat.le_total a b with h | h
          · obtain ⟨v, hv, q⟩ := e2
            refine .inr ⟨m, by omega, v, hv, ?_⟩
            rw [show max a b = b by omega]; exact q
          · rw [show max a b = a by omega]
            rcases i2 with i2 | ⟨u, hu, v, hv, q⟩
            · exact .inl i2
            · exact .inr ⟨u, by omega, v, hv, q⟩
theorem maxl_of {a : Nat} : ∀ (l : List Nat) (x : Nat), x ≤ a → (∀ z ∈ l, z ≤ a) → (a = x ∨ a ∈ l) → l.foldl max x = a
  | [], x, _, _, h => by
    rcases h with h | h
    · exact h.symm
    · cases h
  | b :: l, x, h1, h2, h3 => by
    rw [List.foldl_cons]
    have hb := h2 b (List.mem_cons_self ..)
    refine maxl_of l _ (by omega) (fun z hz => h2 z (List.mem_cons_of_mem _ hz)) ?_
    rcases h3 with h3 | h3
    · left; omega
    · rcases List.mem_cons.mp h3 with h3 | h3
      · left; omega
      · exact .inr h3
theorem wide_eq {rs : List Nat} (hR : Rw rs) : Rc90.wide (gr rs) = wideM rs := by
  have h := wide_to hR rs.length (Nat.le_refl _)
  unfold wideM
  unfold Rc90.wide
  have hp : Rc90.points (gr rs) = List.range rs.length := rfl
  rw [hp]
  cases e : wideN rs rs.length with
  | none =>
    rw [e] at h
    obtain ⟨u, hu, v, hv, q⟩ := h
    rw [if_neg]
    intro z
    rw [List.all_eq_true] at z
    have z := z u (List.mem_range.mpr hu)
    rw [List.all_eq_true] at z
    have z := z v (List.mem_range.mpr hv)
    rw [far_eq hR hu, q] at z
    cases z
  | some a =>
    rw [e] at h
    obtain ⟨h1, h2⟩ := h
    rw [if_pos]
    · congr 1
      refine maxl_of _ 0 (by omega) (fun z hz => ?_) ?_
      · obtain ⟨u, hu, hz⟩ := List.mem_flatMap.mp hz
        obtain ⟨v, hv, rfl⟩ := List.mem_map.mp hz
        obtain ⟨k, q, hk⟩ := h1 u (List.mem_range.mp hu) v (List.mem_range.mp hv)
        rw [far_eq hR (List.mem_range.mp hu), q]
        exact hk
      · rcases h2 with h2 | ⟨u, hu, v, hv, q⟩
        · exact .inl h2
        · refine .inr (List.mem_flatMap.mpr ⟨u, List.mem_range.mpr hu, List.mem_map.mpr ⟨v, List.mem_range.mpr hv, ?_⟩⟩)
          rw [far_eq hR hu, q]; rfl
    · rw [List.all_eq_true]
      intro u hu
      rw [List.all_eq_true]
      intro v hv
      obtain ⟨k, q, _⟩ := h1 u (List.mem_range.mp hu) v (List.mem_range.mp hv)
      rw [far_eq hR (List.mem_range.mp hu), q]
      rfl
end Fg
end
section
set_option linter.all false
namespace Fg
/-! ### a graph by its edges -/
def dr (n : Nat) (e : Nat → Nat → Bool) : List Nat := (List.range n).map fun u => msk n (e u)
theorem dr_len (n : Nat) (e : Nat → Nat → Bool) : (dr n e).length = n := by simp [dr]
theorem drawn_eq (n : Nat) (e : Nat → Nat → Bool) : Rc90.drawn n e = gr (dr n e) := by
  unfold gr
  rw [dr_len]
  rfl
theorem dr_getD {n : Nat} {e : Nat → Nat → Bool} {u : Nat} (h : u < n) : (dr n e).getD u 0 = msk n (e u) := by
  apply getD_some
  unfold dr
  rw [List.getElem?_map, List.getElem?_range h]
  rfl
theorem dr_ed {n : Nat} {e : Nat → Nat → Bool} {u v : Nat} : ed (dr n e) u v = (decide (u < n) && (decide (v < n) && e u v)) := by
  unfold ed
  by_cases h : u < n
  · rw [dr_getD h, testBit_msk]; simp [h]
  · rw [List.getD_eq_getElem?_getD, List.getElem?_eq_none (by rw [dr_len]; omega)]
    simp [h]
theorem dr_rw {n : Nat} {e : Nat → Nat → Bool} (h1 : 1 ≤ n) (h2 : n ≤ 64) : Rw (dr n e) := by
  refine ⟨by rw [dr_len]; exact h1, by rw [dr_len]; exact h2, fun r hr => ?_⟩
  rw [dr_len]
  obtain ⟨u, _, rfl⟩ := List.mem_map.mp hr
  exact msk_lt _ _
/-- rows with these edges are these rows -/
theorem dr_eq {rs : List Nat} (hr : ∀ r ∈ rs, r < 2 ^ rs.length) {n : Nat} (hn : rs.length = n) {e : Nat → Nat → Bool} (h : ∀ u v, u < n → v < n → e u v = ed rs u v) : dr n e = rs := by
  subst hn
  apply List.ext_getElem?
  intro i
  by_cases hi : i < rs.length
  · unfold dr
    rw [List.getElem?_map, List.getElem?_range hi, get_of_lt hi]
    show some (msk rs.length (e i)) = _
    congr 1
    have hlt : rs.getD i 0 < 2 ^ rs.length := hr _ (by rw [List.getD_eq_getElem?_getD, List.getElem?_eq_getElem hi]; exact List.getElem_mem ..)
    apply bits_ext (msk_lt _ _) hlt
    intro v hv
    rw [testBit_msk, h i v hi hv]
    simp [hv, ed]
  · rw [List.getElem?_eq_none (by rw [dr_len]; omega), List.getElem?_eq_none (by omega)]
/-! ### what a way round finds -/
theorem two_iff (s : Nat) : two s = true ↔ ∃ a b, a ≠ b ∧ s.testBit a = true ∧ s.testBit b = true := by
  unfold two
  by_cases h : s = 0
  · subst h; simp
  · rw [bne_iff_ne, Ne, Nat.and_sub_one_eq_zero_iff_isPowerOfTwo h]
    constructor
    · intro q
      have q2 : s ^^^ 2 ^ Nat.log2 s ≠ 0 := by
        intro z
        apply q
        refine ⟨Nat.log2 s, ?_⟩
        apply Nat.eq_of_testBit_eq
        intro i
        have := congrArg (fun z => Nat.testBit z i) z
        simp only [Nat.testBit_xor, Nat.zero_testBit] at this
        cases x : s.testBit i <;> cases y : (2 ^ Nat.log2 s).testBit i <;> simp_all
      obtain ⟨b, hb⟩ := exists_testBit q2
      rw [Nat.testBit_xor, Nat.testBit_two_pow] at hb
      have ht : s.testBit (Nat.log2 s) = true := Nat.testBit_log2 h
      by_cases e : Nat.log2 s = b
      · subst e; rw [ht] at hb; simp at hb
      · refine ⟨Nat.log2 s, b, e, ht, ?_⟩
        simpa [e] using hb
    · rintro ⟨a, b, hab, ha, hb⟩ ⟨k, rfl⟩
      rw [Nat.testBit_two_pow] at ha hb
      have := of_decide_eq_true ha
      have := of_decide_eq_true hb
      omega
/-- a point of layer s has two neighbours a layer before -/
def DE (rs : List Nat) (u s : Nat) : Prop := ∃ x a b, a ≠ b ∧ (dl rs u s).testBit x = true ∧ (bf rs u s).testBit a = true ∧ (bf rs u s).testBit b = true ∧ ed rs x a = true ∧ ed rs x b = true
/-- two points of layer s are neighbours -/
def DO (rs : List Nat) (u s : Nat) : Prop := ∃ x y, (dl rs u s).testBit x = true ∧ (dl rs u s).testBit y = true ∧ ed rs x y = true
theorem sh2_iff (rs : List Nat) (u s : Nat) : sh2 rs (dl rs u s) (bf rs u s) = true ↔ DE rs u s := by
  unfold sh2
  rw [List.any_eq_true]
  constructor
  · rintro ⟨x, hx, h⟩
    rw [mem_pts] at hx
    obtain ⟨a, b, hab, ha, hb⟩ := (two_iff _).mp h
    rw [Nat.testBit_and, Bool.and_eq_true] at ha hb
    exact ⟨x, a, b, hab, hx, ha.2, hb.2, ha.1, hb.1⟩
  · rintro ⟨x, a, b, hab, hx, ha2, hb2, ha1, hb1⟩
    refine ⟨x, (mem_pts _ _).mpr hx, (two_iff _).mpr ⟨a, b, hab, ?_, ?_⟩⟩
    · rw [Nat.testBit_and, Bool.and_eq_true]; exact ⟨ha1, ha2⟩
    · rw [Nat.testBit_and, Bool.and_eq_true]; exact ⟨hb1, hb2⟩
theorem nxt_iff (rs : List Nat) (u s : Nat) : nxt rs (dl rs u s) &&& dl rs u s ≠ 0 ↔ DO rs u s := by
  constructor
  · intro h
    obtain ⟨y, hy⟩ := exists_testBit h
    rw [Nat.testBit_and, Bool.and_eq_true] at hy
    obtain ⟨x, hx, hxy⟩ := testBit_nxt.mp hy.1
    exact ⟨x, y, hx, hy.2, hxy⟩
  · rintro ⟨x, y, hx, hy, hxy⟩ z
    have := congrArg (fun z => Nat.testBit z y) z
    simp only [Nat.testBit_and, Nat.zero_testBit] at this
    rw [testBit_nxt.mpr ⟨x, hx, hxy⟩, hy] at this
    cases this
theorem ring_go {rs : List Nat} (hs : Sy rs) {u : Nat} : ∀ (f s : Nat), ringF rs f (bf rs u s) (dl rs u s) s = 0 ∨ ∃ t, s ≤ t ∧ ((DE rs u t ∧ ringF rs f (bf rs u s) (dl rs u s) s = 2 * t) ∨ (DO rs u t ∧ ringF rs f (bf rs u s) (dl rs u s) s = 2 * t + 1))
  | 0, s => .inl rfl
  | f + 1, s => by
    unfold ringF
    by_cases h1 : dl rs u s = 0
    · rw [if_pos h1]; exact .inl rfl
    rw [if_neg h1]
    by_cases h2 : sh2 rs (dl rs u s) (bf rs u s) = true
    · rw [if_pos h2]; exact .inr ⟨s, by omega, .inl ⟨(sh2_iff _ _ _).mp h2, rfl⟩⟩
    rw [if_neg h2]
    by_cases h3 : nxt rs (dl rs u s) &&& dl rs u s ≠ 0
    · rw [if_pos h3]; exact .inr ⟨s, by omega, .inr ⟨(nxt_iff _ _ _).mp h3, rfl⟩⟩
    rw [if_neg h3, ring_step hs (Classical.not_not.mp h3)]
    rcases ring_go hs f (s + 1) with q | ⟨t, ht, q⟩
    · exact .inl q
    · exact .inr ⟨t, by omega, q⟩
theorem dl_before {rs : List Nat} {u t x : Nat} (h : (dl rs u t).testBit x = true) {s : Nat} (hs : s ≤ t) : dl rs u s ≠ 0 := by
  intro z
  have := dl_stop z (t - s)
  rw [show s + (t - s) = t by omega] at this
  rw [this, Nat.zero_testBit] at h
  cases h
theorem DE.dl {rs : List Nat} {u t : Nat} (h : DE rs u t) : ∃ x, (dl rs u t).testBit x = true := let ⟨x, _, _, _, h, _⟩ := h; ⟨x, h⟩
theorem DO.dl {rs : List Nat} {u t : Nat} (h : DO rs u t) : ∃ x, (dl rs u t).testBit x = true := let ⟨x, _, h, _⟩ := h; ⟨x, h⟩
theorem DE.pos {rs : List Nat} {u t : Nat} (h : DE rs u t) : 0 < t := by
  obtain ⟨x, a, b, _, _, h, _⟩ := h
  cases t with
  | zero => rw [show bf rs u 0 = 0 from rfl, Nat.zero_testBit] at h; cases h
  | succ t => omega
theorem ring_le {rs : List Nat} (hs : Sy rs) {u t v : Nat} (hd : DE rs u t ∧ v = 2 * t ∨ DO rs u t ∧ v = 2 * t + 1) : ∀ (f s : Nat), s ≤ t → t < s + f → 0 < ringF rs f (bf rs u s) (dl rs u s) s ∧ ringF rs f (bf rs u s) (dl rs u s) s ≤ v
  | 0, s, h1, h2 => by omega
  | f + 1, s, h1, h2 => by
    have hx : ∃ x, (dl rs u t).testBit x = true := by
      rcases hd with hd | hd
      · exact hd.1.dl
      · exact hd.1.dl
    obtain ⟨x, hx⟩ := hx
    unfold ringF
    rw [if_neg (dl_before hx h1)]
    by_cases g2 : sh2 rs (dl rs u s) (bf rs u s) = true
    · rw [if_pos g2]
      have := ((sh2_iff _ _ _).mp g2).pos
      omega
    rw [if_neg g2]
    by_cases g3 : nxt rs (dl rs u s) &&& dl rs u s ≠ 0
    · rw [if_pos g3]
      refine ⟨by omega, ?_⟩
      by_cases e : s = t
      · subst e
        rcases hd with hd | hd
        · exact absurd ((sh2_iff _ _ _).mpr hd.1) g2
        · omega
      · omega
    rw [if_neg g3, ring_step hs (Classical.not_not.mp g3)]
    have hne : s ≠ t := by
      intro e; subst e
      rcases hd with hd | hd
      · exact g2 ((sh2_iff _ _ _).mpr hd.1)
      · exact g3 ((nxt_iff _ _ _).mpr hd.1)
    exact ring_le hs hd f (s + 1) (by omega) (by omega)
theorem ringM_is {rs : List Nat} (hs : Sy rs) (u : Nat) : ringM rs u = 0 ∨ ∃ t, (DE rs u t ∧ ringM rs u = 2 * t) ∨ (DO rs u t ∧ ringM rs u = 2 * t + 1) := by
  rcases ring_go hs (u := u) 65 0 with h | ⟨t, _, h⟩
  · exact .inl h
  · exact .inr ⟨t, h⟩
theorem ringM_le {rs : List Nat} (hR : Rw rs) (hs : Sy rs) {u : Nat} (hu : u < rs.length) {t v : Nat} (hd : DE rs u t ∧ v = 2 * t ∨ DO rs u t ∧ v = 2 * t + 1) : 0 < ringM rs u ∧ ringM rs u ≤ v := by
  have hx : ∃ x, (dl rs u t).testBit x = true := by
    rcases hd with hd | hd
    · exact hd.1.dl
    · exact hd.1.dl
  obtain ⟨x, hx⟩ := hx
  have h1 := dl_dep hR hu hx
  have h2 := dep_le hR hu
  have h3 := hR.most
  exact ring_le hs hd 65 0 (by omega) (by omega)
/-! ### without an edge -/
def wo (rs : List Nat) (x y a b : Nat) : Bool := ed rs a b && !((a == x && b == y) || (a == y && b == x))
theorem wo_iff {rs : List Nat} {x y a b : Nat} : wo rs x y a b = true ↔ ed rs a b = true ∧ ¬ ((a = x ∧ b = y) ∨ (a = y ∧ b = x)) := by
  unfold wo
  by_cases h1 : a = x <;> by_cases h2 : b = y <;> by_cases h3 : a = y <;> by_cases h4 : b = x <;> simp [h1, h2, h3, h4]
theorem wo_sy {rs : List Nat} (hs : Sy rs) (x y a b : Nat) : wo rs x y a b = wo rs x y b a := by
  have h : ed rs a b = ed rs b a := hs a b
  rw [Bool.eq_iff_iff, wo_iff, wo_iff, h]
  constructor
  · rintro ⟨h1, h2⟩; exact ⟨h1, fun q => h2 (by rcases q with q | q; exact .inr ⟨q.2, q.1⟩; exact .inl ⟨q.2, q.1⟩)⟩
  · rintro ⟨h1, h2⟩; exact ⟨h1, fun q => h2 (by rcases q with q | q; exact .inr ⟨q.2, q.1⟩; exact .inl ⟨q.2, q.1⟩)⟩
def wos (rs : List Nat) (x y : Nat) : List Nat := dr rs.length (wo rs x y)
theorem without_eq (rs : List Nat) (x y : Nat) : Rc90.without (gr rs) x y = gr (wos rs x y) := drawn_eq rs.length _
theorem wos_rw {rs : List Nat} (hR : Rw rs) (x y : Nat) : Rw (wos rs x y) := dr_rw hR.one hR.most
theorem wos_len (rs : List Nat) (x y : Nat) : (wos rs x y).length = rs.length := dr_len _ _
theorem wos_ed {rs : List Nat} (hR : Rw rs) {x y a b : Nat} : ed (wos rs x y) a b = wo rs x y a b := by
  unfold wos
  rw [dr_ed]
  cases h : wo rs x y a b with
  | false => simp
  | true =>
    have h1 := (wo_iff.mp h).1
    have h2 := hR.ed_lt h1
    have h3 := Rw.ed_lt1 h1
    simp [h2, h3]
theorem wos_wk {rs : List Nat} (hR : Rw rs) {x y u k v : Nat} (h : Wk (wo rs x y) u k v) : Wk (ed (wos rs x y)) u k v := h.mono fun a b q => by rw [wos_ed hR]; exact q
theorem wk_wos {rs : List Nat} (hR : Rw rs) {x y u k v : Nat} (h : Wk (ed (wos rs x y)) u k v) : Wk (wo rs x y) u k v := h.mono fun a b q => by rw [wos_ed hR] at q; exact q
theorem rings_mem {rs : List Nat} (hR : Rw rs) {r : Nat} : r ∈ Rc90.rings (gr rs) ↔ ∃ x y k, ed rs x y = true ∧ farM (wos rs x y) x y = some k ∧ r = k + 1 := by
  unfold Rc90.rings
  rw [List.mem_flatMap]
  constructor
  · rintro ⟨x, hx, h⟩
    have hx : x < rs.length := List.mem_range.mp hx
    obtain ⟨y, hy, h⟩ := List.mem_filterMap.mp h
    have he : ed rs x y = true := (List.mem_filter.mp hy).2
    rw [without_eq, far_eq (wos_rw hR x y) (by rw [wos_len]; exact hx)] at h
    cases q : farM (wos rs x y) x y with
    | none => rw [q] at h; cases h
    | some k =>
      rw [q] at h
      exact ⟨x, y, k, he, q, (Option.some.inj h).symm⟩
  · rintro ⟨x, y, k, he, q, rfl⟩
    have hx := Rw.ed_lt1 he
    refine ⟨x, List.mem_range.mpr hx, List.mem_filterMap.mpr ⟨y, List.mem_filter.mpr ⟨List.mem_range.mpr (hR.ed_lt he), he⟩, ?_⟩⟩
    rw [without_eq, far_eq (wos_rw hR x y) (by rw [wos_len]; exact hx), q]
    rfl
/-- a walk from one end to the other without the edge: a ring -/
theorem ring_of {rs : List Nat} (hR : Rw rs) {x y t : Nat} (he : ed rs x y = true) (h : Wk (wo rs x y) x t y) : ∃ r, r ∈ Rc90.rings (gr rs) ∧ r ≤ t + 1 := by
  have hx := Rw.ed_lt1 he
  obtain ⟨k, hk, q⟩ := farM_wk (wos_rw hR x y) (by rw [wos_len]; exact hx) (wos_wk hR h)
  exact ⟨k + 1, (rings_mem hR).mpr ⟨x, y, k, he, q, rfl⟩, by omega⟩
/-- a way of fewest steps, without an edge that is not on it -/
theorem lay_wk {rs : List Nat} {u : Nat} {e : Nat → Nat → Bool} (J : Nat) (h : ∀ i a b, i < J → (dl rs u i).testBit a = true → (dl rs u (i + 1)).testBit b = true → ed rs a b = true → e a b = true) : ∀ (j w : Nat), j ≤ J → (dl rs u j).testBit w = true → Wk e u j w
  | 0, w, _, hw => dl_wk (k := 0) hw
  | j + 1, w, hj, hw => by
    obtain ⟨⟨a, h1, h2⟩, _⟩ := (dl_bit rs u w j).mp hw
    exact ⟨a, lay_wk J h j a (by omega) h1, h j a w (by omega) h1 hw h2⟩
theorem ring_even {rs : List Nat} (hG : Gd rs) {u s : Nat} (h : DE rs u s) : ∃ r, r ∈ Rc90.rings (gr rs) ∧ r ≤ 2 * s := by
  have hp := h.pos
  obtain ⟨x, y, z, hyz, hx, hy, hz, exy, exz⟩ := h
  obtain ⟨t, rfl⟩ : ∃ t, s = t + 1 := ⟨s - 1, by omega⟩
  have hy : (dl rs u t).testBit y = true := hy
  have hz : (dl rs u t).testBit z = true := hz
  have key : ∀ i a, i ≤ t → (dl rs u i).testBit a = true → a ≠ x := fun i a hi ha e => by
    subst e
    have := dl_uniq ha hx
    omega
  have lay := lay_wk (e := wo rs x y) (u := u) t fun i a b hi ha hb he => wo_iff.mpr ⟨he, fun q => by
    rcases q with q | q
    · exact key i a (by omega) ha q.1
    · exact key (i + 1) b (by omega) hb q.2⟩
  have w1 : Wk (wo rs x y) z t u := (lay t z (by omega) hz).rev (wo_sy hG.sy x y)
  have w2 : Wk (wo rs x y) z (t + t) y := w1.trans (lay t y (by omega) hy)
  have w3 : Wk (wo rs x y) x (t + t + 1) y := w2.cons (wo_iff.mpr ⟨exz, fun q => by
    rcases q with q | q
    · exact hyz q.2.symm
    · exact key t y (by omega) hy q.1.symm⟩)
  obtain ⟨r, hr, hle⟩ := ring_of hG.rw_ exy w3
  exact ⟨r, hr, by omega⟩
theorem ring_odd {rs : List Nat} (hG : Gd rs) {u s : Nat} (h : DO rs u s) : ∃ r, r ∈ Rc90.rings (gr rs) ∧ r ≤ 2 * s + 1 := by
  obtain ⟨x, y, hx, hy, exy⟩ := h
  have lay := lay_wk (e := wo rs x y) (u := u) s fun i a b hi ha hb he => wo_iff.mpr ⟨he, fun q => by
    rcases q with ⟨rfl, rfl⟩ | ⟨rfl, rfl⟩
    · have := dl_uniq ha hx; omega
    · have := dl_uniq ha hy; omega⟩
  have w1 : Wk (wo rs x y) x s u := (lay s x (by omega) hx).rev (wo_sy hG.sy x y)
  have w2 := w1.trans (lay s y (by omega) hy)
  obtain ⟨r, hr, hle⟩ := ring_of hG.rw_ exy w2
  exact ⟨r, hr, by omega⟩
/-- where no way round is found, each walk without the edge keeps clear of its other end -/
theorem ring_back {rs : List Nat} (hG : Gd rs) {u v k : Nat} (he : ed rs u v = true) (h : Wk (wo rs u v) u k v) : ∃ t, (DE rs u t ∧ 2 * t ≤ k + 1) ∨ (DO rs u t ∧ 2 * t + 1 ≤ k + 1) := by
  apply Classical.byContradiction
  intro no
  have nE : ∀ t, 2 * t ≤ k + 1 → ¬ DE rs u t := fun t ht q => no ⟨t, .inl ⟨q, ht⟩⟩
  have nO : ∀ t, 2 * t + 1 ≤ k + 1 → ¬ DO rs u t := fun t ht q => no ⟨t, .inr ⟨q, ht⟩⟩
  have sy : ∀ a b, ed rs a b = ed rs b a := hG.sy
  have huv : u ≠ v := fun e => by subst e; have := hG.ir u; unfold ed at he; rw [this] at he; cases he
  have hv1 : (dl rs u 1).testBit v = true := by
    refine (dl_bit rs u v 0).mpr ⟨⟨u, by rw [dl_zero, pow_testBit]; simp, he⟩, ?_⟩
    cases z : (sn rs u 1).testBit v with
    | false => rfl
    | true =>
      obtain ⟨i, hi, hid⟩ := (sn_bit rs u v 1).mp z
      have e : i = 0 := by omega
      subst e
      rw [dl_zero, pow_testBit] at hid
      exact absurd (of_decide_eq_true hid) huv
  have we : ∀ {a b}, wo rs u v a b = true → ed rs a b = true := fun q => (wo_iff.mp q).1
  -- of the points that are reached by way of v
  have main : ∀ (i x : Nat), i ≤ k → Wk (wo rs u v) u i x → Wk (wo rs u v) x (k - i) v → ¬ ∃ m, (dl rs u (m + 1)).testBit x = true ∧ Wk (ed rs) v m x := by
    intro i
    induction i with
    | zero =>
      intro x _ hx _ ⟨m, hm, _⟩
      have hx : u = x := hx
      subst hx
      have : (dl rs u 0).testBit u = true := by rw [dl_zero, pow_testBit]; simp
      have := dl_uniq hm this
      omega
    | succ i ih =>
      rintro x hi ⟨w, hw, hwx⟩ hxv ⟨m, hm, hvm⟩
      have ew := we hwx
      have hwv : Wk (wo rs u v) w (k - i) v := by
        rw [show k - i = (k - (i + 1)) + 1 by omega]
        exact hxv.cons hwx
      have nw := ih w (by omega) hw hwv
      -- how far w and x are
      obtain ⟨d, hd, hdw⟩ := wk_dl (hw.mono fun a b => we)
      have hx2 : Wk (ed rs) u (k - i) x := by
        rw [show k - i = (k - (i + 1)) + 1 by omega]
        exact Wk.cons he ((hxv.mono fun a b => we).rev sy)
      obtain ⟨d2, hd2, hdx⟩ := wk_dl hx2
      have e1 := dl_uniq hdx hm
      obtain ⟨d3, hd3, hdx3⟩ := wk_dl (show Wk (ed rs) u (i + 1) x from ⟨w, hw.mono fun a b => we, ew⟩)
      have e2 := dl_uniq hdx3 hm
      -- neighbours' layers
      obtain ⟨c1, hc1, hcx⟩ := wk_dl (show Wk (ed rs) u (d + 1) x from ⟨w, dl_wk hdw, ew⟩)
      have e3 := dl_uniq hcx hm
      obtain ⟨c2, hc2, hcw⟩ := wk_dl (show Wk (ed rs) u (m + 1 + 1) w from ⟨x, dl_wk hm, by rw [sy]; exact ew⟩)
      have e4 := dl_uniq hcw hdw
      by_cases q1 : d = m + 1
      · subst q1
        exact nO (m + 1) (by omega) ⟨w, x, hdw, hm, ew⟩
      by_cases q2 : d = m + 2
      · subst q2
        exact nw ⟨m + 1, hdw, x, hvm, by rw [sy]; exact ew⟩
      have q3 : d = m := by omega
      subst q3
      cases d with
      | zero =>
        have hvx : v = x := hvm
        subst hvx
        rw [dl_zero, pow_testBit] at hdw
        have huw : u = w := of_decide_eq_true hdw
        subst huw
        exact (wo_iff.mp hwx).2 (.inl ⟨rfl, rfl⟩)
      | succ d =>
        obtain ⟨z, hz, hzx⟩ := hvm
        -- z is a layer before x
        have hz1 : Wk (ed rs) u (d + 1) z := Wk.cons he hz
        obtain ⟨j, hj, hjz⟩ := wk_dl hz1
        obtain ⟨j2, hj2, hjx⟩ := wk_dl (show Wk (ed rs) u (j + 1) x from ⟨z, dl_wk hjz, hzx⟩)
        have e5 := dl_uniq hjx hm
        have e6 : j = d + 1 := by omega
        subst e6
        by_cases hzw : z = w
        · subst hzw
          exact nw ⟨d, hjz, hz⟩
        · exact nE (d + 1 + 1) (by omega) ⟨x, z, w, hzw, hm, hjz, hdw, by rw [sy]; exact hzx, by rw [sy]; exact ew⟩
  exact main k v (by omega) h (by rw [Nat.sub_self]; exact rfl) ⟨0, hv1, rfl⟩
theorem girth_eq {rs : List Nat} (hG : Gd rs) : Rc90.girth (gr rs) = girthM rs := by
  have e : Rc90.girth (gr rs) = minM (Rc90.rings (gr rs)) := rfl
  rw [e]
  unfold girthM
  have hA : ∀ a ∈ (((List.range rs.length).map (ringM rs)).filter fun r => decide (0 < r)), ∃ b, b ∈ Rc90.rings (gr rs) ∧ b ≤ a := by
    intro a ha
    obtain ⟨h1, h2⟩ := List.mem_filter.mp ha
    obtain ⟨u, hu, rfl⟩ := List.mem_map.mp h1
    have h2 := of_decide_eq_true h2
    rcases ringM_is hG.sy u with h | ⟨t, ⟨h, q⟩ | ⟨h, q⟩⟩
    · omega
    · rw [q]; exact ring_even hG h
    · rw [q]; exact ring_odd hG h
  have hB : ∀ b ∈ Rc90.rings (gr rs), ∃ a, a ∈ (((List.range rs.length).map (ringM rs)).filter fun r => decide (0 < r)) ∧ a ≤ b := by
    intro b hb
    obtain ⟨x, y, k, he, q, rfl⟩ := (rings_mem hG.rw_).mp hb
    have hx := Rw.ed_lt1 he
    have hw := wk_wos hG.rw_ (dl_wk (farM_some q))
    obtain ⟨t, h⟩ := ring_back hG he hw
    have : ∃ v, v ≤ k + 1 ∧ (DE rs x t ∧ v = 2 * t ∨ DO rs x t ∧ v = 2 * t + 1) := by
      rcases h with ⟨h, l⟩ | ⟨h, l⟩
      · exact ⟨_, l, .inl ⟨h, rfl⟩⟩
      · exact ⟨_, l, .inr ⟨h, rfl⟩⟩
    obtain ⟨v, hv, hd⟩ := this
    obtain ⟨h1, h2⟩ := ringM_le hG.rw_ hG.sy hx hd
    exact ⟨ringM rs x, List.mem_filter.mpr ⟨List.mem_map.mpr ⟨x, List.mem_range.mpr hx, rfl⟩, decide_eq_true h1⟩, by omega⟩
  generalize (((List.range rs.length).map (ringM rs)).filter fun r => decide (0 < r)) = A at hA hB
  generalize Rc90.rings (gr rs) = B at hA hB
  have min_mem : ∀ l : List Nat, l ≠ [] → ∃ m, m ∈ l ∧ ∀ z ∈ l, m ≤ z := by
    intro l
    induction l with
    | nil => intro h; exact absurd rfl h
    | cons a l ih =>
      intro _
      by_cases hl : l = []
      · subst hl; exact ⟨a, List.mem_cons_self .., fun z hz => by simp at hz; omega⟩
      · obtain ⟨m, hm, hle⟩ := ih hl
        by_cases q : a ≤ m
        · refine ⟨a, List.mem_cons_self .., fun z hz => ?_⟩
          rcases List.mem_cons.mp hz with rfl | hz
          · omega
          · have := hle z hz; omega
        · refine ⟨m, List.mem_cons_of_mem _ hm, fun z hz => ?_⟩
          rcases List.mem_cons.mp hz with rfl | hz
          · omega
          · exact hle z hz
  by_cases hA0 : A = []
  · subst hA0
    cases B with
    | nil => rfl
    | cons b B => obtain ⟨a, ha, _⟩ := hB b (List.mem_cons_self ..); cases ha
  · obtain ⟨a, ha, hale⟩ := min_mem A hA0
    obtain ⟨b, hb, hba⟩ := hA a ha
    have hle : ∀ z ∈ B, b ≤ z := fun z hz => by
      obtain ⟨c, hc, hcz⟩ := hB z hz
      have := hale c hc
      omega
    obtain ⟨c, hc, hcb⟩ := hB b hb
    have hac := hale c hc
    have e : a = b := by omega
    rw [minM_of ha hale, minM_of hb hle, e]
end Fg
end
section
set_option linter.all false
namespace Fg
abbrev ab (rs : List Nat) : Rc90.Abs := ⟨gr rs⟩
theorem stp {s : Rc90.Abs} {c : List (List Int)} {x : Rc90.Call} {y : Rc90.Abs × Rc90.Ans} (e : Rc90Neutral.callOf c = some x) (d : Rc90.does s x = y) : Rc90Neutral.step s c = (y.1, y.2.value :: y.2.numbers.map fun (b : Nat) => (b : Int)) := by
  subst d
  unfold Rc90Neutral.step
  rw [e]
theorem near_eq (rs : List Nat) (u : Nat) : Rc90.near (gr rs) u = pc rs.length (rs.getD u 0) := pc_cnt _ _
theorem common_eq (rs : List Nat) (u v : Nat) : Rc90.common (gr rs) u v = cmM rs u v := by
  unfold Rc90.common cmM
  rw [← pc_cnt]
  show ((List.range rs.length).filter _).length = _
  congr 1
  congr 1
  funext w
  rw [Nat.testBit_and]
  rfl
theorem below2 (rs : List Nat) (u v : Int) : (Rc90.below u (gr rs).n && Rc90.below v (gr rs).n) = hasM rs u v := by
  unfold Rc90.below hasM
  rw [Bool.and_assoc]
theorem below1 (rs : List Nat) (u : Int) : Rc90.below u (gr rs).n = hasM rs u u := by
  rw [← below2, Bool.and_self]
theorem step_row (rs : List Nat) (u : Int) : Rc90Neutral.step (ab rs) [[4, u]] = (ab rs, rowA rs u) := by
  have d : Rc90.does (ab rs) (.row u) = (if Rc90.below u (gr rs).n = false then (ab rs, Rc90.refused) else (ab rs, { value := (Rc90.near (gr rs) u.toNat : Nat), numbers := [rs.getD u.toNat 0] })) := rfl
  rw [stp rfl d]
  unfold rowA
  rw [below1]
  cases hasM rs u u with
  | false => rfl
  | true =>
    simp only [if_true, if_neg (show ¬ (true = false) by simp)]
    rw [near_eq]
    rfl
theorem step_common (rs : List Nat) (u v : Int) : Rc90Neutral.step (ab rs) [[5, u, v]] = (ab rs, commonA rs u v) := by
  have d : Rc90.does (ab rs) (.common u v) = (if (Rc90.below u (gr rs).n && Rc90.below v (gr rs).n) = false then (ab rs, Rc90.refused) else (ab rs, { value := (Rc90.common (gr rs) u.toNat v.toNat : Nat) })) := rfl
  rw [stp rfl d]
  unfold commonA
  rw [below2]
  cases hasM rs u v with
  | false => rfl
  | true =>
    simp only [if_true, if_neg (show ¬ (true = false) by simp)]
    rw [common_eq]
    rfl
theorem found_eq (o : Option Nat) : Rc90.found o = oI o := by cases o <;> rfl
theorem step_far {rs : List Nat} (hR : Rw rs) (u v : Int) : Rc90Neutral.step (ab rs) [[8, u, v]] = (ab rs, farA rs u v) := by
  have d : Rc90.does (ab rs) (.far u v) = (if (Rc90.below u (gr rs).n && Rc90.below v (gr rs).n) = false then (ab rs, Rc90.refused) else (ab rs, { value := Rc90.found (Rc90.far (gr rs) u.toNat v.toNat) })) := rfl
  rw [stp rfl d]
  unfold farA
  rw [below2]
  cases h : hasM rs u v with
  | false => rfl
  | true =>
    obtain ⟨a, b, rfl, rfl, ha, hb⟩ := has_of h
    simp only [if_true, if_neg (show ¬ (true = false) by simp), Int.toNat_natCast]
    rw [far_eq hR ha, found_eq]
    rfl
theorem step_wide {rs : List Nat} (hR : Rw rs) : Rc90Neutral.step (ab rs) [[9]] = (ab rs, [oI (wideM rs)]) := by
  have e : Rc90Neutral.callOf [[9]] = some .wide := rfl
  unfold Rc90Neutral.step
  rw [e]
  show (ab rs, [Rc90.found (Rc90.wide (gr rs))]) = _
  rw [wide_eq hR, found_eq]
theorem step_girth {rs : List Nat} (hG : Gd rs) : Rc90Neutral.step (ab rs) [[10]] = (ab rs, [((girthM rs : Nat) : Int)]) := by
  have e : Rc90Neutral.callOf [[10]] = some .girth := rfl
  unfold Rc90Neutral.step
  rw [e]
  show (ab rs, [((Rc90.girth (gr rs) : Nat) : Int)]) = _
  rw [girth_eq hG]
/-! ### size, begin -/
theorem getD_rep (n u : Nat) : (List.replicate n 0).getD u 0 = 0 := by
  rw [List.getD_eq_getElem?_getD, List.getElem?_replicate]
  split <;> rfl
theorem gd_rep {n : Nat} (h1 : 1 ≤ n) (h2 : n ≤ 64) : Gd (List.replicate n 0) := by
  refine ⟨⟨by simpa using h1, by simpa using h2, fun r hr => ?_⟩, fun u v => ?_, fun u => ?_⟩
  · rw [List.eq_of_mem_replicate hr]; exact Nat.two_pow_pos _
  · rw [getD_rep, getD_rep]; simp
  · rw [getD_rep]; simp
theorem gd_one : Gd [0] := gd_rep (n := 1) (by omega) (by omega)
theorem step_begin (rs : List Nat) : Rc90Neutral.step (ab rs) [[0]] = (ab [0], [0]) := rfl
theorem step_size (rs : List Nat) (n : Int) : Rc90Neutral.step (ab rs) [[1, n]] = (ab (sizeR rs n), sizeA n) := by
  have d : Rc90.does (ab rs) (.size n) = (if Rc90.between n 1 Rc90.MOST = false then (ab rs, Rc90.refused) else ({ graph := { n := n.toNat, rows := List.replicate n.toNat 0 } }, { value := 0 })) := rfl
  rw [stp rfl d]
  unfold sizeR sizeA
  have eb : Rc90.between n 1 Rc90.MOST = (decide (1 ≤ n) && decide (n ≤ 64)) := rfl
  rw [eb]
  cases h : (decide (1 ≤ n) && decide (n ≤ 64)) with
  | false => rfl
  | true =>
    simp only [if_true, if_neg (show ¬ (true = false) by simp)]
    show (({ graph := { n := n.toNat, rows := List.replicate n.toNat 0 } } : Rc90.Abs), [(0 : Int)]) = (({ graph := { n := (List.replicate n.toNat 0).length, rows := List.replicate n.toNat 0 } } : Rc90.Abs), [(0 : Int)])
    rw [List.length_replicate]
theorem gd_size {rs : List Nat} (hG : Gd rs) (n : Int) : Gd (sizeR rs n) := by
  unfold sizeR
  split
  · rename_i h
    simp only [Bool.and_eq_true, decide_eq_true_eq] at h
    exact gd_rep (by omega) (by omega)
  · exact hG
/-! ### graphs by their edges -/
theorem dr_gd {n : Nat} {e : Nat → Nat → Bool} (h1 : 1 ≤ n) (h2 : n ≤ 64) (hs : ∀ u v, e u v = e v u) (hi : ∀ u, e u u = false) : Gd (dr n e) := by
  refine ⟨dr_rw h1 h2, fun u v => ?_, fun u => ?_⟩
  · show ed (dr n e) u v = ed (dr n e) v u
    rw [dr_ed, dr_ed, hs u v]
    cases decide (u < n) <;> cases decide (v < n) <;> rfl
  · show ed (dr n e) u u = false
    rw [dr_ed, hi u]
    simp
theorem setb_bit (r v : Nat) (on : Int) (y : Nat) : (setb r v on).testBit y = if y = v then decide (on = 1) else r.testBit y := by
  unfold setb
  by_cases h : on = 1
  · rw [if_pos h, Nat.testBit_or, Nat.testBit_two_pow]
    by_cases q : y = v
    · subst q; simp [h]
    · rw [if_neg q]; simp [show ¬ v = y from fun z => q z.symm]
  · rw [if_neg h, testBit_dif, Nat.testBit_two_pow]
    by_cases q : y = v
    · subst q; simp [h]
    · rw [if_neg q]; simp [show ¬ v = y from fun z => q z.symm]
theorem setb_lt {n r v : Nat} (hv : v < n) (hr : r < 2 ^ n) (on : Int) : setb r v on < 2 ^ n := by
  unfold setb
  split
  · exact Nat.or_lt_two_pow hr (pow_lt_pow hv)
  · exact dif_lt hr
theorem getD_set {l : List Nat} {i j r : Nat} (hi : i < l.length) : (l.set i r).getD j 0 = if i = j then r else l.getD j 0 := by
  rw [List.getD_eq_getElem?_getD, List.getElem?_set, List.getD_eq_getElem?_getD]
  by_cases h : i = j
  · rw [if_pos h, if_pos h, if_pos hi]; rfl
  · rw [if_neg h, if_neg h]
theorem low_of {l : List Nat} {n : Nat} (h : ∀ i, i < l.length → l.getD i 0 < 2 ^ n) : ∀ r ∈ l, r < 2 ^ n := by
  intro r hr
  obtain ⟨i, hi, rfl⟩ := List.getElem_of_mem hr
  have := h i hi
  rw [List.getD_eq_getElem?_getD, List.getElem?_eq_getElem hi] at this
  exact this
def edgeE (rs : List Nat) (u v : Nat) (on : Int) (a b : Nat) : Bool := if (a = u ∧ b = v) ∨ (a = v ∧ b = u) then on == 1 else ed rs a b
theorem edgeM_eq {rs : List Nat} (hG : Gd rs) {u v : Nat} (hu : u < rs.length) (hv : v < rs.length) (hne : u ≠ v) (on : Int) : edgeM rs u v on = dr rs.length (edgeE rs u v on) := by
  have g : ∀ j, (edgeM rs u v on).getD j 0 = if v = j then setb (rs.getD v 0) u on else if u = j then setb (rs.getD u 0) v on else rs.getD j 0 := by
    intro j
    unfold edgeM
    rw [getD_set (by rw [List.length_set]; exact hv), getD_set hu, getD_set hu, if_neg hne]
  have hl : (edgeM rs u v on).length = rs.length := by unfold edgeM; rw [List.length_set, List.length_set]
  refine (dr_eq ?_ hl ?_).symm
  · rw [hl]
    refine low_of fun i hi => ?_
    rw [g]
    split
    · exact setb_lt hu (hG.rw_.getD v) on
    · split
      · exact setb_lt hv (hG.rw_.getD u) on
      · exact hG.rw_.getD i
  · intro a b ha hb
    unfold edgeE
    show _ = ((edgeM rs u v on).getD a 0).testBit b
    rw [g]
    by_cases h1 : v = a
    · subst h1
      rw [if_pos rfl, setb_bit]
      by_cases h2 : b = u
      · subst h2
        rw [if_pos (.inr ⟨rfl, rfl⟩), if_pos rfl]
        rfl
      · rw [if_neg (by rintro (⟨e, _⟩ | ⟨_, e⟩); exact hne e.symm; exact h2 e), if_neg h2]
        rfl
    · rw [if_neg h1]
      by_cases h2 : u = a
      · subst h2
        rw [if_pos rfl, setb_bit]
        by_cases h3 : b = v
        · subst h3
          rw [if_pos (.inl ⟨rfl, rfl⟩), if_pos rfl]
          rfl
        · rw [if_neg (by rintro (⟨_, e⟩ | ⟨e, _⟩); exact h3 e; exact h1 e.symm), if_neg h3]
          rfl
      · rw [if_neg h2, if_neg (by rintro (⟨e, _⟩ | ⟨e, _⟩); exact h2 e.symm; exact h1 e.symm)]
        rfl
theorem edge_gd {rs : List Nat} (hG : Gd rs) {u v : Nat} (hne : u ≠ v) (on : Int) : Gd (dr rs.length (edgeE rs u v on)) := by
  refine dr_gd hG.rw_.one hG.rw_.most (fun a b => ?_) (fun a => ?_)
  · unfold edgeE
    have h : ed rs a b = ed rs b a := hG.sy a b
    rw [h]
    by_cases q : (a = u ∧ b = v) ∨ (a = v ∧ b = u)
    · rw [if_pos q, if_pos (by rcases q with q | q; exact .inr ⟨q.2, q.1⟩; exact .inl ⟨q.2, q.1⟩)]
    · rw [if_neg q, if_neg (fun z => q (by rcases z with z | z; exact .inr ⟨z.2, z.1⟩; exact .inl ⟨z.2, z.1⟩))]
  · unfold edgeE
    rw [if_neg (by rintro (⟨e1, e2⟩ | ⟨e1, e2⟩) <;> omega)]
    exact hG.ir a
theorem edgeB_eq (rs : List Nat) (u v on : Int) : (Rc90.below u (gr rs).n && (Rc90.below v (gr rs).n && (u != v && Rc90.between on 0 1))) = !edgeB rs u v on := by
  have h := below2 rs u v
  rw [← Bool.and_assoc, h]
  unfold edgeB Rc90.between
  rw [Bool.not_or, Bool.not_not, Bool.not_or, Bool.not_or]
  congr 1
  show (!(u == v) && _) = _
  congr 1
  congr 1
  · rw [Bool.eq_iff_iff]; simp
  · rw [Bool.eq_iff_iff]; simp
theorem step_edge {rs : List Nat} (hG : Gd rs) (u v on : Int) : Rc90Neutral.step (ab rs) [[2, u, v, on]] = (ab (edgeR rs u v on), edgeA rs u v on) ∧ Gd (edgeR rs u v on) := by
  have d : Rc90.does (ab rs) (.edge u v on) = (if (Rc90.below u (gr rs).n && (Rc90.below v (gr rs).n && (u != v && Rc90.between on 0 1))) = false then (ab rs, Rc90.refused) else
      ({ graph := Rc90.drawn rs.length (edgeE rs u.toNat v.toNat on) }, { value := 0 })) := rfl
  rw [stp rfl d]
  unfold edgeR edgeA
  rw [edgeB_eq]
  cases h : edgeB rs u v on with
  | true => exact ⟨rfl, hG⟩
  | false =>
    unfold edgeB at h
    simp only [Bool.or_eq_false_iff] at h
    obtain ⟨h1, h2, h3, h4⟩ := h
    obtain ⟨a, b, rfl, rfl, ha, hb⟩ := has_of (notF h1)
    have hne : a ≠ b := by intro z; subst z; simp at h2
    simp only [Bool.not_false, if_neg (show ¬ (true = false) by simp), if_neg (show ¬ (false = true) by simp), Int.toNat_natCast]
    rw [edgeM_eq hG ha hb hne on]
    refine ⟨?_, edge_gd hG hne on⟩
    show (({ graph := Rc90.drawn rs.length _ } : Rc90.Abs), [(0 : Int)]) = _
    rw [drawn_eq]
/-! ### rows -/
theorem shr_zero (r n : Nat) : (r >>> n == 0) = decide (r < 2 ^ n) := by
  rw [Nat.shiftRight_eq_div_pow, Bool.eq_iff_iff, beq_iff_eq, decide_eq_true_eq, Nat.div_eq_zero_iff]
  have := Nat.two_pow_pos n
  omega
theorem fine_eq (ls : List Nat) : Rc90.fine ls = (ls.all (fun r => r >>> ls.length == 0) && agreeM ls) := by
  have e1 : ls.all (fun r => r >>> ls.length == 0) = ls.all fun r => decide (r < 2 ^ ls.length) := by
    congr 1; funext r; exact shr_zero r _
  rw [e1]
  unfold Rc90.fine
  show (_ && (List.range ls.length).all fun u => !ed ls u u && (List.range ls.length).all fun v => ed ls u v == ed ls v u) = _
  congr 1
  unfold agreeM
  show _ = (List.range ls.length).all fun u => !ed ls u u && (List.range u).all fun v => ed ls u v == ed ls v u
  rw [Bool.eq_iff_iff, List.all_eq_true, List.all_eq_true]
  constructor
  · intro h u hu
    have q := h u hu
    rw [Bool.and_eq_true, List.all_eq_true] at q
    rw [Bool.and_eq_true, List.all_eq_true]
    refine ⟨q.1, fun v hv => q.2 v ?_⟩
    have := List.mem_range.mp hv
    have := List.mem_range.mp hu
    exact List.mem_range.mpr (by omega)
  · intro h u hu
    have q := h u hu
    rw [Bool.and_eq_true, List.all_eq_true] at q
    rw [Bool.and_eq_true, List.all_eq_true]
    refine ⟨q.1, fun v hv => ?_⟩
    rcases Nat.lt_trichotomy v u with z | z | z
    · exact q.2 v (List.mem_range.mpr z)
    · subst z; simp
    · have p := h v hv
      rw [Bool.and_eq_true, List.all_eq_true] at p
      have := p.2 u (List.mem_range.mpr z)
      rw [beq_iff_eq] at this ⊢
      exact this.symm
theorem are_gd {ls : List Nat} (h : areM ls = true) : Gd ls := by
  unfold areM at h
  simp only [Bool.and_eq_true, decide_eq_true_eq] at h
  obtain ⟨⟨h1, h2⟩, h3, h4⟩ := h
  have hR : Rw ls := ⟨h1, h2, fun r hr => by
    have := List.all_eq_true.mp h3 r hr
    rw [shr_zero] at this
    exact of_decide_eq_true this⟩
  unfold agreeM at h4
  rw [List.all_eq_true] at h4
  have out : ∀ u v, ls.length ≤ u → ed ls u v = false := fun u v hu => by
    cases q : ed ls u v with
    | false => rfl
    | true => have := Rw.ed_lt1 q; omega
  have out2 : ∀ u v, ls.length ≤ v → ed ls u v = false := fun u v hv => by
    cases q : ed ls u v with
    | false => rfl
    | true => have := hR.ed_lt q; omega
  have lt : ∀ u v, v < u → u < ls.length → ed ls u v = ed ls v u := fun u v hv hu => by
    have := h4 u (List.mem_range.mpr hu)
    rw [Bool.and_eq_true, List.all_eq_true] at this
    exact eq_of_beq (this.2 v (List.mem_range.mpr hv))
  refine ⟨hR, fun u v => ?_, fun u => ?_⟩
  · show ed ls u v = ed ls v u
    by_cases hu : u < ls.length
    · by_cases hv : v < ls.length
      · rcases Nat.lt_trichotomy v u with z | z | z
        · exact lt u v z hu
        · subst z; rfl
        · exact (lt v u z hv).symm
      · rw [out2 u v (by omega), out v u (by omega)]
    · rw [out u v (by omega), out2 v u (by omega)]
  · show ed ls u u = false
    by_cases hu : u < ls.length
    · have := h4 u (List.mem_range.mpr hu)
      rw [Bool.and_eq_true] at this
      exact notT this.1
    · exact out u u (by omega)
theorem step_rows {rs : List Nat} (hG : Gd rs) (ls : List Nat) : Rc90Neutral.step (ab rs) [[3, (ls.length : Int)], ls.map fun (r : Nat) => (r : Int)] = (ab (rowsR rs ls), rowsA ls) ∧ Gd (rowsR rs ls) := by
  have e0 : Rc90Neutral.natsOf (ls.map fun (r : Nat) => (r : Int)) = ls := by
    unfold Rc90Neutral.natsOf
    rw [List.map_map]
    conv => rhs; rw [← List.map_id ls]
    rfl
  have d : Rc90.does (ab rs) (.rows (Rc90Neutral.natsOf (ls.map fun (r : Nat) => (r : Int))) (ls.length : Int)) = (if (Rc90.between (ls.length : Int) 1 Rc90.MOST && ((Rc90Neutral.natsOf (ls.map fun (r : Nat) => (r : Int))).length == (ls.length : Int).toNat && Rc90.fine (Rc90Neutral.natsOf (ls.map fun (r : Nat) => (r : Int))))) = false then (ab rs, Rc90.refused) else (ab (Rc90Neutral.natsOf (ls.map fun (r : Nat) => (r : Int))), { value := 0 })) := rfl
  rw [stp rfl d, e0]
  unfold rowsR rowsA
  have eb : (Rc90.between (ls.length : Int) 1 Rc90.MOST && (ls.length == (ls.length : Int).toNat && Rc90.fine ls)) = areM ls := by
    rw [fine_eq]
    unfold areM Rc90.between Rc90.MOST
    rw [Int.toNat_natCast, beq_self_eq_true, Bool.true_and]
    congr 1
    congr 1 <;> (rw [Bool.eq_iff_iff]; simp; try omega)
  rw [eb]
  cases h : areM ls with
  | false => exact ⟨rfl, hG⟩
  | true => exact ⟨rfl, are_gd h⟩
/-! ### switch, turn -/
theorem step_switch {rs : List Nat} (hG : Gd rs) (s : Nat) : Rc90Neutral.step (ab rs) [[11, (s : Int)]] = (ab (switchM rs s), [0]) ∧ Gd (switchM rs s) := by
  have e : Rc90Neutral.callOf [[11, (s : Int)]] = some (.switch (s : Int).toNat) := rfl
  unfold Rc90Neutral.step
  rw [e, Int.toNat_natCast]
  let E : Nat → Nat → Bool := fun u v => u != v && (ed rs u v != (s.testBit u != s.testBit v))
  have em : switchM rs s = dr rs.length E := by
    unfold switchM dr
    refine List.map_congr_left fun u hu => ?_
    have hu := List.mem_range.mp hu
    have hc : s &&& (2 ^ rs.length - 1) < 2 ^ rs.length := Nat.lt_of_le_of_lt Nat.and_le_right (ones_lt _)
    apply bits_ext
    · unfold swr
      split
      · exact Nat.xor_lt_two_pow (hG.rw_.getD u) (dif_lt (ones_lt _))
      · exact Nat.xor_lt_two_pow (hG.rw_.getD u) hc
    · exact msk_lt _ _
    · intro v hv
      rw [testBit_msk, decide_eq_true hv, Bool.true_and]
      have bu : ∀ x, x < rs.length → (s &&& (2 ^ rs.length - 1)).testBit x = s.testBit x := fun x hx => by
        rw [Nat.testBit_and, ones_bit, decide_eq_true hx, Bool.and_true]
      unfold swr
      rw [bu u hu]
      show _ = (u != v && (ed rs u v != (s.testBit u != s.testBit v)))
      by_cases q : u = v
      · subst q
        have hi : (rs.getD u 0).testBit u = false := hG.ir u
        split
        · rename_i h
          rw [Nat.testBit_xor, testBit_dif, hi, bu u hu, h]; simp
        · rename_i h
          rw [Nat.testBit_xor, hi, bu u hu]; simpa using h
      · have qb : (u != v) = true := by simp [q]
        rw [qb, Bool.true_and]
        show _ = ((rs.getD u 0).testBit v != _)
        split
        · rename_i h
          rw [Nat.testBit_xor, testBit_dif, ones_bit, decide_eq_true hv, bu v hv, h]
          cases (rs.getD u 0).testBit v <;> cases s.testBit v <;> rfl
        · rename_i h
          have h : s.testBit u = false := by simpa using h
          rw [Nat.testBit_xor, bu v hv, h]
          cases (rs.getD u 0).testBit v <;> cases s.testBit v <;> rfl
  rw [em]
  constructor
  · show (({ graph := Rc90.drawn rs.length E } : Rc90.Abs), [(0 : Int)]) = _
    rw [drawn_eq]
  · refine dr_gd hG.rw_.one hG.rw_.most (fun u v => ?_) (fun u => ?_)
    · show (u != v && (ed rs u v != (s.testBit u != s.testBit v))) = (v != u && (ed rs v u != (s.testBit v != s.testBit u)))
      have h : ed rs u v = ed rs v u := hG.sy u v
      rw [h, bne_comm (a := u)]
      cases s.testBit u <;> cases s.testBit v <;> rfl
    · show (u != u && _) = false
      simp
theorem step_turn {rs : List Nat} (hG : Gd rs) : Rc90Neutral.step (ab rs) [[12]] = (ab (turnM rs), [0]) ∧ Gd (turnM rs) := by
  have e : Rc90Neutral.callOf [[12]] = some .turn := rfl
  unfold Rc90Neutral.step
  rw [e]
  let E : Nat → Nat → Bool := fun u v => u != v && !ed rs u v
  have em : turnM rs = dr rs.length E := by
    unfold turnM dr
    refine List.map_congr_left fun u hu => ?_
    have hu := List.mem_range.mp hu
    apply bits_ext
    · exact Nat.xor_lt_two_pow (hG.rw_.getD u) (setb_lt hu (ones_lt _) 0)
    · exact msk_lt _ _
    · intro v hv
      rw [testBit_msk, decide_eq_true hv, Bool.true_and, Nat.testBit_xor, setb_bit, ones_bit, decide_eq_true hv]
      show _ = (u != v && !(rs.getD u 0).testBit v)
      by_cases q : u = v
      · subst q
        have hi : (rs.getD u 0).testBit u = false := hG.ir u
        rw [hi]; simp
      · rw [if_neg (fun z => q z.symm)]
        have qb : (u != v) = true := by simp [q]
        rw [qb]
        cases (rs.getD u 0).testBit v <;> rfl
  rw [em]
  constructor
  · show (({ graph := Rc90.drawn rs.length E } : Rc90.Abs), [(0 : Int)]) = _
    rw [drawn_eq]
  · refine dr_gd hG.rw_.one hG.rw_.most (fun u v => ?_) (fun u => ?_)
    · show (u != v && !ed rs u v) = (v != u && !ed rs v u)
      have h : ed rs u v = ed rs v u := hG.sy u v
      rw [h, bne_comm (a := u)]
    · show (u != u && _) = false
      simp
/-! ### odds -/
theorem step_odds {rs : List Nat} (hG : Gd rs) : Rc90Neutral.step (ab rs) [[13]] = (ab rs, [((oddsM rs : Nat) : Int)]) := by
  have e : Rc90Neutral.callOf [[13]] = some .odds := rfl
  unfold Rc90Neutral.step
  rw [e]
  show (ab rs, [((Rc90.odds (gr rs) : Nat) : Int)]) = _
  have : Rc90.odds (gr rs) = oddsM rs := by
    unfold Rc90.odds oddsM
    show ((List.range rs.length).map _).sum = _
    congr 1
    refine List.map_congr_left fun w hw => ?_
    have hw := List.mem_range.mp hw
    congr 1
    refine List.map_congr_left fun v hv => ?_
    have hv := List.mem_range.mp hv
    unfold oddM
    have l1 : odw rs w v &&& (2 ^ v - 1) < 2 ^ v := Nat.lt_of_le_of_lt Nat.and_le_right (ones_lt _)
    have l2 : odw rs w v &&& (2 ^ v - 1) < 2 ^ rs.length := Nat.lt_of_le_of_lt Nat.and_le_left (odw_lt hG.rw_ w v)
    rw [pc_eq l2 l1, ← pc_cnt]
    congr 1
    refine List.filter_congr fun u hu => ?_
    have hu := List.mem_range.mp hu
    rw [Nat.testBit_and, ones_bit, decide_eq_true hu, Bool.and_true]
    have s1 : ed rs u v = ed rs v u := hG.sy u v
    have s2 : ed rs v w = ed rs w v := hG.sy v w
    have s3 : ed rs u w = ed rs w u := hG.sy u w
    show (ed rs u v != (ed rs v w != ed rs u w)) = _
    rw [s1, s2, s3]
    unfold odw
    show _ = Nat.testBit (if ed rs w v = true then dif (2 ^ rs.length - 1) (rs.getD w 0 ^^^ rs.getD v 0) else rs.getD w 0 ^^^ rs.getD v 0) u
    by_cases q : ed rs w v = true
    · rw [if_pos q, testBit_dif, ones_bit, decide_eq_true (show u < rs.length by omega), Nat.testBit_xor, q]
      show _ = (true && !(ed rs w u ^^ ed rs v u))
      cases ed rs w u <;> cases ed rs v u <;> rfl
    · have q : ed rs w v = false := by simpa using q
      rw [q, if_neg (by simp), Nat.testBit_xor]
      show _ = (ed rs w u ^^ ed rs v u)
      cases ed rs w u <;> cases ed rs v u <;> rfl
  rw [this]
end Fg
end
section
set_option linter.all false
namespace Fg
/-! ### pass -/
theorem sq_lt {a b : Nat} (h : a < b) : a * a < b * b := Nat.mul_lt_mul_of_lt_of_lt h h
theorem sq_le {a b : Nat} (h : a ≤ b) : a * a ≤ b * b := Nat.mul_le_mul h h
theorem root_eq {z : Int} {d : Nat} (h : RootIs z d) : Rc90.root z = if 0 ≤ z ∧ (d : Int) * d = z then some d else none := by
  unfold Rc90.root
  rcases h with ⟨h1, h2⟩ | ⟨h1, h2, h3⟩
  · rw [if_pos h1, if_neg (by omega)]
  · rw [if_neg (by omega)]
    obtain ⟨n, rfl⟩ : ∃ n : Nat, z = n := ⟨z.toNat, by omega⟩
    rw [Int.toNat_natCast]
    have h2' : d * d ≤ n := by
      have : ((d * d : Nat) : Int) ≤ n := by simpa using h2
      omega
    have h3' : n < (d + 1) * (d + 1) := by
      have : (n : Int) < (((d + 1) * (d + 1) : Nat) : Int) := by simpa using h3
      omega
    by_cases q : d * d = n
    · rw [if_pos ⟨h1, by rw [← q]; simp⟩]
      refine find_range ?_ (by simp [q]) fun i hi => ?_
      · rcases Nat.eq_zero_or_pos d with e | e
        · omega
        · have : d * 1 ≤ d * d := Nat.mul_le_mul_left d e
          omega
      · have := sq_lt hi
        simp; omega
    · rw [if_neg (fun z => q (by
        have : ((d * d : Nat) : Int) = n := by simpa using z.2
        omega))]
      rw [List.find?_eq_none]
      intro i _ hi
      have hi : i * i = n := by simpa using hi
      rcases Nat.lt_or_ge d i with e | e
      · have := sq_le (show d + 1 ≤ i from e)
        omega
      · have := sq_le e
        omega
theorem rng_eq (n k l m : Int) : (Rc90.between n 1 Rc90.HIGH && (Rc90.between k 0 Rc90.HIGH && (Rc90.between l 0 Rc90.HIGH && Rc90.between m 0 Rc90.HIGH))) = rngM n k l m := by
  rw [Bool.eq_iff_iff, rng_iff]
  unfold Rc90.between Rc90.HIGH
  rw [Bool.and_eq_true, Bool.and_eq_true, Bool.and_eq_true, Bool.and_eq_true, Bool.and_eq_true, Bool.and_eq_true, Bool.and_eq_true, decide_eq_true_eq, decide_eq_true_eq, decide_eq_true_eq, decide_eq_true_eq, decide_eq_true_eq, decide_eq_true_eq, decide_eq_true_eq, decide_eq_true_eq]
  constructor
  · rintro ⟨⟨a, b⟩, ⟨c, f⟩, ⟨d, g⟩, e, h⟩
    exact ⟨⟨a, b⟩, ⟨c, d, e⟩, f, g, h⟩
  · rintro ⟨⟨a, b⟩, ⟨c, d, e⟩, f, g, h⟩
    exact ⟨⟨a, b⟩, ⟨c, f⟩, ⟨d, g⟩, e, h⟩
theorem pass_eq {n k l m d : Nat} (h : RootIs (sqM k l m) d) : Rc90.pass ⟨n, k, l, m⟩ = passB n k l m d := by
  have e0 : Rc90.pass ⟨n, k, l, m⟩ = ((decide ((0 : Int) < k) && (decide ((k : Int) + 1 < n) && (k : Int) * (k - l - 1) == ((n : Int) - k - 1) * m)) && (eM n k l m == 0 || (match Rc90.root (sqM k l m) with
    | some d => decide (0 < d) && (eM n k l m % (d : Int) == 0 && ((n : Int) - 1 - eM n k l m / (d : Int)) % 2 == 0)
    | none => false))) := rfl
  rw [e0]
  unfold passB
  have e1 : (!(decide ((k : Int) < 1) || decide ((n : Int) - 2 < k))) = (decide ((0 : Int) < k) && decide ((k : Int) + 1 < n)) := by
    rw [Bool.eq_iff_iff]
    simp only [Bool.not_eq_true', Bool.or_eq_false_iff, decide_eq_false_iff_not, Bool.and_eq_true, decide_eq_true_eq]
    omega
  rw [e1, ← Bool.and_assoc (decide ((0 : Int) < k)), Bool.and_assoc, Bool.and_assoc]
  have e2 : (eM n k l m == 0 || (match Rc90.root (sqM k l m) with
    | some d => decide (0 < d) && (eM n k l m % (d : Int) == 0 && ((n : Int) - 1 - eM n k l m / (d : Int)) % 2 == 0)
    | none => false)) = evM n k l m d := by
    unfold evM
    congr 1
    rw [root_eq h]
    by_cases q : 0 ≤ sqM k l m ∧ (d : Int) * d = sqM k l m
    · rw [if_pos q]
      have : ((d : Int) * d == sqM k l m) = true := by simp [q.2]
      rw [this, Bool.true_and]
      show (decide (0 < d) && _) = _
      congr 1
      rw [Bool.eq_iff_iff]; simp; omega
    · rw [if_neg q]
      show false = _
      by_cases q2 : (d : Int) * d = sqM k l m
      · exfalso
        apply q
        refine ⟨?_, q2⟩
        rw [← q2]
        exact Int.mul_nonneg (by omega) (by omega)
      · have : ((d : Int) * d == sqM k l m) = false := by simp [q2]
        rw [this]; simp
  rw [e2, Bool.and_assoc (decide ((0 : Int) < k))]
theorem step_pass (rs : List Nat) (n k l m : Int) {d : Nat} (h : RootIs (sqM k l m) d) : Rc90Neutral.step (ab rs) [[7, n, k, l, m]] = (ab rs, passA n k l m d) := by
  have e : Rc90.does (ab rs) (.pass n k l m) = (if (Rc90.between n 1 Rc90.HIGH && (Rc90.between k 0 Rc90.HIGH && (Rc90.between l 0 Rc90.HIGH && Rc90.between m 0 Rc90.HIGH))) = false then (ab rs, Rc90.refused) else (ab rs, { value := (Rc90.bit (Rc90.pass ⟨n.toNat, k.toNat, l.toNat, m.toNat⟩) : Nat) })) := rfl
  rw [stp rfl e]
  unfold passA
  rw [rng_eq]
  cases q : rngM n k l m with
  | false => rfl
  | true =>
    obtain ⟨n1, n2, k1, k2, l1, l2, m1, m2⟩ := rng_of q
    obtain ⟨n, rfl⟩ : ∃ a : Nat, n = a := ⟨n.toNat, by omega⟩
    obtain ⟨k, rfl⟩ : ∃ a : Nat, k = a := ⟨k.toNat, by omega⟩
    obtain ⟨l, rfl⟩ : ∃ a : Nat, l = a := ⟨l.toNat, by omega⟩
    obtain ⟨m, rfl⟩ : ∃ a : Nat, m = a := ⟨m.toNat, by omega⟩
    simp only [if_true, if_neg (show ¬ (true = false) by simp), Int.toNat_natCast]
    rw [pass_eq h]
    cases passB n k l m d <;> rfl
/-! ### strong -/
theorem cm_sy (rs : List Nat) (u v : Nat) : cmM rs u v = cmM rs v u := by
  unfold cmM; rw [Nat.and_comm]
theorem alw_some {rs : List Nat} (hs : Sy rs) {on : Bool} {c : Nat} (h : AlwIs rs on (some c)) : (∃ u v, u < rs.length ∧ v < rs.length ∧ u ≠ v ∧ ed rs u v = on ∧ cmM rs u v = c) ∧ ∀ u v, u < rs.length → v < rs.length → u ≠ v → ed rs u v = on → cmM rs u v = c := by
  obtain ⟨⟨u, v, h1, h2, h3, h4⟩, h5⟩ := h
  refine ⟨⟨u, v, h2, by omega, by omega, h3, h4⟩, fun a b ha hb hab he => ?_⟩
  rcases Nat.lt_or_ge b a with q | q
  · exact h5 a b q ha he
  · rw [cm_sy]
    refine h5 b a (by omega) hb ?_
    rw [hs b a]; exact he
theorem alw_none {rs : List Nat} (hs : Sy rs) {on : Bool} (h : AlwIs rs on none) {c : Nat} (hall : ∀ u v, u < rs.length → v < rs.length → u ≠ v → ed rs u v = on → cmM rs u v = c) : ∀ u v, u < rs.length → v < rs.length → u ≠ v → ed rs u v ≠ on := by
  rcases h with h | ⟨u, v, a, b, h1, h2, h3, h4, h5, h6, h7⟩
  · intro u v hu hv huv he
    rcases Nat.lt_or_ge v u with q | q
    · exact h u v q hu he
    · refine h v u (by omega) hv ?_
      rw [hs v u]; exact he
  · exfalso
    apply h7
    rw [hall u v h2 (by omega) (by omega) h3, hall a b h5 (by omega) (by omega) h6]
theorem strong_iff (rs : List Nat) (k l m : Nat) : Rc90.strong (gr rs) ⟨rs.length, k, l, m⟩ = true ↔ (0 < k ∧ k + 1 < rs.length) ∧ ∀ u, u < rs.length → pc rs.length (rs.getD u 0) = k ∧ ∀ v, v < rs.length → u ≠ v → cmM rs u v = if ed rs u v = true then l else m := by
  unfold Rc90.strong
  rw [Bool.and_eq_true]
  show ((rs.length == rs.length && (decide (0 < k) && decide (k + 1 < rs.length))) = true ∧ _) ↔ _
  rw [beq_self_eq_true, Bool.true_and, Bool.and_eq_true, decide_eq_true_eq, decide_eq_true_eq, List.all_eq_true]
  constructor
  · rintro ⟨h1, h2⟩
    refine ⟨h1, fun u hu => ?_⟩
    have q := h2 u (List.mem_range.mpr hu)
    rw [Bool.and_eq_true, List.all_eq_true] at q
    refine ⟨by rw [← near_eq]; exact eq_of_beq q.1, fun v hv huv => ?_⟩
    have p := q.2 v (List.mem_range.mpr hv)
    rw [Bool.or_eq_true] at p
    rcases p with p | p
    · exact absurd (eq_of_beq p) huv
    · rw [← common_eq]; exact eq_of_beq p
  · rintro ⟨h1, h2⟩
    refine ⟨h1, fun u hu => ?_⟩
    obtain ⟨q1, q2⟩ := h2 u (List.mem_range.mp hu)
    rw [Bool.and_eq_true, List.all_eq_true]
    refine ⟨by rw [near_eq, q1]; exact beq_self_eq_true _, fun v hv => ?_⟩
    rw [Bool.or_eq_true]
    by_cases e : u = v
    · exact .inl (by rw [e]; exact beq_self_eq_true _)
    · refine .inr ?_
      rw [common_eq, q2 v (List.mem_range.mp hv) e]
      exact beq_self_eq_true _
theorem all_get {rs : List Nat} {p : Nat → Bool} : rs.all p = true ↔ ∀ u, u < rs.length → p (rs.getD u 0) = true := by
  rw [List.all_eq_true]
  constructor
  · intro h u hu
    exact h _ (List.mem_of_getElem? (get_of_lt hu))
  · intro h r hr
    obtain ⟨i, hi, rfl⟩ := List.getElem_of_mem hr
    have := h i hi
    rw [List.getD_eq_getElem?_getD, List.getElem?_eq_getElem hi] at this
    exact this
theorem strongA_no {rs : List Nat} {x y : Option Nat} (h : x = none ∨ y = none) : strongA rs x y = [-2] := by
  unfold strongA
  split
  · rfl
  · rcases h with h | h
    · subst h; rfl
    · subst h; cases x <;> rfl
theorem step_strong {rs : List Nat} (hG : Gd rs) {x y : Option Nat} (hx : AlwIs rs true x) (hy : AlwIs rs false y) : Rc90Neutral.step (ab rs) [[6]] = (ab rs, strongA rs x y) := by
  have e : Rc90.does (ab rs) .strong = (match Rc90.numbers (gr rs) with
    | some x => (ab rs, { value := 1, numbers := [x.n, x.k, x.l, x.m] })
    | none => (ab rs, { value := -2 })) := rfl
  rw [stp rfl e]
  let E := (List.range rs.length).flatMap fun u => (List.range rs.length).map fun v => (u, v)
  have mE : ∀ u v, (u, v) ∈ E ↔ u < rs.length ∧ v < rs.length := fun u v => by
    constructor
    · intro h
      obtain ⟨a, ha, h⟩ := List.mem_flatMap.mp h
      obtain ⟨b, hb, h⟩ := List.mem_map.mp h
      cases h
      exact ⟨List.mem_range.mp ha, List.mem_range.mp hb⟩
    · rintro ⟨h1, h2⟩
      exact List.mem_flatMap.mpr ⟨u, List.mem_range.mpr h1, List.mem_map.mpr ⟨v, List.mem_range.mpr h2, rfl⟩⟩
  have en : Rc90.numbers (gr rs) = (match E.find? (fun x => ed rs x.1 x.2), E.find? (fun x => x.1 != x.2 && !ed rs x.1 x.2) with
    | some a, some b => if Rc90.strong (gr rs) ⟨rs.length, Rc90.near (gr rs) 0, Rc90.common (gr rs) a.1 a.2, Rc90.common (gr rs) b.1 b.2⟩ = true then some ⟨rs.length, Rc90.near (gr rs) 0, Rc90.common (gr rs) a.1 a.2, Rc90.common (gr rs) b.1 b.2⟩ else none
    | _, _ => none) := rfl
  rw [en]
  have irr : ∀ u v, ed rs u v = true → u ≠ v := fun u v h z => by
    subst z
    have := hG.ir u
    unfold ed at h
    rw [this] at h; cases h
  cases h1 : E.find? (fun x => ed rs x.1 x.2) with
  | none =>
    have no : x = none := by
      cases x with
      | none => rfl
      | some c =>
        obtain ⟨⟨u, v, hu, hv, _, he, _⟩, _⟩ := alw_some hG.sy hx
        exact absurd he (List.find?_eq_none.mp h1 (u, v) ((mE u v).mpr ⟨hu, hv⟩))
    rw [strongA_no (.inl no)]
    rfl
  | some a =>
    obtain ⟨a1, a2⟩ := a
    have ha : ed rs a1 a2 = true := List.find?_some (p := fun x : Nat × Nat => ed rs x.1 x.2) h1
    obtain ⟨la1, la2⟩ := (mE a1 a2).mp (List.mem_of_find?_eq_some h1)
    cases h2 : E.find? (fun x => x.1 != x.2 && !ed rs x.1 x.2) with
    | none =>
      have no : y = none := by
        cases y with
        | none => rfl
        | some c =>
          obtain ⟨⟨u, v, hu, hv, huv, he, _⟩, _⟩ := alw_some hG.sy hy
          exfalso
          apply List.find?_eq_none.mp h2 (u, v) ((mE u v).mpr ⟨hu, hv⟩)
          show (u != v && !ed rs u v) = true
          rw [he]; simp [huv]
      rw [strongA_no (.inr no)]
      rfl
    | some b =>
      obtain ⟨b1, b2⟩ := b
      have hb : (b1 != b2 && !ed rs b1 b2) = true := List.find?_some (p := fun x : Nat × Nat => x.1 != x.2 && !ed rs x.1 x.2) h2
      rw [Bool.and_eq_true] at hb
      have hbne : b1 ≠ b2 := by simpa using hb.1
      have hb := notT hb.2
      obtain ⟨lb1, lb2⟩ := (mE b1 b2).mp (List.mem_of_find?_eq_some h2)
      dsimp only
      rw [near_eq, common_eq, common_eq]
      cases h3 : Rc90.strong (gr rs) ⟨rs.length, pc rs.length (rs.getD 0 0), cmM rs a1 a2, cmM rs b1 b2⟩ with
      | true =>
        rw [if_pos rfl]
        obtain ⟨⟨k1, k2⟩, hall⟩ := (strong_iff _ _ _ _).mp h3
        have allT : ∀ u v, u < rs.length → v < rs.length → u ≠ v → ed rs u v = true → cmM rs u v = cmM rs a1 a2 := fun u v hu hv huv he => by
          have := (hall u hu).2 v hv huv
          rw [if_pos he] at this; exact this
        have allF : ∀ u v, u < rs.length → v < rs.length → u ≠ v → ed rs u v = false → cmM rs u v = cmM rs b1 b2 := fun u v hu hv huv he => by
          have := (hall u hu).2 v hv huv
          rw [he, if_neg (by simp)] at this; exact this
        have ex : x = some (cmM rs a1 a2) := by
          cases x with
          | none => exact absurd ha (alw_none hG.sy hx allT a1 a2 la1 la2 (irr _ _ ha))
          | some c => rw [(alw_some hG.sy hx).2 a1 a2 la1 la2 (irr _ _ ha) ha]
        have ey : y = some (cmM rs b1 b2) := by
          cases y with
          | none => exact absurd hb (alw_none hG.sy hy allF b1 b2 lb1 lb2 hbne)
          | some c => rw [(alw_some hG.sy hy).2 b1 b2 lb1 lb2 hbne hb]
        subst ex ey
        have hc : (rs.all fun r => pc rs.length r == pc rs.length (rs.getD 0 0)) = true := all_get.mpr fun u hu => by rw [(hall u hu).1]; exact beq_self_eq_true _
        unfold strongA
        rw [hc, if_neg (by rw [Bool.or_eq_true, Bool.or_eq_true, decide_eq_true_eq, decide_eq_true_eq]; rintro (z | z | z); omega; omega; exact absurd z (by decide))]
        rfl
      | false =>
        rw [if_neg (by simp)]
        show (ab rs, [(-2 : Int)]) = _
        unfold strongA
        split
        · rfl
        · rename_i hc
          have hc : 1 ≤ pc rs.length (rs.getD 0 0) ∧ pc rs.length (rs.getD 0 0) + 2 ≤ rs.length ∧ (rs.all fun r => pc rs.length r == pc rs.length (rs.getD 0 0)) = true := by
            simp only [Bool.or_eq_true, decide_eq_true_eq, not_or] at hc
            refine ⟨by omega, by omega, ?_⟩
            cases q : (rs.all fun r => pc rs.length r == pc rs.length (rs.getD 0 0)) with
            | true => rfl
            | false => rw [q] at hc; simp at hc
          cases x with
          | none => rfl
          | some c =>
            cases y with
            | none => rfl
            | some d =>
              exfalso
              have hT := (alw_some hG.sy hx).2
              have hF := (alw_some hG.sy hy).2
              have : Rc90.strong (gr rs) ⟨rs.length, pc rs.length (rs.getD 0 0), cmM rs a1 a2, cmM rs b1 b2⟩ = true := by
                rw [strong_iff]
                refine ⟨by omega, fun u hu => ⟨eq_of_beq (all_get.mp hc.2.2 u hu), fun v hv huv => ?_⟩⟩
                cases q : ed rs u v with
                | true => rw [if_pos rfl, hT u v hu hv huv q, hT a1 a2 la1 la2 (irr _ _ ha) ha]
                | false => rw [if_neg (by simp), hF u v hu hv huv q, hF b1 b2 lb1 lb2 hbne hb]
              rw [h3] at this; cases this
/-! ### a step -/
def callL (c : Int) (hs : List Int) : List (List Int) := if c = 3 then [[3, (hs.length : Int)], hs] else [c :: hs]
theorem rowA_len (rs : List Nat) (u : Int) : (rowA rs u).length ≤ 5 := by unfold rowA; split <;> simp
theorem step_ok {rs : List Nat} (hG : Gd rs) {c : Int} {hs : List Int} {rs' : List Nat} {ans : List Int} (h : StepIs rs c hs rs' ans) : Rc90Neutral.step (ab rs) (callL c hs) = (ab rs', ans) ∧ Gd rs' ∧ ans.length ≤ 5 := by
  cases h with
  | begin => exact ⟨step_begin rs, gd_one, by decide⟩
  | size n => exact ⟨step_size rs n, gd_size hG n, by unfold sizeA; split <;> decide⟩
  | edge u v on => exact ⟨(step_edge hG u v on).1, (step_edge hG u v on).2, by unfold edgeA; split <;> decide⟩
  | rows ls =>
    refine ⟨?_, (step_rows hG ls).2, by unfold rowsA; split <;> decide⟩
    have := (step_rows hG ls).1
    unfold callL
    rw [if_pos rfl, List.length_map]
    exact this
  | row u => exact ⟨step_row rs u, hG, by unfold rowA; split <;> simp⟩
  | common u v => exact ⟨step_common rs u v, hG, by unfold commonA; split <;> simp⟩
  | strong hx hy => exact ⟨step_strong hG hx hy, hG, by unfold strongA; split; decide; split <;> simp⟩
  | pass n k l m hd => exact ⟨step_pass rs n k l m hd, hG, by unfold passA; split; (split <;> decide); decide⟩
  | far u v => exact ⟨step_far hG.rw_ u v, hG, by unfold farA; split <;> simp⟩
  | wide => exact ⟨step_wide hG.rw_, hG, by simp⟩
  | girth => exact ⟨step_girth hG, hG, by simp⟩
  | switch s => exact ⟨(step_switch hG s).1, (step_switch hG s).2, by simp⟩
  | turn => exact ⟨(step_turn hG).1, (step_turn hG).2, by simp⟩
  | odds => exact ⟨step_odds hG, hG, by simp⟩
/-! ### the calls of a list -/
theorem calls_gen {n f : Nat} {p : Int} {r : List Int} {cs : List (List (List Int))} (hsh : PyRc90.shape p = some (n, 0)) (h : PyFlat.calls PyRc90.shape (f + 1) (p :: r) = some cs) : n ≤ r.length ∧ ∃ cs', cs = [p :: r.take n] :: cs' ∧ PyFlat.calls PyRc90.shape f (r.drop n) = some cs' := by
  unfold PyFlat.calls PyFlat.call at h
  dsimp only at h
  rw [hsh] at h
  dsimp only at h
  by_cases q : r.length < n
  · rw [if_pos q] at h; cases h
  · rw [if_neg q, show PyFlat.rows 0 (r.drop n) = some ([], r.drop n) from rfl] at h
    dsimp only at h
    cases hc : PyFlat.calls PyRc90.shape f (r.drop n) with
    | none => rw [hc] at h; cases h
    | some cs' =>
      rw [hc] at h
      exact ⟨by omega, cs', (Option.some.inj h).symm, rfl⟩
theorem calls_row {f : Nat} {r : List Int} {cs : List (List (List Int))} (h : PyFlat.calls PyRc90.shape (f + 1) (3 :: r) = some cs) : ∃ (v : Nat) (r2 : List Int) (cs' : List (List (List Int))), r = (v : Int) :: r2 ∧ v ≤ r2.length ∧ cs = [[3], r2.take v] :: cs' ∧ PyFlat.calls PyRc90.shape f (r2.drop v) = some cs' := by
  unfold PyFlat.calls PyFlat.call at h
  dsimp only at h
  rw [show PyRc90.shape 3 = some (0, 1) from rfl] at h
  dsimp only at h
  rw [if_neg (by omega), List.drop_zero] at h
  cases r with
  | nil => cases h
  | cons n r2 =>
    rw [show PyFlat.rows 1 (n :: r2) = (match PyFlat.row (n :: r2) with | none => none | some (x, s) => some ([x], s)) from rfl, show PyFlat.row (n :: r2) = if 0 ≤ n ∧ n.toNat ≤ r2.length then some (r2.take n.toNat, r2.drop n.toNat) else none from rfl] at h
    by_cases q : 0 ≤ n ∧ n.toNat ≤ r2.length
    · rw [if_pos q] at h
      dsimp only at h
      cases hc : PyFlat.calls PyRc90.shape f (r2.drop n.toNat) with
      | none => rw [hc] at h; cases h
      | some cs' =>
        rw [hc] at h
        exact ⟨n.toNat, r2, cs', by rw [Int.toNat_of_nonneg q.1], q.2, (Option.some.inj h).symm, hc⟩
    · rw [if_neg q] at h; cases h
theorem shape_dom {p : Int} {x : Nat × Nat} (h : PyRc90.shape p = some x) : p = 0 ∨ p = 1 ∨ p = 2 ∨ p = 3 ∨ p = 4 ∨ p = 5 ∨ p = 6 ∨ p = 7 ∨ p = 8 ∨ p = 9 ∨ p = 10 ∨ p = 11 ∨ p = 12 ∨ p = 13 := by
  apply Classical.byContradiction
  intro q
  simp only [not_or] at q
  obtain ⟨q0, q1, q2, q3, q4, q5, q6, q7, q8, q9, q10, q11, q12, q13⟩ := q
  unfold PyRc90.shape at h
  rw [if_neg q0, if_neg q1, if_neg q2, if_neg q3, if_neg q4, if_neg q5, if_neg q6, if_neg q7, if_neg q8, if_neg q9, if_neg q10, if_neg q11, if_neg q12, if_neg q13] at h
  cases h
theorem calls_shape {f : Nat} {p : Int} {r : List Int} {cs : List (List (List Int))} (h : PyFlat.calls PyRc90.shape f (p :: r) = some cs) : (∃ g, f = g + 1) ∧ ∃ x, PyRc90.shape p = some x := by
  cases f with
  | zero => cases h
  | succ f =>
    refine ⟨⟨f, rfl⟩, ?_⟩
    cases q : PyRc90.shape p with
    | some x => exact ⟨x, rfl⟩
    | none =>
      unfold PyFlat.calls PyFlat.call at h
      dsimp only at h
      rw [q] at h
      cases h
/-- one call of a list: its number, what it hands over, the rest -/
structure One (p : Int) (r : List Int) (f : Nat) (cs : List (List (List Int))) (v : Nat) (hs t : List Int) (cs' : List (List (List Int))) : Prop where
  len : hs.length = v
  shp : Shp p hs
  put : cs.map PyRc90.whole = callL p hs :: cs'.map PyRc90.whole
  rest : PyFlat.calls PyRc90.shape f t = some cs'
  isrow : p = 3 → ∃ r2, r = (v : Int) :: r2 ∧ hs = r2.take v ∧ t = r2.drop v ∧ v ≤ r2.length
  other : p ≠ 3 → hndT.lookup p = some (v : Int) ∧ hs = r.take v ∧ t = r.drop v ∧ v ≤ r.length
theorem one_gen {f n : Nat} {p : Int} {r : List Int} {cs : List (List (List Int))} (h : PyFlat.calls PyRc90.shape (f + 1) (p :: r) = some cs) (hsh : PyRc90.shape p = some (n, 0)) (hp : p ≠ 3) (hl : hndT.lookup p = some (n : Int))
    (hw : n ≤ r.length → Rc90Neutral.asked1 (PyRc90.whole [p :: r.take n]) = true → PyRc90.whole [p :: r.take n] = [p :: r.take n] ∧ Shp p (r.take n)) (ha : (cs.map PyRc90.whole).all Rc90Neutral.asked1 = true) : ∃ v hs t cs', One p r f cs v hs t cs' := by
  obtain ⟨hn, cs', rfl, hc⟩ := calls_gen hsh h
  rw [List.map_cons, List.all_cons, Bool.and_eq_true] at ha
  obtain ⟨w1, w2⟩ := hw hn ha.1
  refine ⟨n, r.take n, r.drop n, cs', ⟨by rw [List.length_take]; omega, w2, ?_, hc, fun e => absurd e hp, fun _ => ⟨hl, rfl, rfl, hn⟩⟩⟩
  rw [List.map_cons, w1]
  unfold callL
  rw [if_neg hp]
theorem nat_of {hs : List Int} (h : (hs.all fun z => Rc90Neutral.natural z 64) = true) : ∃ ls : List Nat, hs = ls.map fun (r : Nat) => (r : Int) := by
  refine ⟨hs.map Int.toNat, ?_⟩
  rw [List.map_map]
  conv => lhs; rw [← List.map_id hs]
  refine List.map_congr_left fun z hz => ?_
  have := List.all_eq_true.mp h z hz
  unfold Rc90Neutral.natural at this
  rw [Bool.and_eq_true] at this
  have := of_decide_eq_true this.1
  show z = ((z.toNat : Nat) : Int)
  omega
theorem one_of {f : Nat} {p : Int} {r : List Int} {cs : List (List (List Int))} (h : PyFlat.calls PyRc90.shape f (p :: r) = some cs) (ha : (cs.map PyRc90.whole).all Rc90Neutral.asked1 = true) : ∃ g v hs t cs', One p r g cs v hs t cs' := by
  obtain ⟨⟨f, rfl⟩, x, hx⟩ := calls_shape h
  refine ⟨f, ?_⟩
  rcases shape_dom hx with rfl | rfl | rfl | rfl | rfl | rfl | rfl | rfl | rfl | rfl | rfl | rfl | rfl | rfl
  · exact one_gen h rfl (by decide) rfl (fun _ _ => ⟨rfl, .begin⟩) ha
  · exact one_gen h rfl (by decide) rfl (fun hn _ => by
      match r, hn with
      | a :: r, _ => exact ⟨rfl, .size a⟩) ha
  · exact one_gen h rfl (by decide) rfl (fun hn _ => by
      match r, hn with
      | a :: b :: c :: r, _ => exact ⟨rfl, .edge a b c⟩) ha
  · obtain ⟨v, r2, cs', rfl, hv, rfl, hc⟩ := calls_row h
    rw [List.map_cons, List.all_cons, Bool.and_eq_true] at ha
    have hl : (r2.take v).length = v := by rw [List.length_take]; omega
    have ew : PyRc90.whole [[3], r2.take v] = [[3, ((r2.take v).length : Int)], r2.take v] := rfl
    refine ⟨v, r2.take v, r2.drop v, cs', ⟨hl, ?_, ?_, hc, fun _ => ⟨r2, rfl, rfl, rfl, hv⟩, fun q => absurd rfl q⟩⟩
    · have ha1 := ha.1
      rw [ew] at ha1
      have ha2 : (((r2.take v).all (fun z => Rc90Neutral.natural z 64) && Rc90Neutral.long (r2.take v) ((r2.take v).length : Int) 1 64) && Rc90Neutral.whole32 ((r2.take v).length : Int)) = true := ha1
      rw [Bool.and_eq_true, Bool.and_eq_true] at ha2
      obtain ⟨ls, e⟩ := nat_of ha2.1.1
      rw [e]
      exact .rows ls
    · rw [List.map_cons, ew]
      unfold callL
      rw [if_pos rfl]
  · exact one_gen h rfl (by decide) rfl (fun hn _ => by
      match r, hn with
      | a :: r, _ => exact ⟨rfl, .row a⟩) ha
  · exact one_gen h rfl (by decide) rfl (fun hn _ => by
      match r, hn with
      | a :: b :: r, _ => exact ⟨rfl, .common a b⟩) ha
  · exact one_gen h rfl (by decide) rfl (fun _ _ => ⟨rfl, .strong⟩) ha
  · exact one_gen h rfl (by decide) rfl (fun hn _ => by
      match r, hn with
      | a :: b :: c :: d :: r, _ => exact ⟨rfl, .pass a b c d⟩) ha
  · exact one_gen h rfl (by decide) rfl (fun hn _ => by
      match r, hn with
      | a :: b :: r, _ => exact ⟨rfl, .far a b⟩) ha
  · exact one_gen h rfl (by decide) rfl (fun _ _ => ⟨rfl, .wide⟩) ha
  · exact one_gen h rfl (by decide) rfl (fun _ _ => ⟨rfl, .girth⟩) ha
  · exact one_gen h rfl (by decide) rfl (fun hn q => by
      match r, hn, q with
      | a :: r, _, q =>
        have q : Rc90Neutral.natural a 64 = true := q
        unfold Rc90Neutral.natural at q
        rw [Bool.and_eq_true] at q
        have := of_decide_eq_true q.1
        refine ⟨rfl, ?_⟩
        show Shp 11 [a]
        have e : a = ((a.toNat : Nat) : Int) := by omega
        rw [e]
        exact .switch a.toNat) ha
  · exact one_gen h rfl (by decide) rfl (fun _ _ => ⟨rfl, .turn⟩) ha
  · exact one_gen h rfl (by decide) rfl (fun _ _ => ⟨rfl, .odds⟩) ha
/-- what the loop has, and what is still to come -/
structure LInv (L : List Int) (at_ : Nat) (rs : List Nat) (acc : List Int) : Prop where
  gd : Gd rs
  rest : ∃ f cs, PyFlat.calls PyRc90.shape f (L.drop at_) = some cs ∧ (cs.map PyRc90.whole).all Rc90Neutral.asked1 = true ∧ acc ++ PyFlat.told (PyFlat.played Rc90Neutral.step (ab rs) (cs.map PyRc90.whole)) = PyRc90.answers L
  len : acc.length ≤ 6 * at_
theorem inv_start {L : List Int} (h : PyRc90.answers_asked L = true) : LInv L 0 [0] [] := by
  unfold PyRc90.answers_asked at h
  cases q : PyRc90.calls L with
  | none => rw [q] at h; cases h
  | some cs0 =>
    rw [q] at h
    have h : (PyFlat.atMost 300 cs0 && Rc90Neutral.asked cs0) = true := h
    rw [Bool.and_eq_true] at h
    have ha := h.2
    unfold Rc90Neutral.asked at ha
    rw [Bool.and_eq_true] at ha
    have q0 := q
    unfold PyRc90.calls at q
    cases z : PyFlat.calls PyRc90.shape L.length L with
    | none => rw [z] at q; cases q
    | some cs =>
      rw [z] at q
      have q : cs.map PyRc90.whole = cs0 := Option.some.inj q
      refine ⟨gd_one, ⟨L.length, cs, z, by rw [q]; exact ha.1, ?_⟩, by simp⟩
      unfold PyRc90.answers
      rw [q0, q, List.nil_append]
      rfl
theorem inv_end {L : List Int} {at_ : Nat} {rs : List Nat} {acc : List Int} (h : LInv L at_ rs acc) (he : L.length ≤ at_) : acc = PyRc90.answers L := by
  obtain ⟨f, cs, h1, _, h3⟩ := h.rest
  rw [List.drop_eq_nil_of_le he] at h1
  have e : cs = [] := by
    cases f <;> exact (Option.some.inj h1).symm
  subst e
  rw [← h3]
  exact (List.append_nil acc).symm
/-- a turn of the loop: the call, what it hands over, and where the next one stands -/
theorem inv_step {L : List Int} {at_ : Nat} {rs : List Nat} {acc : List Int} (h : LInv L at_ rs acc) (hat : at_ < L.length) : ∃ (c : Int) (v : Nat) (hs : List Int), L[at_]? = some c ∧ (c = 3 → L[at_ + 1]? = some (v : Int)) ∧ (c ≠ 3 → hndT.lookup c = some (v : Int)) ∧ hs.length = v ∧ hs = (L.drop (fromM c at_)).take v ∧ fromM c at_ + v ≤ L.length ∧ Shp c hs ∧
    ∀ rs' ans, StepIs rs c hs rs' ans → ans.length ≤ 5 ∧ LInv L (fromM c at_ + v) rs' (acc ++ (ans.length : Int) :: ans) := by
  obtain ⟨f, cs, h1, h2, h3⟩ := h.rest
  have hd : L.drop at_ = L[at_] :: L.drop (at_ + 1) := List.drop_eq_getElem_cons hat
  rw [hd] at h1
  obtain ⟨g, v, hs, t, cs', o⟩ := one_of h1 h2
  have hput := o.put
  have ht : t = L.drop (fromM L[at_] at_ + v) ∧ hs = (L.drop (fromM L[at_] at_)).take v ∧ fromM L[at_] at_ + v ≤ L.length ∧ (L[at_] = 3 → L[at_ + 1]? = some (v : Int)) ∧ (L[at_] ≠ 3 → hndT.lookup L[at_] = some (v : Int)) := by
    by_cases e : L[at_] = 3
    · obtain ⟨r2, e1, e2, e3, e4⟩ := o.isrow e
      have e5 : L.drop (at_ + 2) = r2 := by
        rw [← List.drop_drop (i := 1) (j := at_ + 1), e1]; rfl
      have hlen : (L.drop (at_ + 1)).length = r2.length + 1 := by rw [e1]; rfl
      rw [List.length_drop] at hlen
      unfold fromM
      rw [if_pos e]
      refine ⟨?_, ?_, by omega, fun _ => ?_, fun q => absurd e q⟩
      · rw [e3, ← e5, List.drop_drop]
      · rw [e2, e5]
      · have : (L.drop (at_ + 1))[0]? = some (v : Int) := by rw [e1]; rfl
        rw [List.getElem?_drop] at this
        exact this
    · obtain ⟨e1, e2, e3, e4⟩ := o.other e
      rw [List.length_drop] at e4
      unfold fromM
      rw [if_neg e]
      refine ⟨?_, e2, by omega, fun q => absurd q e, fun _ => e1⟩
      rw [e3, List.drop_drop]
  obtain ⟨t1, t2, t3, t4, t5⟩ := ht
  refine ⟨L[at_], v, hs, List.getElem?_eq_getElem hat, t4, t5, o.len, t2, t3, o.shp, fun rs' ans hst => ?_⟩
  obtain ⟨s1, s2, s3⟩ := step_ok h.gd hst
  refine ⟨s3, s2, ⟨g, cs', ?_, ?_, ?_⟩, ?_⟩
  · rw [← t1]; exact o.rest
  · rw [o.put, List.all_cons, Bool.and_eq_true] at h2
    exact h2.2
  · rw [← h3, o.put]
    show _ = acc ++ PyFlat.told ((Rc90Neutral.step (ab rs) (callL L[at_] hs)).2 :: PyFlat.played Rc90Neutral.step (Rc90Neutral.step (ab rs) (callL L[at_] hs)).1 (cs'.map PyRc90.whole))
    rw [s1]
    unfold PyFlat.told
    rw [List.flatMap_cons, List.append_assoc]
  · have := h.len
    have q : at_ + 1 ≤ fromM L[at_] at_ := by unfold fromM; split <;> omega
    rw [List.length_append, List.length_cons]
    omega
end Fg
end
section
set_option Elab.async false
set_option linter.all false
set_option maxRecDepth 100000
set_option maxHeartbeats 2000000
namespace Fg
open PySem PySem.Spec PyProof.Rows L2
open PySem.W (Codec)
/-! ### the text by places -/
def top (i : Nat) : Stmt := PySem.Challenge.pw_friendgraph_s01_answers.main.body.getD i (.Pass ⟨0, 0, 0, 0⟩)
abbrev meth (i : Nat) : Stmt := inClass (top 23) i
/-- a number from 0 on as a value -/
abbrev nV (r : Nat) : V := .int (r : Int)
abbrev nVs (rs : List Nat) : List V := rs.map nV
/-- a def of the text that keeps its promise -/
structure Ok (P : Program) (w : World) (K : PySem.W.Frag) (mg : Str → Option Value) (base : Heap) (x : Str) (k : Nat) (ps : List Str) (sp : Sp) : Prop where
  ex : ∃ (f : Addr) (fd : FuncData), mg x = some (.ref f) ∧ PySem.W.keepIn K (.ref f) = true ∧ Binds K fd ps [] ∧ FnOk P w K mg base CX0 k f fd ps sp
/-- a method of the class at C that keeps its promise -/
structure OkM (P : Program) (w : World) (K : PySem.W.Frag) (mg : Str → Option Value) (base : Heap) (C : Addr) (m : Str) (k : Nat) (ps : List Str) (sp : Sp) : Prop where
  ex : ∃ (f : Addr) (fd : FuncData), Meth K C m f ∧ Binds K fd ps [] ∧ FnOk P w K mg base CX0 k f fd ps sp
section
variable {X : Cx} {x m : Str} {k : Nat} {ps : List Str} {sp : Sp} {e : Expr} {es : List Expr} {t : TA} {p pos apos : Pos} {C : Addr} {o : Expr} {ta : TE}
theorem pe_fn (F : Ok X.prog X.w X.K X.mg X.base x k ps sp) (hr : Room k X.A) (ha : PA X (e :: es) t) (hg : Gl X x := by rfl) (hdb : (x == ("__debug__" : Str)) = false := by decide)
    (he : starEach (e :: es) X.env = (false, eval e X.env) :: starEach es X.env := by rfl) (hpl : (backTo pos (starEach es X.env)).any (·.1) = false := by rfl) : PE X (.Call (.Name x p) (e :: es) [] pos) (tCall sp [] E0 t) := by
  obtain ⟨f, fd, h1, h2, h3, h4⟩ := F.ex
  exact pe_call h4 hr hg h1 h2 h3 .nil pass0 ha hdb he hpl
theorem pe_mt {pl : Sem Bool} (c : Cls X.K C) (F : OkM X.prog X.w X.K X.mg X.base C m k ps sp) (hr : Room k X.A) (he : PE X o ta) (ha : PA X (e :: es) t)
    (hst : starEach (e :: es) X.env = (false, eval e X.env) :: starEach es X.env := by rfl) (hpl : (backTo pos (starEach es X.env)).any (·.1) = false := by rfl)
    (ht : eval (.Call (.Attribute o m apos) (e :: es) [] pos) X.env = (do
      let ov ← eval o X.env
      standAt apos.atName
      let (f, first) ← holding [ov] (getMethod ov m pl)
      callWith pos f first (backTo pos (starEach (e :: es) X.env)) (backToKw pos (keywordEach [] X.env))) := by rfl) : PE X (.Call (.Attribute o m apos) (e :: es) [] pos) (tMeth C m sp [] E0 ta t) := by
  obtain ⟨f, fd, h1, h2, h3⟩ := F.ex
  exact pe_meth (pl := pl) he c h1 h3 hr h2 .nil pass0 ha hst hpl ht
end
section
variable {P : Program} {w : World} {K : PySem.W.Frag} {mg : Str → Option Value} {base : Heap}
theorem ifT {b : Bool} {A B : Prop} (e : b = true) (h : A) : if b = true then A else B := by rw [if_pos e]; exact h
theorem ifF {b : Bool} {A B : Prop} (e : b = false) (h : B) : if b = true then A else B := by subst e; exact iteF h
theorem if2 {b : Bool} {A B : Prop} (h1 : b = true → A) (h2 : b = false → B) : if b = true then A else B := by
  cases b with
  | true => exact iteT (h1 rfl)
  | false => exact iteF (h2 rfl)
/-! ### ints -/
theorem bitAnd_nn (a b : Nat) : Builtin.bitAnd (a : Int) (b : Int) = ((a &&& b : Nat) : Int) := by
  unfold Builtin.bitAnd
  simp
theorem bitOr_nn (a b : Nat) : Builtin.bitOr (a : Int) (b : Int) = ((a ||| b : Nat) : Int) := by
  rw [Bits.bitOr_pp (by omega) (by omega)]; simp
theorem bitXor_nn (a b : Nat) : Builtin.bitXor (a : Int) (b : Int) = ((a ^^^ b : Nat) : Int) := by
  rw [Bits.bitXor_pp (by omega) (by omega)]; simp
theorem bitAnd_not (a b : Nat) : Builtin.bitAnd (a : Int) (Builtin.bitNot (b : Int)) = ((dif a b : Nat) : Int) := by
  have h := dif_add a b
  unfold Builtin.bitAnd
  have h1 : decide (0 ≤ (a : Int)) = true := by simp
  have h2 : decide (0 ≤ Builtin.bitNot (b : Int)) = false := by
    unfold Builtin.bitNot; simp; omega
  rw [h1, h2]
  have h3 : (Builtin.bitNot (Builtin.bitNot (b : Int))).toNat = b := by unfold Builtin.bitNot; omega
  show (a : Int) - (((a : Int).toNat &&& (Builtin.bitNot (Builtin.bitNot (b : Int))).toNat : Nat) : Int) = _
  rw [h3]
  simp only [Int.toNat_natCast]
  omega
theorem natCast_pow2 (k : Nat) : ((2 ^ k : Nat) : Int) = (2 : Int) ^ k := by
  simp
/-! ### bits_set -/
def spBits : Sp := fun vs H Q _ => ∃ r n : Nat, vs = [nV r] ∧ r < 2 ^ n ∧ Q (nV (pc n r)) H
/-- the table of four bits -/
structure Tab (K : PySem.W.Frag) (mg : Str → Option Value) : Prop where
  ex : ∃ a, mg "BITS_OF_FOUR" = some (.ref a) ∧ ∀ H, SqT K H a (nVs tab)
theorem scBits : FnScope ["row", "total"] ["row"] (defScope (top 2)) := ⟨rfl, rfl, rfl, by decide +kernel, rfl, by decide +kernel, by decide +kernel⟩
theorem ok_bits {f : Addr} {fd : FuncData} (F : Fun K "bits_set" "bits_set" (top 2) f fd) (T : Tab K mg) : FnOk P w K mg base CX0 1 f fd ["row"] spBits := by
  refine F.ok scBits (fun vs H Q E h => ?_) (fun cdv A outer s H vs Q E hr h => ?_)
  · obtain ⟨r, n, rfl, _⟩ := h
    rfl
  · obtain ⟨r, n, rfl, hn, k⟩ := h
    obtain ⟨a, ha, hT⟩ := T.ex
    refine ⟨_, pss_cons (ps_set (i := 1) scBits.nd rfl (Or.inl rfl) pe_int)
      (pss_cons (ps_while PassesOwn.never (pt_cmpR op_gt (pv 0) pe_int (nomark _))
        (pss_cons (ps_set (i := 1) scBits.nd rfl (Or.inl rfl) (pe_op op_add (pv 1) (pe_ix ix_tup (pe_glob (v := .ref a) rfl ha rfl) (pe_op op_and (pv 0) pe_int) (fun _ _ => rfl))))
          (pss_one (ps_set (i := 0) scBits.nd rfl (Or.inl rfl) (pe_op op_shr (pv 0) pe_int)))))
      (pss_one (ps_ret (pv 1)))), ?_⟩
    refine while_by (fun σ H' => H' = H ∧ ∃ r' t : Nat, σ = [some (nV r'), some (nV t)] ∧ r' < 2 ^ n ∧ t + pc n r' = pc n r) (fun σ _ => match σ with | [some (.int i), _] => i.toNat | _ => 0) ⟨rfl, r, 0, rfl, hn, by omega⟩ ?_ ?_
    · rintro σ H' ⟨rfl, r', t, rfl, h1, h2⟩
      refine ⟨_, rfl, _, _, rfl, rfl, _, rfl, ?_⟩
      by_cases hz : r' = 0
      · subst hz
        refine ifF (by simp) ⟨_, rfl, ?_⟩
        rw [pc_zero] at h2
        have e : t = pc n r := by omega
        subst e; exact k
      · obtain ⟨z, hz1, hz2⟩ := pc_four h1
        refine ifT (by simp; omega) ⟨_, rfl, _, rfl, _, _, rfl, rfl, a, _, _, nV z, rfl, rfl, hT _, ?_, _, _, rfl, rfl, ?_⟩
        · refine at_of (j := r' % 16) ?_ ?_
          · rw [PyProof.Rows.bitAnd_m4]; omega
          · rw [List.getElem?_map, hz1]; rfl
        · refine ⟨_, rfl, _, _, rfl, rfl, (by show (0 : Int) ≤ 4; decide), ⟨rfl, r' / 16, t + z, ?_, ?_, ?_⟩, ?_⟩
          · show [some (V.int ((r' : Int) / 2 ^ (4 : Int).toNat)), some (V.int ((t : Int) + (z : Int)))] = _
            have e1 : (r' : Int) / 2 ^ (4 : Int).toNat = ((r' / 16 : Nat) : Int) := by simp
            rw [e1]; simp
          · omega
          · omega
          · show ((r' : Int) / 2 ^ (4 : Int).toNat).toNat < (r' : Int).toNat
            have e1 : (r' : Int) / 2 ^ (4 : Int).toNat = ((r' / 16 : Nat) : Int) := by simp
            rw [e1]; omega
    · intro σ H' Q1 Q2 hq hz
      obtain ⟨v, hv, i, j, e1, e2, b, e3, q⟩ := hz
      exact ⟨v, hv, i, j, e1, e2, b, e3, hq _ _ q⟩

/-! ### bit_of -/
theorem shr_nat (r v : Nat) : (r : Int) / 2 ^ ((v : Int).toNat) = ((r >>> v : Nat) : Int) := by
  rw [Nat.shiftRight_eq_div_pow, Int.toNat_natCast]
  simp
theorem bit_nat (r v : Nat) : Builtin.bitAnd ((r >>> v : Nat) : Int) 1 = ((r.testBit v).toNat : Int) := by
  have e : Builtin.bitAnd ((r >>> v : Nat) : Int) 1 = ((r >>> v &&& 1 : Nat) : Int) := bitAnd_nn _ 1
  rw [e, Nat.testBit, Nat.and_one_is_mod, Nat.and_comm, Nat.and_one_is_mod]
  rcases Nat.mod_two_eq_zero_or_one (r >>> v) with h | h <;> rw [h] <;> rfl
def spBit : Sp := fun vs H Q _ => ∃ r v : Nat, vs = [nV r, nV v] ∧ Q (nV (r.testBit v).toNat) H
theorem scBit : FnScope ["row", "v"] ["row", "v"] (defScope (top 3)) := ⟨rfl, rfl, rfl, by decide +kernel, rfl, by decide +kernel, by decide +kernel⟩
theorem ok_bit {f : Addr} {fd : FuncData} (F : Fun K "bit_of" "bit_of" (top 3) f fd) : FnOk P w K mg base CX0 1 f fd ["row", "v"] spBit := by
  refine F.ok scBit (fun vs H Q E h => ?_) (fun cdv A outer s H vs Q E hr h => ?_)
  · obtain ⟨r, v, rfl, _⟩ := h
    rfl
  · obtain ⟨r, v, rfl, k⟩ := h
    refine ⟨_, pss_one (ps_ret (pe_op op_and (pe_op op_shr (pv 0) (pv 1)) pe_int)), ?_⟩
    refine ⟨_, rfl, _, rfl, _, _, rfl, rfl, (by show (0 : Int) ≤ v; omega), _, _, rfl, rfl, ?_⟩
    show Q (V.int (Builtin.bitAnd ((r : Int) / 2 ^ ((v : Int).toNat)) 1)) H
    rw [shr_nat, bit_nat]
    exact k
/-! ### with_bit -/
def spWith : Sp := fun vs H Q _ => ∃ (r v : Nat) (on : Int), vs = [nV r, nV v, .int on] ∧ v ≤ 64 ∧ Q (nV (setb r v on)) H
theorem shl_nat (v : Nat) : (1 : Int) * 2 ^ ((v : Int).toNat) = ((2 ^ v : Nat) : Int) := by
  rw [Int.toNat_natCast]; simp
theorem cpow_one {v : Nat} (h : v ≤ 64) : CPow 1 (v : Int) := ⟨by omega, by omega, by decide⟩
theorem scWith : FnScope ["row", "v", "on"] ["row", "v", "on"] (defScope (top 4)) := ⟨rfl, rfl, rfl, by decide +kernel, rfl, by decide +kernel, by decide +kernel⟩
theorem ok_with {f : Addr} {fd : FuncData} (F : Fun K "with_bit" "with_bit" (top 4) f fd) : FnOk P w K mg base CX0 1 f fd ["row", "v", "on"] spWith := by
  refine F.ok scWith (fun vs H Q E h => ?_) (fun cdv A outer s H vs Q E hr h => ?_)
  · obtain ⟨r, v, on, rfl, _⟩ := h
    rfl
  · obtain ⟨r, v, on, rfl, hv, k⟩ := h
    refine ⟨_, pss_cons (ps_if (pt_cmpR op_eq (pv 2) pe_int (nomark _)) (pss_one (ps_ret (pe_op op_or (pv 0) (pe_op op_shl pe_int (pv 1))))) pss_nil)
      (pss_one (ps_ret (pe_op op_and (pv 0) (pe_un un_inv (pe_op op_shl pe_int (pv 1)))))), ?_⟩
    refine ⟨_, rfl, rfl, _, rfl, ?_⟩
    refine if2 (fun hb => ?_) (fun hb => ?_)
    · have e : on = 1 := by simpa using hb
      subst e
      refine ⟨_, rfl, _, rfl, _, _, rfl, rfl, cpow_one hv, _, _, rfl, rfl, ?_⟩
      show Q (V.int (Builtin.bitOr (r : Int) (1 * 2 ^ ((v : Int).toNat)))) H
      rw [shl_nat, bitOr_nn]
      exact k
    · have e : ¬ on = 1 := by simpa using hb
      refine ⟨_, rfl, _, rfl, _, _, rfl, rfl, cpow_one hv, _, rfl, _, _, rfl, rfl, ?_⟩
      show Q (V.int (Builtin.bitAnd (r : Int) (Builtin.bitNot (1 * 2 ^ ((v : Int).toNat))))) H
      rw [shl_nat, bitAnd_not]
      unfold setb at k
      rw [if_neg e] at k
      exact k
/-! ### first_bits -/
def spFirst : Sp := fun vs H Q _ => ∃ n : Nat, vs = [nV n] ∧ n ≤ 64 ∧ Q (nV (2 ^ n - 1)) H
theorem scFirst : FnScope ["n"] ["n"] (defScope (top 5)) := ⟨rfl, rfl, rfl, by decide +kernel, rfl, by decide +kernel, by decide +kernel⟩
theorem ok_first {f : Addr} {fd : FuncData} (F : Fun K "first_bits" "first_bits" (top 5) f fd) : FnOk P w K mg base CX0 1 f fd ["n"] spFirst := by
  refine F.ok scFirst (fun vs H Q E h => ?_) (fun cdv A outer s H vs Q E hr h => ?_)
  · obtain ⟨n, rfl, _⟩ := h
    rfl
  · obtain ⟨n, rfl, hn, k⟩ := h
    refine ⟨_, pss_one (ps_ret (pe_op op_sub (pe_op op_shl pe_int (pv 0)) pe_int)), ?_⟩
    refine ⟨_, rfl, _, _, rfl, rfl, cpow_one hn, _, _, rfl, rfl, ?_⟩
    show Q (V.int (1 * 2 ^ ((n : Int).toNat) - 1)) H
    rw [shl_nat]
    have e : ((2 ^ n : Nat) : Int) - 1 = ((2 ^ n - 1 : Nat) : Int) := by
      have := Nat.two_pow_pos n
      omega
    rw [e]
    exact k
/-! ### points_of -/
theorem mt_bitlen {X : Cx} : MtR X "int.bit_length" (fun x xs H Q => ∃ r : Nat, x = nV r ∧ xs = [] ∧ r ≠ 0 ∧ Q (.int ((Nat.log2 r : Int) + 1)) H) := by
  intro pins s σ H x xs v us Q I rx rs h
  obtain ⟨r, rfl, rfl, hz, q⟩ := h
  obtain ⟨t, rfl⟩ := rx
  cases rs
  have e : ((Builtin.Int.intBits (r : Int) : Nat) : Int) = (Nat.log2 r : Int) + 1 := by
    unfold Builtin.Int.intBits
    simp [hz]
  rw [← e] at q
  exact call_int_bit_length ⟨V.int _, H, I.tok _, ⟨_, rfl⟩, q⟩
def spPts : Sp := fun vs H Q _ => ∃ r : Nat, vs = [nV r] ∧ r < 2 ^ 64 ∧ ∀ p, H p = none → Q (.ref p) (upd H p (.lst (nVs (pts r))))
theorem scPts : FnScope ["row", "points", "v"] ["row"] (defScope (top 6)) := ⟨rfl, rfl, rfl, by decide +kernel, rfl, by decide +kernel, by decide +kernel⟩
theorem ok_pts {f : Addr} {fd : FuncData} (F : Fun K "points_of" "points_of" (top 6) f fd) : FnOk P w K mg base CX0 1 f fd ["row"] spPts := by
  refine F.ok scPts (fun vs H Q E h => ?_) (fun cdv A outer s H vs Q E hr h => ?_)
  · obtain ⟨r, rfl, _⟩ := h
    rfl
  · obtain ⟨r, rfl, hr64, k⟩ := h
    refine ⟨_, pss_cons (ps_set (i := 1) scPts.nd rfl (Or.inl rfl) (pe_lst pa_nil))
      (pss_cons (ps_while PassesOwn.never (pt_cmpR op_gt (pv 0) pe_int (nomark _))
        (pss_cons (ps_set (i := 2) scPts.nd rfl (Or.inl rfl) (pe_op op_sub (pe_bm0 PySem.F.plainAttrs_int slot_int_bit_length type_int_bit_length mt_bitlen (pv 0)) pe_int))
        (pss_cons (ps_expr (pe_bm PySem.F.plainAttrs_list PySem.F.slot_list_append PySem.F.type_list_append mt_append (pv 1) (pa_cons (pv 2) pa_nil)))
        (pss_one (ps_set (i := 0) scPts.nd rfl (Or.inl rfl) (pe_op op_xor (pv 0) (pe_op op_shl pe_int (pv 2))))))))
      (pss_one (ps_ret (pv 1)))), ?_⟩
    refine ⟨Nat.zero_le _, fun p hp => ?_⟩
    refine while_by (fun σ H' => ∃ (r' : Nat) (l : List Nat) (v : Option V), σ = [some (nV r'), some (.ref p), v] ∧ r' < 2 ^ 64 ∧ H' = upd H p (.lst (nVs l)) ∧ l ++ pts r' = pts r) (fun σ _ => match σ with | some (.int i) :: _ => i.toNat | _ => 0) ⟨r, [], none, rfl, hr64, rfl, rfl⟩ ?_ ?_
    · rintro σ H' ⟨r', l, v, rfl, h1, rfl, h2⟩
      refine ⟨_, rfl, _, _, rfl, rfl, _, rfl, ?_⟩
      by_cases hz : r' = 0
      · subst hz
        refine ifF (by simp) ⟨_, rfl, ?_⟩
        rw [pts_zero, List.append_nil] at h2
        subst h2; exact k p hp
      · have hl : Nat.log2 r' < 64 := (Nat.log2_lt hz).mpr h1
        have hlen : l.length ≤ 64 := by
          have := pts_len 64 r hr64
          rw [← h2] at this
          simp at this; omega
        refine ifT (by simp; omega) ⟨_, rfl, rfl, _, rfl, rfl, hz, _, _, rfl, rfl, ?_⟩
        refine ⟨_, rfl, .inl ⟨rfl, _, SqL.of upd_same⟩, _, rfl, p, _, _, rfl, rfl, upd_same, (by rw [List.length_map, sizeLine_eq]; omega), ?_⟩
        refine ⟨_, rfl, _, rfl, _, _, rfl, rfl, ?_, _, _, rfl, rfl, ⟨r' ^^^ 2 ^ Nat.log2 r', l ++ [Nat.log2 r'], some (nV (Nat.log2 r')), ?_, ?_, ?_, ?_⟩, ?_⟩
        · show CPow 1 ((Nat.log2 r' : Int) + 1 - 1)
          rw [Int.add_sub_cancel]
          exact cpow_one (by omega)
        · show [some (V.int (Builtin.bitXor (r' : Int) (1 * 2 ^ (((Nat.log2 r' : Int) + 1 - 1).toNat)))), some (V.ref p), some (V.int ((Nat.log2 r' : Int) + 1 - 1))] = _
          rw [Int.add_sub_cancel, shl_nat, bitXor_nn]
        · exact Nat.lt_trans (top_lt hz) h1
        · show upd (upd H p _) p (.lst (nVs l ++ [V.int ((Nat.log2 r' : Int) + 1 - 1)])) = _
          rw [upd_upd, Int.add_sub_cancel]
          simp
        · rw [List.append_assoc, ← h2, pts_pos hz]; rfl
        · show (Builtin.bitXor (r' : Int) (1 * 2 ^ (((Nat.log2 r' : Int) + 1 - 1).toNat))).toNat < (r' : Int).toNat
          rw [Int.add_sub_cancel, shl_nat, bitXor_nn]
          have := top_lt hz
          simp only [Int.toNat_natCast]
          exact this
    · intro σ H' Q1 Q2 hq hz
      obtain ⟨v, hv, i, j, e1, e2, b, e3, q⟩ := hz
      exact ⟨v, hv, i, j, e1, e2, b, e3, hq _ _ q⟩
end
end Fg
end
section
set_option Elab.async false
set_option linter.all false
set_option maxRecDepth 100000
set_option maxHeartbeats 2000000
namespace Fg
open PySem PySem.Spec PyProof.Rows L2
section
variable {P : Program} {w : World} {K : PySem.W.Frag} {mg : Str → Option Value} {base : Heap}
theorem Same.rfl' {H : Hp} : Same H H := fun _ _ h => h
theorem same_upd {H : Hp} {p : Addr} {o : HO} (hp : H p = none) : Same H (upd H p o) := fun b o e => by rw [upd_ne (ne_of_none e hp)]; exact e
theorem Same.upd {H H' : Hp} {p : Addr} {o : HO} (s : Same H H') (hp : H p = none) : Same H (L2.upd H' p o) := fun b o e => by rw [upd_ne (ne_of_none e hp)]; exact s b o e
theorem nVs_get {l : List Nat} {i : Nat} {x : V} (h : (nVs l)[i]? = some x) : ∃ u, l[i]? = some u ∧ x = nV u := by
  rw [List.getElem?_map] at h
  cases e : l[i]? with
  | none => rw [e] at h; cases h
  | some u => rw [e] at h; exact ⟨u, rfl, (Option.some.inj h).symm⟩
theorem nVs_at {l : List Nat} {i : Nat} (h : i < l.length) : atI (nVs l) (i : Int) = some (nV (l.getD i 0)) := by
  apply atI_nat
  rw [List.getElem?_map, get_of_lt h]
  rfl
theorem nVs_app (a b : List Nat) : nVs (a ++ b) = nVs a ++ nVs b := List.map_append
def oV : Option Nat → V
  | none => .non
  | some k => nV k
/-! ### next_to -/
def spNext (K : PySem.W.Frag) : Sp := fun vs H Q _ => ∃ (a : Addr) (rs : List Nat) (m : Nat), vs = [.ref a, nV m] ∧ SqL K H a (nVs rs) ∧ rs.length ≤ 64 ∧ m < 2 ^ rs.length ∧ ∀ H', Same H H' → Q (nV (nxt rs m)) H'
theorem scNext : FnScope ["rows", "points", "found", "u"] ["rows", "points"] (defScope (top 10)) := ⟨rfl, rfl, rfl, by decide +kernel, rfl, by decide +kernel, by decide +kernel⟩
theorem ok_next {f : Addr} {fd : FuncData} (F : Fun K "next_to" "next_to" (top 10) f fd) (FP : Ok P w K mg base "points_of" 1 ["row"] spPts) : FnOk P w K mg base CX0 2 f fd ["rows", "points"] (spNext K) := by
  refine F.ok scNext (fun vs H Q E h => ?_) (fun cdv A outer s H vs Q E hr h => ?_)
  · obtain ⟨a, rs, m, rfl, _⟩ := h
    rfl
  · obtain ⟨a, rs, m, rfl, hS, h64, hm, k⟩ := h
    refine ⟨_, pss_cons (ps_set (i := 2) scNext.nd rfl (Or.inl rfl) pe_int)
      (pss_cons (ps_for PassesOwn.never rfl (pi_list (pe_fn FP hr (pa_cons (pv 1) pa_nil))) (pg_name (i := 3) scNext.nd rfl (Or.inl rfl))
        (pss_one (ps_set (i := 2) scNext.nd rfl (Or.inl rfl) (pe_op op_or (pv 2) (pe_ix ix_list (pv 0) (pv 3) (fun _ _ => rfl))))))
      (pss_one (ps_ret (pv 2)))), ?_⟩
    refine ⟨_, rfl, m, rfl, Nat.lt_of_lt_of_le hm (Nat.pow_le_pow_right (by decide) h64), fun p hp => ⟨p, rfl, ⟨_, SqL.of upd_same⟩, ?_⟩⟩
    refine for_list (K := K) (a := p) (xs := nVs (pts m)) (fun i σ H' => ∃ v : Option V, σ = [some (.ref a), some (nV m), some (nV (((pts m).take i).foldl (fun f u => f ||| rs.getD u 0) 0)), v] ∧ H' = upd H p (.lst (nVs (pts m))))
      ⟨none, rfl, rfl⟩ (fun i σ H' _ ⟨_, _, e⟩ => by rw [e]; exact SqL.of upd_same) ?_ ?_
    · rintro i y σ H' hi ⟨v, rfl, rfl⟩
      obtain ⟨u, hu, rfl⟩ := nVs_get hi
      have hul : u < rs.length := lt_of_testBit hm ((mem_pts m u).mp (List.mem_of_getElem? hu))
      refine ⟨_, rfl, _, rfl, _, rfl, a, _, _, _, rfl, rfl, (same_upd hp).seq hS, nVs_at hul, _, _, rfl, rfl, some (nV u), ?_, rfl⟩
      rw [take_snoc hu, List.foldl_append]
      show [some (V.ref a), some (nV m), some (V.int (Builtin.bitOr _ _)), some (nV u)] = _
      rw [bitOr_nn]; rfl
    · rintro σ H' ⟨v, rfl, rfl⟩
      refine ⟨_, rfl, ?_⟩
      have e : (nVs (pts m)).length = (pts m).length := by simp
      rw [e, List.take_length]
      exact k _ (same_upd hp)
/-! ### layers_from -/
def spLayers (K : PySem.W.Frag) : Sp := fun vs H Q _ => ∃ (a : Addr) (rs : List Nat) (u : Nat), vs = [.ref a, nV u] ∧ SqL K H a (nVs rs) ∧ Rw rs ∧ u < rs.length ∧
  ∀ H' p, Same H H' → H' p = some (.lst (nVs ((List.range (dep rs u)).map (dl rs u)))) → Q (.ref p) H'
theorem scLayers : FnScope ["rows", "u", "layers", "seen", "layer"] ["rows", "u"] (defScope (top 11)) := ⟨rfl, rfl, rfl, by decide +kernel, rfl, by decide +kernel, by decide +kernel⟩
theorem ok_layers {f : Addr} {fd : FuncData} (F : Fun K "layers_from" "layers_from" (top 11) f fd) (FN : Ok P w K mg base "next_to" 2 ["rows", "points"] (spNext K)) : FnOk P w K mg base CX0 3 f fd ["rows", "u"] (spLayers K) := by
  refine F.ok scLayers (fun vs H Q E h => ?_) (fun cdv A outer s H vs Q E hr h => ?_)
  · obtain ⟨a, rs, m, rfl, _⟩ := h
    rfl
  · obtain ⟨a, rs, u, rfl, hS, hR, hu, k⟩ := h
    have h64 := hR.most
    refine ⟨_, pss_cons (ps_set (i := 2) scLayers.nd rfl (Or.inl rfl) (pe_lst pa_nil))
      (pss_cons (ps_set (i := 3) scLayers.nd rfl (Or.inl rfl) pe_int)
      (pss_cons (ps_set (i := 4) scLayers.nd rfl (Or.inl rfl) (pe_op op_shl pe_int (pv 1)))
      (pss_cons (ps_while PassesOwn.never (pt_cmpR op_ne (pv 4) pe_int (nomark _))
        (pss_cons (ps_expr (pe_bm PySem.F.plainAttrs_list PySem.F.slot_list_append PySem.F.type_list_append mt_append (pv 2) (pa_cons (pv 4) pa_nil)))
        (pss_cons (ps_set (i := 3) scLayers.nd rfl (Or.inl rfl) (pe_op op_or (pv 3) (pv 4)))
        (pss_one (ps_set (i := 4) scLayers.nd rfl (Or.inl rfl) (pe_op op_and (pe_fn FN hr (pa_cons (pv 0) (pa_cons (pv 4) pa_nil))) (pe_un un_inv (pv 3))))))))
      (pss_one (ps_ret (pv 2)))))), ?_⟩
    refine ⟨Nat.zero_le _, fun p hp => ?_⟩
    refine ⟨_, rfl, _, _, rfl, rfl, cpow_one (by omega), ?_⟩
    refine while_by (fun σ H' => ∃ j : Nat, σ = [some (.ref a), some (nV u), some (.ref p), some (nV (sn rs u j)), some (nV (dl rs u j))] ∧ (∀ i, i < j → dl rs u i ≠ 0) ∧ Same H H' ∧ H' p = some (.lst (nVs ((List.range j).map (dl rs u)))))
      (fun σ _ => match σ with | [_, _, _, some (.int i), _] => 2 ^ rs.length - i.toNat | _ => 0) ⟨0, ?_, fun i hi => by omega, same_upd hp, upd_same⟩ ?_ ?_
    · show [some (V.ref a), some (nV u), some (V.ref p), some (V.int 0), some (V.int (1 * 2 ^ ((u : Int).toNat)))] = _
      rw [shl_nat]; rfl
    · rintro σ H' ⟨j, rfl, hj, hs, hl⟩
      refine ⟨_, rfl, rfl, _, rfl, ?_⟩
      by_cases hz : dl rs u j = 0
      · refine ifF (by simp [hz]) ⟨_, rfl, ?_⟩
        have d : Dep rs u j := ⟨hz, hj⟩
        refine k H' p hs ?_
        rw [d.eq hR hu]; exact hl
      · have hjn : j + 1 ≤ rs.length := depth_le hR hu (k := j + 1) fun i hi => by
          by_cases e : i = j
          · subst e; exact hz
          · exact hj i (by omega)
        obtain ⟨b1, b2⟩ := st_lt hR hu j
        obtain ⟨b3, b4⟩ := st_lt hR hu (j + 1)
        refine ifT (by simp [hz]) ⟨_, rfl, .inl ⟨rfl, _, SqL.of hl⟩, _, rfl, p, _, _, rfl, rfl, hl, (by simp [sizeLine_eq]; omega), ?_⟩
        have s2 : Same H (upd H' p (.lst (nVs ((List.range j).map (dl rs u)) ++ [nV (dl rs u j)]))) := Same.upd hs hp
        refine ⟨_, rfl, _, rfl, _, _, rfl, rfl, ?_⟩
        refine ⟨_, rfl, _, rfl, a, rs, dl rs u j, rfl, s2.seq hS, h64, b2, fun H3 s3 => ?_⟩
        refine ⟨_, rfl, _, rfl, _, _, rfl, rfl, ⟨j + 1, ?_, ?_, s2.trans s3, ?_⟩, ?_⟩
        · show [some (V.ref a), some (nV u), some (V.ref p), some (V.int (Builtin.bitOr _ _)), some (V.int (Builtin.bitAnd _ (Builtin.bitNot (Builtin.bitOr _ _))))] = _
          rw [bitOr_nn, bitAnd_not]; rfl
        · intro i hi
          by_cases e : i = j
          · subst e; exact hz
          · exact hj i (by omega)
        · refine s3 _ _ ?_
          rw [upd_same, List.range_succ, List.map_append, nVs_app]
          rfl
        · show 2 ^ rs.length - (Builtin.bitOr (sn rs u j : Int) (dl rs u j : Int)).toNat < 2 ^ rs.length - (sn rs u j : Int).toNat
          rw [bitOr_nn, ← sn_succ, sn_add] at *
          simp only [Int.toNat_natCast]
          omega
    · intro σ H' Q1 Q2 hq hz
      obtain ⟨v, hv, e1, b, e3, q⟩ := hz
      exact ⟨v, hv, e1, b, e3, hq _ _ q⟩
/-! ### steps_between -/
def spBetw (K : PySem.W.Frag) : Sp := fun vs H Q _ => ∃ (a : Addr) (rs : List Nat) (u v : Nat), vs = [.ref a, nV u, nV v] ∧ SqL K H a (nVs rs) ∧ Rw rs ∧ u < rs.length ∧ ∀ H', Same H H' → Q (oV (farM rs u v)) H'
theorem scBetw : FnScope ["rows", "u", "v", "layers", "steps"] ["rows", "u", "v"] (defScope (top 12)) := ⟨rfl, rfl, rfl, by decide +kernel, rfl, by decide +kernel, by decide +kernel⟩
theorem find_none {p : Nat → Bool} {n : Nat} (h : ∀ i, i < n → p i = false) : (List.range n).find? p = none := by
  rw [List.find?_eq_none]
  intro x hx
  simp [h x (List.mem_range.mp hx)]
structure TxtB (mg : Str → Option Value) : Prop where
  len : mg "len" = none
  range : mg "range" = none
  sum : mg "sum" = none
  max : mg "max" = none
  min : mg "min" = none
  list : mg "list" = none
theorem ok_betw {f : Addr} {fd : FuncData} (F : Fun K "steps_between" "steps_between" (top 12) f fd) (T : TxtB mg) (FL : Ok P w K mg base "layers_from" 3 ["rows", "u"] (spLayers K)) (FB : Ok P w K mg base "bit_of" 1 ["row", "v"] spBit) : FnOk P w K mg base CX0 4 f fd ["rows", "u", "v"] (spBetw K) := by
  refine F.ok scBetw (fun vs H Q E h => ?_) (fun cdv A outer s H vs Q E hr h => ?_)
  · obtain ⟨a, rs, u, v, rfl, _⟩ := h
    rfl
  · obtain ⟨a, rs, u, v, rfl, hS, hR, hu, k⟩ := h
    refine ⟨_, pss_cons (ps_set (i := 3) scBetw.nd rfl (Or.inl rfl) (pe_fn FL hr (pa_cons (pv 0) (pa_cons (pv 1) pa_nil))))
      (pss_cons (ps_for PassesOwn.never rfl (pi_range1 rfl T.range (pa_cons (pe_callB call_len_seq (by rfl) T.len PySem.boot_len (pa_cons (pv 3) pa_nil)) pa_nil)) (pg_name (i := 4) scBetw.nd rfl (Or.inl rfl))
        (pss_one (ps_if (pt_cmpR op_eq (pe_fn FB (hr.mono (by decide)) (pa_cons (pe_ix ix_list (pv 3) (pv 4) (fun _ _ => rfl)) (pa_cons (pv 2) pa_nil))) pe_int (nomark _)) (pss_one (ps_ret (pv 4))) pss_nil)))
      (pss_one (ps_ret pe_non))), ?_⟩
    refine ⟨_, rfl, _, rfl, a, rs, u, rfl, hS, hR, hu, fun H1 p s1 hp => ?_⟩
    have hd := (dep_is hR hu).go
    have hdn := depth_le hR hu hd
    have h64 := hR.most
    refine ⟨_, rfl, p, _, rfl, .inl (SqL.of hp), _, rfl, ?_, ?_, ?_⟩
    · show -(2 ^ 62) ≤ (((nVs ((List.range (dep rs u)).map (dl rs u))).length : Nat) : Int)
      omega
    · show (((nVs ((List.range (dep rs u)).map (dl rs u))).length : Nat) : Int) < 2 ^ 62
      simp; omega
    have e : ((((nVs ((List.range (dep rs u)).map (dl rs u))).length : Nat) : Int)).toNat = dep rs u := by simp
    rw [e]
    refine for_range (n := dep rs u) (fun i σ H' => H' = H1 ∧ (∀ j, j < i → (dl rs u j).testBit v = false) ∧ ∃ x : Option V, σ = [some (.ref a), some (nV u), some (nV v), some (.ref p), x])
      ⟨rfl, fun j hj => by omega, none, rfl⟩ ?_ ?_
    · rintro i σ H' hi ⟨rfl, hf, x, rfl⟩
      have hix : i < ((List.range (dep rs u)).map (dl rs u)).length := by simpa using hi
      refine ⟨_, rfl, _, rfl, p, _, _, _, rfl, rfl, SqL.of hp, ?_, _, rfl, dl rs u i, v, rfl, ?_⟩
      · have q := nVs_at hix
        rw [getD_some (x := dl rs u i) (by simp [hi])] at q
        simpa using q
      · refine ⟨rfl, _, rfl, if2 (fun hb => ?_) (fun hb => ?_)⟩
        · have hb' : (dl rs u i).testBit v = true := by
            cases q : (dl rs u i).testBit v with
            | true => rfl
            | false => rw [q] at hb; simp at hb
          refine ⟨_, rfl, ?_⟩
          have q := k H' s1
          rw [show farM rs u v = some i from find_range hi hb' hf] at q
          show Q (V.int (0 + (i : Int))) H'
          rw [Int.zero_add]
          exact q
        · have hb' : (dl rs u i).testBit v = false := by
            cases q : (dl rs u i).testBit v with
            | false => rfl
            | true => rw [q] at hb; simp at hb
          refine ⟨rfl, fun j hj => ?_, _, rfl⟩
          by_cases e : j = i
          · subst e; exact hb'
          · exact hf j (by omega)
    · rintro σ H' ⟨rfl, hf, x, rfl⟩
      have q := k H' s1
      rw [show farM rs u v = none from find_none hf] at q
      exact q
/-! ### steps_to_farthest -/
def spEcc (K : PySem.W.Frag) : Sp := fun vs H Q _ => ∃ (a : Addr) (rs : List Nat) (u : Nat), vs = [.ref a, nV u] ∧ SqL K H a (nVs rs) ∧ Rw rs ∧ u < rs.length ∧ ∀ H', Same H H' → Q (oV (eccM rs u)) H'
theorem scEcc : FnScope ["rows", "u", "layers"] ["rows", "u"] (defScope (top 13)) := ⟨rfl, rfl, rfl, by decide +kernel, rfl, by decide +kernel, by decide +kernel⟩
theorem sum_cast : ∀ l : List Nat, (l.map fun (r : Nat) => (r : Int)).sum = ((l.sum : Nat) : Int)
  | [] => rfl
  | a :: l => by simp [sum_cast l]
theorem ok_ecc {f : Addr} {fd : FuncData} (F : Fun K "steps_to_farthest" "steps_to_farthest" (top 13) f fd) (T : TxtB mg) (FL : Ok P w K mg base "layers_from" 3 ["rows", "u"] (spLayers K)) (FF : Ok P w K mg base "first_bits" 1 ["n"] spFirst) : FnOk P w K mg base CX0 4 f fd ["rows", "u"] (spEcc K) := by
  refine F.ok scEcc (fun vs H Q E h => ?_) (fun cdv A outer s H vs Q E hr h => ?_)
  · obtain ⟨a, rs, u, rfl, _⟩ := h
    rfl
  · obtain ⟨a, rs, u, rfl, hS, hR, hu, k⟩ := h
    refine ⟨_, pss_cons (ps_set (i := 2) scEcc.nd rfl (Or.inl rfl) (pe_fn FL hr (pa_cons (pv 0) (pa_cons (pv 1) pa_nil))))
      (pss_cons (ps_if (pt_cmpR op_ne (pe_callB (cr_sum rfl) (by rfl) T.sum PyProof.Rows.boot_sum (pa_cons (pv 2) pa_nil)) (pe_fn FF (hr.mono (by decide)) (pa_cons (pe_callB call_len_seq (by rfl) T.len PySem.boot_len (pa_cons (pv 0) pa_nil)) pa_nil)) (nomark _)) (pss_one (ps_ret pe_non)) pss_nil)
      (pss_one (ps_ret (pe_op op_sub (pe_callB call_len_seq (by rfl) T.len PySem.boot_len (pa_cons (pv 2) pa_nil)) pe_int)))), ?_⟩
    refine ⟨_, rfl, _, rfl, a, rs, u, rfl, hS, hR, hu, fun H1 p s1 hp => ?_⟩
    have h64 := hR.most
    have hpos := (dep_is hR hu).pos
    have e0 : nVs ((List.range (dep rs u)).map (dl rs u)) = (((List.range (dep rs u)).map (dl rs u)).map fun (r : Nat) => (r : Int)).map V.int := by
      rw [List.map_map]; rfl
    refine ⟨_, rfl, p, _, rfl, SqL.of (by rw [← e0]; exact hp), _, rfl, a, _, rfl, .inl (s1.seq hS), rs.length, by simp, h64, rfl, _, rfl, ?_⟩
    rw [sum_cast, sn_sum]
    have q := k H1 s1
    unfold eccM at q
    refine if2 (fun hb => ?_) (fun hb => ?_)
    · have hne : ¬ sn rs u (dep rs u) = 2 ^ rs.length - 1 := by
        intro e; rw [e] at hb; simp at hb
      rw [if_neg hne] at q
      exact q
    · have he : sn rs u (dep rs u) = 2 ^ rs.length - 1 := by
        simp at hb; omega
      rw [if_pos he] at q
      refine ⟨_, rfl, p, _, rfl, .inl (SqL.of hp), _, _, rfl, rfl, ?_⟩
      have e2 : (((nVs ((List.range (dep rs u)).map (dl rs u))).length : Nat) : Int) - 1 = ((dep rs u - 1 : Nat) : Int) := by
        simp; omega
      show Q (V.int ((((nVs ((List.range (dep rs u)).map (dl rs u))).length : Nat) : Int) - 1)) H1
      rw [e2]
      exact q
end
end Fg
end
section
set_option Elab.async false
set_option linter.all false
set_option maxRecDepth 100000
set_option maxHeartbeats 2000000
namespace Fg
open PySem PySem.Spec PyProof.Rows L2
section
variable {P : Program} {w : World} {K : PySem.W.Frag} {mg : Str → Option Value} {base : Heap}
/-! ### most_steps -/
def spMost (K : PySem.W.Frag) : Sp := fun vs H Q _ => ∃ (a : Addr) (rs : List Nat), vs = [.ref a] ∧ SqL K H a (nVs rs) ∧ Rw rs ∧ ∀ H', Same H H' → Q (oV (wideM rs)) H'
theorem scMost : FnScope ["rows", "most", "u", "steps"] ["rows"] (defScope (top 14)) := ⟨rfl, rfl, rfl, by decide +kernel, rfl, by decide +kernel, by decide +kernel⟩
theorem wideN_none {rs : List Nat} {u : Nat} (h : eccM rs u = none) : ∀ k, wideN rs (u + 1 + k) = none
  | 0 => by
    show wideN rs (u + 1) = none
    unfold wideN
    rw [h]
    split <;> simp_all
  | k + 1 => by
    have ih := wideN_none h k
    show wideN rs (u + 1 + k + 1) = none
    unfold wideN
    rw [ih]
theorem ok_most {f : Addr} {fd : FuncData} (F : Fun K "most_steps" "most_steps" (top 14) f fd) (T : TxtB mg) (FE : Ok P w K mg base "steps_to_farthest" 4 ["rows", "u"] (spEcc K)) : FnOk P w K mg base CX0 5 f fd ["rows"] (spMost K) := by
  refine F.ok scMost (fun vs H Q E h => ?_) (fun cdv A outer s H vs Q E hr h => ?_)
  · obtain ⟨a, rs, rfl, _⟩ := h
    rfl
  · obtain ⟨a, rs, rfl, hS, hR, k⟩ := h
    have h64 := hR.most
    refine ⟨_, pss_cons (ps_set (i := 1) scMost.nd rfl (Or.inl rfl) pe_int)
      (pss_cons (ps_for PassesOwn.never rfl (pi_range1 rfl T.range (pa_cons (pe_callB call_len_seq (by rfl) T.len PySem.boot_len (pa_cons (pv 0) pa_nil)) pa_nil)) (pg_name (i := 2) scMost.nd rfl (Or.inl rfl))
        (pss_cons (ps_set (i := 3) scMost.nd rfl (Or.inl rfl) (pe_fn FE hr (pa_cons (pv 0) (pa_cons (pv 2) pa_nil))))
        (pss_cons (ps_if (pt_cmpR op_isN (pv 3) pe_non (nomark _)) (pss_one (ps_ret pe_non)) pss_nil)
        (pss_one (ps_set (i := 1) scMost.nd rfl (Or.inl rfl) (pe_callB (call_max2 rfl) (by rfl) T.max PyProof.Rows.boot_max (pa_cons (pv 1) (pa_cons (pv 3) pa_nil))))))))
      (pss_one (ps_ret (pv 1)))), ?_⟩
    refine ⟨_, rfl, a, _, rfl, .inl hS, _, rfl, ?_, ?_, ?_⟩
    · show -(2 ^ 62) ≤ (((nVs rs).length : Nat) : Int)
      omega
    · show (((nVs rs).length : Nat) : Int) < 2 ^ 62
      simp; omega
    have e : ((((nVs rs).length : Nat) : Int)).toNat = rs.length := by simp
    rw [e]
    refine for_range (n := rs.length) (fun i σ H' => Same H H' ∧ ∃ (m : Nat) (x y : Option V), σ = [some (.ref a), some (nV m), x, y] ∧ wideN rs i = some m)
      ⟨Same.rfl', 0, none, none, rfl, rfl⟩ ?_ ?_
    · rintro i σ H1 hi ⟨s1, m, x, y, rfl, hm⟩
      refine ⟨_, rfl, _, rfl, a, rs, i, ?_, s1.seq hS, hR, hi, fun H2 s2 => ?_⟩
      · show [V.ref a, V.int (0 + (i : Int))] = _
        rw [Int.zero_add]
      have s3 := s1.trans s2
      cases he : eccM rs i with
      | none =>
        refine ⟨_, rfl, rfl, _, rfl, ifT rfl ?_⟩
        have q := k H2 s3
        have e2 : wideM rs = none := by
          have := wideN_none he (rs.length - (i + 1))
          rw [show i + 1 + (rs.length - (i + 1)) = rs.length by omega] at this
          exact this
        rw [e2] at q
        exact q
      | some b =>
        refine ⟨_, rfl, rfl, _, rfl, ifF rfl ?_⟩
        refine ⟨_, rfl, _, rfl, (m : Int), (b : Int), rfl, s3, max m b, some (V.int (0 + (i : Int))), some (nV b), ?_, ?_⟩
        · show [some (V.ref a), some (V.int (if (b : Int) > (m : Int) then (b : Int) else (m : Int))), some (V.int (0 + (i : Int))), some (nV b)] = _
          have e3 : (if (b : Int) > (m : Int) then (b : Int) else (m : Int)) = ((max m b : Nat) : Int) := by
            split <;> omega
          rw [e3]
        · show wideN rs (i + 1) = _
          unfold wideN
          rw [hm, he]
    · rintro σ H1 ⟨s1, m, x, y, rfl, hm⟩
      refine ⟨_, rfl, ?_⟩
      have q := k H1 s1
      rw [show wideM rs = some m from hm] at q
      exact q
/-! ### some_have_two -/
def spTwo (K : PySem.W.Frag) : Sp := fun vs H Q _ => ∃ (a : Addr) (rs : List Nat) (m o : Nat), vs = [.ref a, nV m, nV o] ∧ SqL K H a (nVs rs) ∧ rs.length ≤ 64 ∧ m < 2 ^ rs.length ∧ ∀ H', Same H H' → Q (.bl (sh2 rs m o)) H'
theorem scTwo : FnScope ["rows", "points", "others", "u", "shared"] ["rows", "points", "others"] (defScope (top 15)) := ⟨rfl, rfl, rfl, by decide +kernel, rfl, by decide +kernel, by decide +kernel⟩
theorem two_int (s : Nat) : (!decide (V.int (Builtin.bitAnd (s : Int) ((s : Int) - 1)) = V.int 0)) = two s := by
  have e : Builtin.bitAnd (s : Int) ((s : Int) - 1) = ((s &&& (s - 1) : Nat) : Int) := by
    cases s with
    | zero => rfl
    | succ s =>
      rw [show (((s + 1 : Nat) : Int) - 1) = (s : Int) by omega, bitAnd_nn]
      simp
  rw [e]
  unfold two
  by_cases h : s &&& (s - 1) = 0
  · simp [h]
  · have : ¬ (V.int ((s &&& (s - 1) : Nat) : Int) = V.int 0) := by
      intro q
      have q' : ((s &&& (s - 1) : Nat) : Int) = 0 := V.int.inj q
      omega
    rw [decide_eq_false this]
    simp [h]
theorem ok_two {f : Addr} {fd : FuncData} (F : Fun K "some_have_two" "some_have_two" (top 15) f fd) (FP : Ok P w K mg base "points_of" 1 ["row"] spPts) : FnOk P w K mg base CX0 2 f fd ["rows", "points", "others"] (spTwo K) := by
  refine F.ok scTwo (fun vs H Q E h => ?_) (fun cdv A outer s H vs Q E hr h => ?_)
  · obtain ⟨a, rs, m, o, rfl, _⟩ := h
    rfl
  · obtain ⟨a, rs, m, o, rfl, hS, h64, hm, k⟩ := h
    refine ⟨_, pss_cons (ps_for PassesOwn.never rfl (pi_list (pe_fn FP hr (pa_cons (pv 1) pa_nil))) (pg_name (i := 3) scTwo.nd rfl (Or.inl rfl))
        (pss_cons (ps_set (i := 4) scTwo.nd rfl (Or.inl rfl) (pe_op op_and (pe_ix ix_list (pv 0) (pv 3) (fun _ _ => rfl)) (pv 2)))
        (pss_one (ps_if (pt_cmpR op_ne (pe_op op_and (pv 4) (pe_op op_sub (pv 4) pe_int)) pe_int (nomark _)) (pss_one (ps_ret pe_bl)) pss_nil))))
      (pss_one (ps_ret pe_bl)), ?_⟩
    refine ⟨_, rfl, m, rfl, Nat.lt_of_lt_of_le hm (Nat.pow_le_pow_right (by decide) h64), fun p hp => ⟨p, rfl, ⟨_, SqL.of upd_same⟩, ?_⟩⟩
    refine for_list (K := K) (a := p) (xs := nVs (pts m)) (fun i σ H' => ∃ v x : Option V, σ = [some (.ref a), some (nV m), some (nV o), v, x] ∧ H' = upd H p (.lst (nVs (pts m))) ∧ ((pts m).take i).any (fun u => two (rs.getD u 0 &&& o)) = false)
      ⟨none, none, rfl, rfl, rfl⟩ (fun i σ H' _ ⟨_, _, _, e, _⟩ => by rw [e]; exact SqL.of upd_same) ?_ ?_
    · rintro i y σ H' hi ⟨v, x, rfl, rfl, hn⟩
      obtain ⟨u, hu, rfl⟩ := nVs_get hi
      have hul : u < rs.length := lt_of_testBit hm ((mem_pts m u).mp (List.mem_of_getElem? hu))
      refine ⟨_, rfl, _, rfl, a, _, _, _, rfl, rfl, (same_upd hp).seq hS, nVs_at hul, _, rfl, _, _, rfl, rfl, ?_⟩
      have e0 := bitAnd_nn (rs.getD u 0) o
      refine ⟨_, rfl, _, rfl, _, _, rfl, rfl, _, _, rfl, rfl, rfl, _, rfl, ?_⟩
      dsimp only
      rw [e0, two_int]
      refine if2 (fun hb => ?_) (fun hb => ?_)
      · have q := k _ (same_upd (o := .lst (nVs (pts m))) hp)
        have e : sh2 rs m o = true := by
          unfold sh2
          rw [List.any_eq_true]
          exact ⟨u, List.mem_of_getElem? hu, hb⟩
        rw [e] at q
        exact q
      · refine ⟨_, _, rfl, rfl, ?_⟩
        rw [take_snoc hu, List.any_append, hn, List.any_cons, hb]
        rfl
    · rintro σ H' ⟨v, x, rfl, rfl, hn⟩
      have e : (nVs (pts m)).length = (pts m).length := by simp
      rw [e, List.take_length] at hn
      have q := k _ (same_upd (o := .lst (nVs (pts m))) hp)
      rw [show sh2 rs m o = false from hn] at q
      exact q
/-! ### ring_around -/
def spRing (K : PySem.W.Frag) : Sp := fun vs H Q _ => ∃ (a : Addr) (rs : List Nat) (u : Nat), vs = [.ref a, nV u] ∧ SqL K H a (nVs rs) ∧ Rw rs ∧ Sy rs ∧ u < rs.length ∧ ∀ H', Same H H' → Q (nV (ringM rs u)) H'
theorem scRing : FnScope ["rows", "u", "before", "layer", "steps", "beside", "farther"] ["rows", "u"] (defScope (top 16)) := ⟨rfl, rfl, rfl, by decide +kernel, rfl, by decide +kernel, by decide +kernel⟩
theorem bf_lt {rs : List Nat} (hR : Rw rs) {u : Nat} (hu : u < rs.length) : ∀ k, bf rs u k < 2 ^ rs.length
  | 0 => Nat.two_pow_pos _
  | k + 1 => (st_lt hR hu k).2
theorem ok_ring {f : Addr} {fd : FuncData} (F : Fun K "ring_around" "ring_around" (top 16) f fd) (FN : Ok P w K mg base "next_to" 2 ["rows", "points"] (spNext K)) (FT : Ok P w K mg base "some_have_two" 2 ["rows", "points", "others"] (spTwo K)) : FnOk P w K mg base CX0 3 f fd ["rows", "u"] (spRing K) := by
  refine F.ok scRing (fun vs H Q E h => ?_) (fun cdv A outer s H vs Q E hr h => ?_)
  · obtain ⟨a, rs, u, rfl, _⟩ := h
    rfl
  · obtain ⟨a, rs, u, rfl, hS, hR, hY, hu, k⟩ := h
    have h64 := hR.most
    refine ⟨_, pss_cons (ps_set (i := 2) scRing.nd rfl (Or.inl rfl) pe_int)
      (pss_cons (ps_set (i := 3) scRing.nd rfl (Or.inl rfl) (pe_op op_shl pe_int (pv 1)))
      (pss_cons (ps_set (i := 4) scRing.nd rfl (Or.inl rfl) pe_int)
      (pss_cons (ps_while PassesOwn.never (pt_cmpR op_ne (pv 3) pe_int (nomark _))
        (pss_cons (ps_if (pt_val (pe_fn FT hr (pa_cons (pv 0) (pa_cons (pv 3) (pa_cons (pv 2) pa_nil))))) (pss_one (ps_ret (pe_op op_mul pe_int (pv 4)))) pss_nil)
        (pss_cons (ps_set (i := 5) scRing.nd rfl (Or.inl rfl) (pe_fn FN hr (pa_cons (pv 0) (pa_cons (pv 3) pa_nil))))
        (pss_cons (ps_if (pt_cmpR op_ne (pe_op op_and (pv 5) (pv 3)) pe_int (nomark _)) (pss_one (ps_ret (pe_op op_add (pe_op op_mul pe_int (pv 4)) pe_int))) pss_nil)
        (pss_cons (ps_set (i := 6) scRing.nd rfl (Or.inl rfl) (pe_op op_and (pv 5) (pe_un un_inv (pv 2))))
        (pss_cons (ps_set (i := 2) scRing.nd rfl (Or.inl rfl) (pv 3))
        (pss_cons (ps_set (i := 3) scRing.nd rfl (Or.inl rfl) (pv 6))
        (pss_one (ps_set (i := 4) scRing.nd rfl (Or.inl rfl) (pe_op op_add (pv 4) pe_int))))))))))
      (pss_one (ps_ret pe_int))))), ?_⟩
    refine ⟨_, rfl, _, _, rfl, rfl, cpow_one (by omega), ?_⟩
    refine while_by (fun σ H' => ∃ (j : Nat) (x y : Option V), σ = [some (.ref a), some (nV u), some (nV (bf rs u j)), some (nV (dl rs u j)), some (nV j), x, y] ∧ (∀ i, i < j → dl rs u i ≠ 0) ∧ Same H H' ∧ j ≤ 64 ∧ ringF rs (65 - j) (bf rs u j) (dl rs u j) j = ringM rs u)
      (fun σ _ => match σ with | [_, _, _, _, some (.int i), _, _] => 65 - i.toNat | _ => 0) ⟨0, none, none, ?_, fun i hi => by omega, Same.rfl', by omega, rfl⟩ ?_ ?_
    · show [some (V.ref a), some (nV u), some (V.int 0), some (V.int (1 * 2 ^ ((u : Int).toNat))), some (V.int 0), none, none] = _
      rw [shl_nat]; rfl
    · rintro σ H' ⟨j, x, y, rfl, hj, hs, hj64, hF⟩
      refine ⟨_, rfl, rfl, _, rfl, ?_⟩
      obtain ⟨b1, b2⟩ := st_lt hR hu j
      have e65 : 65 - j = (64 - j) + 1 := by omega
      rw [e65] at hF
      unfold ringF at hF
      by_cases hz : dl rs u j = 0
      · refine ifF (by simp [hz]) ?_
        rw [if_pos hz] at hF
        have q := k H' hs
        rw [← hF] at q
        exact q
      · rw [if_neg hz] at hF
        have hjn : j + 1 ≤ rs.length := depth_le hR hu (k := j + 1) fun i hi => by
          by_cases e : i = j
          · subst e; exact hz
          · exact hj i (by omega)
        refine ifT (by simp [hz]) ⟨_, rfl, _, rfl, _, rfl, a, rs, dl rs u j, bf rs u j, rfl, hs.seq hS, h64, b2, fun H1 s1 => ⟨_, rfl, if2 (fun hb => ?_) (fun hb => ?_)⟩⟩
        · rw [if_pos hb] at hF
          refine ⟨_, rfl, _, _, rfl, rfl, .inl ⟨by decide, by decide⟩, ?_⟩
          have q := k H1 (hs.trans s1)
          rw [← hF] at q
          show Q (V.int (2 * (j : Int))) H1
          have e : (2 * (j : Int)) = ((2 * j : Nat) : Int) := by omega
          rw [e]; exact q
        · rw [if_neg (by rw [hb]; simp)] at hF
          refine ⟨_, rfl, _, rfl, a, rs, dl rs u j, rfl, (hs.trans s1).seq hS, h64, b2, fun H2 s2 => ?_⟩
          have s3 := (hs.trans s1).trans s2
          refine ⟨_, rfl, _, rfl, _, _, rfl, rfl, rfl, _, rfl, ?_⟩
          by_cases hn : nxt rs (dl rs u j) &&& dl rs u j = 0
          · refine ifF (by show (!decide (V.int (Builtin.bitAnd _ _) = V.int 0)) = false; rw [bitAnd_nn]; simp [hn]) ?_
            rw [if_neg (by simp [hn])] at hF
            refine ⟨_, rfl, _, rfl, _, rfl, _, _, rfl, rfl, ?_⟩
            rw [ring_step hY hn] at hF
            refine ⟨_, rfl, _, rfl, _, rfl, _, _, rfl, rfl, ⟨j + 1, some (nV (nxt rs (dl rs u j))), some (nV (dl rs u (j + 1))), ?_, ?_, s3, by omega, ?_⟩, ?_⟩
            · show [some (V.ref a), some (nV u), some (nV (dl rs u j)), some (V.int (Builtin.bitAnd _ (Builtin.bitNot _))), some (V.int ((j : Int) + 1)), some (nV (nxt rs (dl rs u j))), some (V.int (Builtin.bitAnd _ (Builtin.bitNot _)))] = _
              rw [bitAnd_not, ring_step hY hn]
              rfl
            · intro i hi
              by_cases e : i = j
              · subst e; exact hz
              · exact hj i (by omega)
            · rw [show 65 - (j + 1) = 64 - j by omega]
              exact hF
            · show 65 - ((j : Int) + 1).toNat < 65 - (j : Int).toNat
              omega
          · refine ifT ?_ ?_
            · show (!decide (V.int (Builtin.bitAnd _ _) = V.int 0)) = true
              rw [bitAnd_nn]
              have : ¬ (V.int ((nxt rs (dl rs u j) &&& dl rs u j : Nat) : Int) = V.int 0) := by
                intro q
                have q' := V.int.inj q
                omega
              simp [this]
            rw [if_pos hn] at hF
            refine ⟨_, rfl, _, _, rfl, rfl, .inl ⟨by decide, by decide⟩, _, _, rfl, rfl, ?_⟩
            have q := k H2 s3
            rw [← hF] at q
            show Q (V.int (2 * (j : Int) + 1)) H2
            have e : (2 * (j : Int) + 1) = ((2 * j + 1 : Nat) : Int) := by omega
            rw [e]; exact q
    · intro σ H' Q1 Q2 hq hz
      obtain ⟨v, hv, e1, b, e3, q⟩ := hz
      exact ⟨v, hv, e1, b, e3, hq _ _ q⟩
end
end Fg
end
section
set_option Elab.async false
set_option linter.all false
set_option maxRecDepth 100000
set_option maxHeartbeats 2000000
/-! min(xs, default=d) -/
namespace Fg
open PySem PySem.Spec PyProof.Rows L2
section
variable {prog : Program} {w : World} {A : Around} {R : Result → Shared → Prop} {I : Addr} {fp wr : List Addr} {n : Nat} {P : Nat → Value → Prop} {St : Nat → Heap → Prop}
theorem nm_loop : (toString "min" ++ toString ".loop" : String) = "min.loop" := by decide
theorem md_loop (W : Walks prog w A.in1 I fp wr n P St) (lt : Nat → Nat → Bool) (cmp : CmpOf prog w A.in1 .Lt P lt) (S : Addr) (out : S ∉ fp) (kws : List (Str × Value)) :
    ∀ (k j : Nat) (s : Shared) (best : Value) (c : Nat), n - (j + 1) = k → j + 1 ≤ n → St (j + 1) s.heap → P (argBest lt j) best →
    s.heap.get? S = some { cls := .type "list", dict := none, data := .seq #[best, best] c, slots := #[] } →
    (∀ v h2 tk, P (argBest lt (n - 1)) v → (∀ b o, b ∉ wr → b ≠ S → s.heap.get? b = some o → h2.get? b = some o) → R (.ok (.ret v)) { s with heap := h2, toks := tk }) →
    codeAny (model prog w) A (.builtin "min.loop" ⟨[.ref I, .none, .ref S], kws⟩) R s := by
  have ow : S ∉ wr := fun h => out (W.sub _ h)
  intro k
  induction k with
  | zero =>
    intro j s best c ek ej st hb hS fin
    have last : j + 1 = n := by omega
    refine codeAny_builtin PySem.F.entry_min_loop (by
      rw [Around.under_plainId PySem.F.plain_min_loop _]
      show wpAny _ A.in1 (seqItems? (.ref S) >>= _) _ _ s
      refine wpAny_bind (wpAny_seqItems hS rfl (by
        show wpAny _ A.in1 (tryCatch (pyNext (.ref I)) _ >>= _) _ _ s
        refine wpAny_bind (wpAny_tryCatch (W.done s _ _ (last ▸ st) fun h2 tk keep => by
          have hS2 := keep S _ ow hS
          show wpAny _ A.in1 (updateSeq S (fun _ => #[]) >>= _) _ _ _
          refine wpAny_bind (wpAny_updateSeq hS2 rfl (wpAny_bind (wpAny_letGo (wpAny_pure ?_))))
          exact fin best _ tk (by rw [← last]; exact hb) fun b o nw ns e => (Heap.get?_update_other _ _ (Ne.symm ns)).trans (keep b o nw e))))))
  | succ k ih =>
    intro j s best c ek ej st hb hS fin
    have more : j + 1 < n := by omega
    refine codeAny_builtin PySem.F.entry_min_loop (by
      rw [Around.under_plainId PySem.F.plain_min_loop _]
      show wpAny _ A.in1 (seqItems? (.ref S) >>= _) _ _ s
      refine wpAny_bind (wpAny_seqItems hS rfl (by
        show wpAny _ A.in1 (tryCatch (pyNext (.ref I)) _ >>= _) _ _ s
        refine wpAny_bind (wpAny_tryCatch (W.item (j + 1) s _ _ more st fun v h2 tk hv st2 keep => by
          have hS2 := keep S _ ow hS
          show wpAny _ A.in1 (tryCatch (holding [v, v] (richCompare .Lt v best >>= _)) _ >>= _) _ _ _
          refine wpAny_bind (wpAny_tryCatch (wpAny_holding (wpAny_bind (cmp (j + 1) (argBest lt j) v best _ _ _ hv hb (wpAny_bind (wpAny_holding (wpAny_truthy_bool (wpAny_bind (wpAny_letGo (wpAny_pure ?_))))))))))
          cases less : lt (j + 1) (argBest lt j) with
          | true =>
            simp only [if_true]
            refine wpAny_bind (wpAny_updateSeq hS2 rfl (wpAny_bind (wpAny_letGo ?_)))
            rw [nm_loop]
            refine wpAny_pure ⟨plainId_quiet PySem.F.plain_min_loop _, ih (j + 1) _ v _ (by omega) more (W.frame _ _ _ st2 fun b bf o e => ?_) (by simp only [argBest, less, if_true]; exact hv) (Heap.get?_update_self _ hS2 rfl) fun v3 h3 tk3 hv3 keep3 => ?_⟩
            · exact (Heap.get?_update_other _ _ (fun h : S = b => out (by rw [h]; exact bf))).trans e
            · exact fin v3 h3 tk3 hv3 fun b o nw ns e => keep3 b o nw ns ((Heap.get?_update_other _ _ (Ne.symm ns)).trans (keep b o nw e))
          | false =>
            simp only [Bool.false_eq_true, if_false]
            refine wpAny_bind (wpAny_letGo ?_)
            rw [nm_loop]
            exact wpAny_pure ⟨plainId_quiet PySem.F.plain_min_loop _, ih (j + 1) _ best c (by omega) more st2 (by simp only [argBest, less, Bool.false_eq_true, if_false]; exact hb) hS2 fun v3 h3 tk3 hv3 keep3 => fin v3 h3 tk3 hv3 fun b o nw ns e => keep3 b o nw ns (keep b o nw e)⟩)))))
/-- the first turn: the list is empty, or its first item is the best so far -/
theorem md_first (W : Walks prog w A.in1 I fp wr n P St) (lt : Nat → Nat → Bool) (cmp : CmpOf prog w A.in1 .Lt P lt) (S : Addr) (out : S ∉ fp) {d : Value} {nm : Str} {s : Shared} {c : Nat} (st : St 0 s.heap)
    (hS : s.heap.get? S = some { cls := .type "list", dict := none, data := .seq #[] c, slots := #[] })
    (fin : ∀ v h2 tk, (n = 0 ∧ v = d ∨ 0 < n ∧ P (argBest lt (n - 1)) v) → (∀ b o, b ∉ wr → b ≠ S → s.heap.get? b = some o → h2.get? b = some o) → R (.ok (.ret v)) { s with heap := h2, toks := tk }) :
    codeAny (model prog w) A (.builtin "min.loop" ⟨[.ref I, .none, .ref S], [(nm, d)]⟩) R s := by
  have ow : S ∉ wr := fun h => out (W.sub _ h)
  refine codeAny_builtin PySem.F.entry_min_loop (by
    rw [Around.under_plainId PySem.F.plain_min_loop _]
    show wpAny _ A.in1 (seqItems? (.ref S) >>= _) _ _ s
    refine wpAny_bind (wpAny_seqItems hS rfl (by
      show wpAny _ A.in1 (tryCatch (pyNext (.ref I)) _ >>= _) _ _ s
      by_cases n0 : n = 0
      · refine wpAny_bind (wpAny_tryCatch (W.done s _ _ (n0 ▸ st) fun h2 tk keep => by
          show wpAny _ A.in1 (rule _ >>= _) _ _ _
          refine wpAny_bind (wpAny_rule (wpAny_pure ?_))
          exact fin d h2 tk (.inl ⟨n0, rfl⟩) fun b o nw ns e => keep b o nw e))
      · refine wpAny_bind (wpAny_tryCatch (W.item 0 s _ _ (by omega) st fun v h2 tk hv st2 keep => by
          have hS2 := keep S _ ow hS
          show wpAny _ A.in1 (updateSeq S (fun _ => #[v, v]) >>= _) _ _ _
          refine wpAny_bind (wpAny_updateSeq hS2 rfl ?_)
          rw [nm_loop]
          refine wpAny_pure ⟨plainId_quiet PySem.F.plain_min_loop _, md_loop W lt cmp S out _ _ 0 _ v _ rfl (by omega) (W.frame _ _ _ st2 fun b bf o e => ?_) hv (Heap.get?_update_self _ hS2 rfl) fun v3 h3 tk3 hv3 keep3 => ?_⟩
          · exact (Heap.get?_update_other _ _ (fun h : S = b => out (by rw [h]; exact bf))).trans e
          · exact fin v3 h3 tk3 (.inr ⟨by omega, hv3⟩) fun b o nw ns e => keep3 b o nw ns ((Heap.get?_update_other _ _ (Ne.symm ns)).trans (keep b o nw e)))))))
end
section
variable {prog : Program} {w : World} {A : Around} {E : Value → Shared → Prop} {s : Shared} {l : Addr} {its : List Value} {ns : List Int} {Q : Value → Shared → Prop}
theorem args_minD (a v : Value) : argsOk "min" ⟨[a], [(Str.ofString "default", v)]⟩ := by unfold argsOk; kernel_rfl
theorem minD_raw (hh : A.handled = none) (hl : s.heap.IsList l its.toArray) (hi : IntsAre its ns) (d : Value)
    (h : ∀ h2 tk v, (∀ b o, s.heap.get? b = some o → h2.get? b = some o) → ((ns = [] ∧ v = d) ∨ ∃ M t, v = .int M t ∧ M ∈ ns ∧ ∀ a, a ∈ ns → M ≤ a) → Q v { s with heap := h2, toks := tk }) :
    wpAny (model prog w) A (call (.builtin "min") [.ref l] [(Str.ofString "default", d)]) Q E s := by
  obtain ⟨xs, ex⟩ := hi.allInts.items
  have hn : numsOf (intItems xs).toList = ns := by rw [← ex]; exact hi.numsOf
  rw [nums_intItems] at hn
  subst hn
  rw [ex] at hl
  refine kmk_tree PySem.F.kind_min PySem.F.plain_min PySem.F.entry_min (args_minD _ _) ?_
  show wpAny _ A.in1 (Builtin.Builtins.bindParams "min" ["key", "default"] 0 ⟨[], [(Str.ofString "default", d)]⟩ >>= _) _ _ s
  refine wpAny_bind (wpAny_of_eq (show Builtin.Builtins.bindParams "min" ["key", "default"] 0 ⟨[], [(Str.ofString "default", d)]⟩ = pure [none, some d] from rfl) ?_)
  refine wpAny_bind (wpAny_pure (wpAny_bind (iter_intList hl fun s2 e2 st fpl ne => ?_)))
  subst e2
  refine wpAny_bind (wpAny_newObj_type ?_)
  rw [nm_loop]
  refine wpAny_pure ⟨plainId_quiet PySem.F.plain_min_loop _, md_first (Walks.list (A := A.in1) hh _ l ne (intItems xs)) (fun i j => decide (numAt xs i < numAt xs j)) (CmpOf.ints_lt (numAt xs) (fun _ _ => intItems_at)) _ (fun hm => Nat.lt_irrefl _ (fpl _ hm)) ⟨?_, ?_⟩ (Heap.get?_push_size _ rfl) fun v h2 tk hv keep => ?_⟩
  · exact st.1.at fun o e => Heap.get?_push_of_some _ e
  · exact st.2.at fun o e => Heap.get?_push_of_some _ e
  · have keep2 : ∀ b o, s.heap.get? b = some o → h2.get? b = some o := fun b o e => by
      have e1 := Heap.get?_push_of_some { cls := .type "list_iterator", data := .fields #[.ref l, .int 0 0] } e
      exact keep b o (fun hm => absurd (List.mem_singleton.mp hm ▸ Heap.lt_size e) (Nat.lt_irrefl _)) (Nat.ne_of_lt (Heap.lt_size e1)) (Heap.get?_push_of_some _ e1)
    refine h h2 tk v keep2 ?_
    have sz : (intItems xs).size = xs.size := by simp [intItems]
    rcases hv with ⟨n0, rfl⟩ | ⟨n1, hv⟩
    · refine .inl ⟨?_, rfl⟩
      rw [sz] at n0
      have : xs = #[] := Array.eq_empty_of_size_eq_zero n0
      subst this; rfl
    · rw [sz] at n1 hv
      obtain ⟨t, rfl⟩ := intItems_at hv
      obtain ⟨b1, b2⟩ := argBest_lt (numAt xs) (xs.size - 1)
      refine .inr ⟨_, t, rfl, ?_, fun a ha => ?_⟩
      · rw [numAt_eq]; exact PySem.getD_mem (by rw [List.length_map, Array.length_toList]; omega)
      · obtain ⟨j, hj, rfl⟩ := mem_getD ha
        rw [List.length_map, Array.length_toList] at hj
        rw [← numAt_eq]; exact b2 j (by omega)
end
/-- min(xs, default=e) -/
def tMinD (K : PySem.W.Frag) (t tk : TA) : TE := fun σ H Q => t σ H fun vs H1 => tk σ H1 fun zs H2 => ∃ (a : Addr) (ns : List Int) (d : V), vs = [.ref a] ∧ zs = [d] ∧ SqL K H2 a (ns.map V.int) ∧
  (ns = [] → Q d H2) ∧ ∀ m, m ∈ ns → (∀ z, z ∈ ns → m ≤ z) → Q (.int m) H2
theorem pe_minD {X : Cx} {p pos : Pos} {e : Expr} {kws : List Keyword} {t tk : TA} (hc : X.calm = true) (hm : X.mg "min" = none) (ha : PA X [e] t) (hkw : PK X kws tk) (hg : Gl X "min" := by rfl)
    (hks : (backToKw pos (keywordEach kws X.env)).filterMap (·.1) = [Str.ofString "default"] := by rfl) (he : backTo pos (starEach [e] X.env) = (false, eval e X.env) :: backTo pos (starEach [] X.env) := by rfl)
    (h1 : (backTo pos (starEach [e] X.env)).any (·.1) = false := by rfl) (h2 : (backToKw pos (keywordEach kws X.env)).all (·.1.isSome) = true := by rfl) (h3 : (backToKw pos (keywordEach kws X.env)).any (·.1.isNone) = false := by rfl) :
    PE X (.Call (.Name "min" p) [e] kws pos) (tMinD X.K t tk) := by
  intro pins s σ H Q I h
  refine wpAny_Call_Name_kw (ld_blt I hg hm PyProof.Rows.boot_min ?_ (by decide) (by decide))
  refine callWith_kw (thn (ha pos pins s σ H _ I h) fun us s1 ⟨vs, H1, I1, r, q⟩ => thn (hkw pos pins s1 σ H1 _ I1 q) fun ws s2 ⟨zs, H2, I2, rz, q2⟩ => ?_) he h1 h2 h3
  rw [hks]
  obtain ⟨a, ns, d, rfl, rfl, hs, qe, qm⟩ := q2
  obtain ⟨its, rv, hl, _⟩ := I2.list hs
  obtain ⟨du, rfl, rd⟩ := Vals.one rz
  rw [Vals.ref1 r]
  refine minD_raw (I2.ok.hd hc) hl.isList rv.ints du fun h' tk v hk hv => ?_
  rcases hv with ⟨n0, rfl⟩ | ⟨M, t, rfl, hM, hl2⟩
  · exact ⟨d, H2, I2.kept hk, rd, qe n0⟩
  · exact ⟨.int M, H2, I2.kept hk, ⟨_, rfl⟩, qm M hM hl2⟩
section
variable {P : Program} {w : World} {K : PySem.W.Frag} {mg : Str → Option Value} {base : Heap}
/-! ### shortest_ring -/
def spGirth (K : PySem.W.Frag) : Sp := fun vs H Q _ => ∃ (a : Addr) (rs : List Nat), vs = [.ref a] ∧ SqL K H a (nVs rs) ∧ Rw rs ∧ Sy rs ∧ ∀ H', Same H H' → Q (nV (girthM rs)) H'
theorem scGirth : FnScope ["rows", "found", "u", "ring"] ["rows"] (defScope (top 17)) := ⟨rfl, rfl, rfl, by decide +kernel, rfl, by decide +kernel, by decide +kernel⟩
theorem ok_girth {f : Addr} {fd : FuncData} (F : Fun K "shortest_ring" "shortest_ring" (top 17) f fd) (T : TxtB mg) (FR : Ok P w K mg base "ring_around" 3 ["rows", "u"] (spRing K)) : FnOk P w K mg base CX0 4 f fd ["rows"] (spGirth K) := by
  refine F.ok scGirth (fun vs H Q E h => ?_) (fun cdv A outer s H vs Q E hr h => ?_)
  · obtain ⟨a, rs, rfl, _⟩ := h
    rfl
  · obtain ⟨a, rs, rfl, hS, hR, hY, k⟩ := h
    have h64 := hR.most
    refine ⟨_, pss_cons (ps_setLc (i := 1) rfl scGirth.nd rfl rfl (sw_true rfl rfl rfl rfl) (pi_range1 rfl T.range (pa_cons (pe_callB call_len_seq (by rfl) T.len PySem.boot_len (pa_cons (pv 0) pa_nil)) pa_nil))
        (blkOk_by (own := [("u", 2)]) rfl) (fun _ _ _ _ _ => pg_name (i := 2) scGirth.nd rfl (Or.inl rfl)) (fun _ _ _ _ _ => pts_nil) (fun _ _ _ _ _ => pe_fn FR hr (pa_cons (pv 0) (pa_cons (pv 2) pa_nil))))
      (pss_one (ps_ret (pe_minD rfl T.min (pa_cons (pe_lc rfl scGirth.nd (pi_list (pv 1)) (blkOk_by (own := [("ring", 3)]) rfl) (fun _ _ _ _ _ => pg_name (i := 3) scGirth.nd rfl (Or.inl rfl))
        (fun _ _ _ _ _ => pts_one (pt_cmpR op_gt (pv 3) pe_int (nomark _))) (fun _ _ _ _ _ => pv 3)) pa_nil) (pk_cons pe_int pk_nil)))), ?_⟩
    refine ⟨_, rfl, a, _, rfl, .inl hS, _, rfl, ?_, ?_, ?_⟩
    · show -(2 ^ 62) ≤ (((nVs rs).length : Nat) : Int)
      omega
    · show (((nVs rs).length : Nat) : Int) < 2 ^ 62
      simp; omega
    have e : ((((nVs rs).length : Nat) : Int)).toNat = rs.length := by simp
    rw [e]
    intro D hD
    refine lc_range (n := rs.length) (fun i H' => Same H H' ∧ H' D = some (.lst (nVs ((List.range i).map (ringM rs))))) ⟨same_upd hD, upd_same⟩ ?_ ?_
    · rintro i H1 hi ⟨s1, h1⟩
      refine ⟨rfl, ?_⟩
      refine ⟨_, rfl, _, rfl, a, rs, i, ?_, s1.seq hS, hR, hY, hi, fun H2 s2 => ⟨_, s2 _ _ h1, ?_, ?_, ?_⟩⟩
      · show [V.ref a, V.int (0 + (i : Int))] = _
        rw [Int.zero_add]
      · simp [sizeLine_eq]; omega
      · exact Same.upd (s1.trans s2) hD
      · rw [upd_same, List.range_succ, List.map_append, nVs_app]
        rfl
    · rintro H1 ⟨s1, h1⟩
      refine ⟨_, rfl, D, rfl, ⟨_, SqL.of h1⟩, ?_⟩
      intro D2 hD2
      refine lc_list (K := K) (a := D) (xs := nVs ((List.range rs.length).map (ringM rs))) (fun i H' => Same H1 H' ∧ H' D2 = some (.lst (nVs ((((List.range rs.length).map (ringM rs)).take i).filter fun r => decide (0 < r))))) ⟨same_upd hD2, upd_same⟩ (fun i H' _ ⟨s3, _⟩ => s3.seq (SqL.of h1)) ?_ ?_
      · rintro i x H2 hi ⟨s2, h2⟩
        obtain ⟨r, hr1, rfl⟩ := nVs_get hi
        have hlen : (((((List.range rs.length).map (ringM rs)).take i).filter fun r => decide (0 < r))).length ≤ rs.length := by
          refine Nat.le_trans (List.length_filter_le _ _) ?_
          rw [List.length_take]
          simp
          omega
        refine ⟨rfl, _, rfl, _, _, rfl, rfl, _, rfl, if2 (fun hb => ?_) (fun hb => ?_)⟩
        · have hp : 0 < r := by simpa using hb
          refine ⟨_, rfl, _, h2, ?_, ?_, ?_⟩
          · rw [List.length_map, sizeLine_eq]; omega
          · exact Same.upd s2 hD2
          · rw [upd_same, take_snoc hr1, List.filter_append, nVs_app]
            simp [hp]
        · have hp : r = 0 := by simpa using hb
          refine ⟨s2, ?_⟩
          rw [h2, take_snoc hr1, List.filter_append]
          simp [hp]
      · rintro H2 ⟨s2, h2⟩
        have e2 : (nVs ((List.range rs.length).map (ringM rs))).length = ((List.range rs.length).map (ringM rs)).length := by simp
        rw [e2, List.take_length] at h2
        have e0 : ∀ l : List Nat, nVs l = (l.map fun (r : Nat) => (r : Int)).map V.int := fun l => by rw [List.map_map]; rfl
        refine ⟨D2, _, V.int 0, rfl, rfl, SqL.of (by rw [← e0]; exact h2), fun hnil => ?_, fun m hm hml => ?_⟩
        · have q := k H2 (s1.trans s2)
          have : girthM rs = 0 := by
            unfold girthM
            rw [List.map_eq_nil_iff.mp hnil]; rfl
          rw [this] at q
          exact q
        · obtain ⟨r, hr1, rfl⟩ := List.mem_map.mp hm
          have q := k H2 (s1.trans s2)
          have : girthM rs = r := minM_of hr1 fun z hz => by
            have := hml (z : Int) (List.mem_map.mpr ⟨z, hz, rfl⟩)
            omega
          rw [this] at q
          exact q
end
end Fg
end
section
set_option Elab.async false
set_option linter.all false
set_option maxRecDepth 100000
set_option maxHeartbeats 2000000
namespace Fg
open PySem PySem.Spec PyProof.Rows L2
/-- a global that is a whole number -/
def Num (mg : Str → Option Value) (x : Str) (i : Int) : Prop := ∃ t, mg x = some (.int i t)
theorem pe_num {X : Cx} {x : Str} {i : Int} {pos : Pos} (h : Num X.mg x i) (hg : Gl X x := by rfl) (hd : (x == ("__debug__" : Str)) = false := by decide) : PE X (.Name x pos) (tC (.int i)) := by
  obtain ⟨t, e⟩ := h
  exact pe_glob hg e ⟨t, rfl⟩ hd
section
variable {P : Program} {w : World} {K : PySem.W.Frag} {mg : Str → Option Value} {base : Heap}
/-! ### is_size -/
def spSize : Sp := fun vs H Q _ => ∃ i : Int, vs = [.int i] ∧ Q (.bl (decide (1 ≤ i) && decide (i ≤ 64))) H
theorem scSize : FnScope ["n"] ["n"] (defScope (top 20)) := ⟨rfl, rfl, rfl, by decide +kernel, rfl, by decide +kernel, by decide +kernel⟩
theorem ok_isSize {f : Addr} {fd : FuncData} (F : Fun K "is_size" "is_size" (top 20) f fd) (M : Num mg "MOST_POINTS" 64) : FnOk P w K mg base CX0 1 f fd ["n"] spSize := by
  refine F.ok scSize (fun vs H Q E h => ?_) (fun cdv A outer s H vs Q E hr h => ?_)
  · obtain ⟨i, rfl, _⟩ := h
    rfl
  · obtain ⟨i, rfl, k⟩ := h
    refine ⟨_, pss_one (ps_ret (pe_and (pe_cmpR op_le pe_int (pv 0) (nomark _)) (pe_one (pe_cmpR op_le (pv 0) (pe_num M) (nomark _))))), ?_⟩
    refine ⟨_, rfl, _, _, rfl, rfl, _, rfl, if2 (fun hb => ?_) (fun hb => ?_)⟩
    · refine ⟨_, rfl, _, _, rfl, rfl, ?_⟩
      rw [hb, Bool.true_and] at k
      exact k
    · rw [hb, Bool.false_and] at k
      exact k
/-! ### rows_agree -/
theorem toNat_eq_iff (a b : Bool) : decide (V.int (a.toNat : Int) = V.int (b.toNat : Int)) = (a == b) := by
  cases a <;> cases b <;> decide
theorem toNat_one (a : Bool) : decide (V.int (a.toNat : Int) = V.int 1) = a := by
  cases a <;> decide
def spAgree (K : PySem.W.Frag) : Sp := fun vs H Q _ => ∃ (a : Addr) (rs : List Nat), vs = [.ref a] ∧ SqL K H a (nVs rs) ∧ rs.length ≤ 64 ∧ Q (.bl (agreeM rs)) H
theorem scAgree : FnScope ["rows", "u", "v"] ["rows"] (defScope (top 21)) := ⟨rfl, rfl, rfl, by decide +kernel, rfl, by decide +kernel, by decide +kernel⟩
theorem ok_agree {f : Addr} {fd : FuncData} (F : Fun K "rows_agree" "rows_agree" (top 21) f fd) (T : TxtB mg) (FB : Ok P w K mg base "bit_of" 1 ["row", "v"] spBit) : FnOk P w K mg base CX0 2 f fd ["rows"] (spAgree K) := by
  refine F.ok scAgree (fun vs H Q E h => ?_) (fun cdv A outer s H vs Q E hr h => ?_)
  · obtain ⟨a, rs, rfl, _⟩ := h
    rfl
  · obtain ⟨a, rs, rfl, hS, h64, k⟩ := h
    refine ⟨_, pss_cons (ps_for PassesOwn.never rfl (pi_range1 rfl T.range (pa_cons (pe_callB call_len_seq (by rfl) T.len PySem.boot_len (pa_cons (pv 0) pa_nil)) pa_nil)) (pg_name (i := 1) scAgree.nd rfl (Or.inl rfl))
        (pss_cons (ps_if (pt_cmpR op_eq (pe_fn FB hr (pa_cons (pe_ix ix_list (pv 0) (pv 1) (fun _ _ => rfl)) (pa_cons (pv 1) pa_nil))) pe_int (nomark _)) (pss_one (ps_ret pe_bl)) pss_nil)
        (pss_one (ps_for PassesOwn.never rfl (pi_range1 rfl T.range (pa_cons (pv 1) pa_nil)) (pg_name (i := 2) scAgree.nd rfl (Or.inl rfl))
          (pss_one (ps_if (pt_cmpR op_ne (pe_fn FB hr (pa_cons (pe_ix ix_list (pv 0) (pv 1) (fun _ _ => rfl)) (pa_cons (pv 2) pa_nil))) (pe_fn FB hr (pa_cons (pe_ix ix_list (pv 0) (pv 2) (fun _ _ => rfl)) (pa_cons (pv 1) pa_nil))) (nomark _)) (pss_one (ps_ret pe_bl)) pss_nil))))))
      (pss_one (ps_ret pe_bl)), ?_⟩
    refine ⟨_, rfl, a, _, rfl, .inl hS, _, rfl, ?_, ?_, ?_⟩
    · show -(2 ^ 62) ≤ (((nVs rs).length : Nat) : Int)
      omega
    · show (((nVs rs).length : Nat) : Int) < 2 ^ 62
      simp; omega
    have e : ((((nVs rs).length : Nat) : Int)).toNat = rs.length := by simp
    rw [e]
    refine for_range (n := rs.length) (fun i σ H' => H' = H ∧ (∀ u, u < i → ((!(rs.getD u 0).testBit u && (List.range u).all fun v => (rs.getD u 0).testBit v == (rs.getD v 0).testBit u) = true)) ∧ ∃ x y : Option V, σ = [some (.ref a), x, y])
      ⟨rfl, fun j hj => by omega, none, none, rfl⟩ ?_ ?_
    · rintro i σ H' hi ⟨rfl, hf, x, y, rfl⟩
      have ei : V.int (0 + (i : Int)) = nV i := by rw [Int.zero_add]
      rw [ei]
      refine ⟨_, rfl, _, rfl, a, _, _, _, rfl, rfl, hS, nVs_at hi, _, rfl, _, i, rfl, rfl, _, rfl, ?_⟩
      rw [toNat_one]
      refine if2 (fun hb => ?_) (fun hb => ?_)
      · rw [show agreeM rs = false from all_false hi (by rw [hb]; rfl)] at k
        exact k
      · refine ⟨_, rfl, _, rfl, ?_, ?_, ?_⟩
        · show -(2 ^ 62) ≤ (i : Int)
          omega
        · show (i : Int) < 2 ^ 62
          omega
        rw [Int.toNat_natCast]
        refine for_range (n := i) (fun j σ H2 => H2 = H' ∧ (∀ v, v < j → ((rs.getD i 0).testBit v == (rs.getD v 0).testBit i) = true) ∧ ∃ y : Option V, σ = [some (.ref a), some (nV i), y])
          ⟨rfl, fun j hj => by omega, y, rfl⟩ ?_ ?_
        · rintro j σ H2 hj ⟨rfl, hg, y, rfl⟩
          have ej : V.int (0 + (j : Int)) = nV j := by rw [Int.zero_add]
          rw [ej]
          refine ⟨_, rfl, _, rfl, a, _, _, _, rfl, rfl, hS, nVs_at hi, _, rfl, _, j, rfl, _, rfl, _, rfl, a, _, _, _, rfl, rfl, hS, nVs_at (show j < rs.length by omega), _, rfl, _, i, rfl, rfl, _, rfl, ?_⟩
          rw [toNat_eq_iff]
          refine if2 (fun hb2 => ?_) (fun hb2 => ?_)
          · have hb3 : ((rs.getD i 0).testBit j == (rs.getD j 0).testBit i) = false := by
              cases q : ((rs.getD i 0).testBit j == (rs.getD j 0).testBit i) with
              | false => rfl
              | true => rw [q] at hb2; cases hb2
            rw [show agreeM rs = false from all_false hi (by rw [all_false hj hb3, Bool.and_false])] at k
            exact k
          · have hb3 : ((rs.getD i 0).testBit j == (rs.getD j 0).testBit i) = true := by
              cases q : ((rs.getD i 0).testBit j == (rs.getD j 0).testBit i) with
              | true => rfl
              | false => rw [q] at hb2; cases hb2
            refine ⟨rfl, fun v hv => ?_, _, rfl⟩
            by_cases e2 : v = j
            · subst e2; exact hb3
            · exact hg v (by omega)
        · rintro σ H2 ⟨rfl, hg, y, rfl⟩
          refine ⟨rfl, fun u hu => ?_, _, _, rfl⟩
          by_cases e2 : u = i
          · subst e2
            rw [hb, all_true hg]; rfl
          · exact hf u (by omega)
    · rintro σ H' ⟨rfl, hf, x, y, rfl⟩
      rw [show agreeM rs = true from all_true hf] at k
      exact k
/-! ### are_rows -/
def spAre (K : PySem.W.Frag) : Sp := fun vs H Q _ => ∃ (a : Addr) (rs : List Nat), vs = [.ref a] ∧ SqL K H a (nVs rs) ∧ Q (.bl (areM rs)) H
theorem scAre : FnScope ["rows", "n", "row"] ["rows"] (defScope (top 22)) := ⟨rfl, rfl, rfl, by decide +kernel, rfl, by decide +kernel, by decide +kernel⟩
theorem ok_are {f : Addr} {fd : FuncData} (F : Fun K "are_rows" "are_rows" (top 22) f fd) (T : TxtB mg) (FS : Ok P w K mg base "is_size" 1 ["n"] spSize) (FA : Ok P w K mg base "rows_agree" 2 ["rows"] (spAgree K)) : FnOk P w K mg base CX0 3 f fd ["rows"] (spAre K) := by
  refine F.ok scAre (fun vs H Q E h => ?_) (fun cdv A outer s H vs Q E hr h => ?_)
  · obtain ⟨a, rs, rfl, _⟩ := h
    rfl
  · obtain ⟨a, rs, rfl, hS, k⟩ := h
    refine ⟨_, pss_cons (ps_set (i := 1) scAre.nd rfl (Or.inl rfl) (pe_callB call_len_seq (by rfl) T.len PySem.boot_len (pa_cons (pv 0) pa_nil)))
      (pss_cons (ps_if (pt_not (pt_val (pe_fn FS (hr.mono (by decide)) (pa_cons (pv 1) pa_nil)))) (pss_one (ps_ret pe_bl)) pss_nil)
      (pss_cons (ps_for PassesOwn.never rfl (pi_list (pv 0)) (pg_name (i := 2) scAre.nd rfl (Or.inl rfl))
        (pss_one (ps_if (pt_cmpR op_ne (pe_op op_shr (pv 2) (pv 1)) pe_int (nomark _)) (pss_one (ps_ret pe_bl)) pss_nil)))
      (pss_one (ps_ret (pe_fn FA hr (pa_cons (pv 0) pa_nil)))))), ?_⟩
    have e : (((nVs rs).length : Nat) : Int) = (rs.length : Int) := by simp
    refine ⟨_, rfl, a, _, rfl, .inl hS, ?_⟩
    rw [e]
    have eb : (decide ((1 : Int) ≤ (rs.length : Int)) && decide ((rs.length : Int) ≤ 64)) = (decide (1 ≤ rs.length) && decide (rs.length ≤ 64)) := by
      congr 1 <;> (rw [Bool.eq_iff_iff]; simp; try omega)
    refine ⟨_, rfl, _, rfl, _, rfl, if2 (fun hb => ?_) (fun hb => ?_)⟩
    · rw [eb] at hb
      have hb' : (decide (1 ≤ rs.length) && decide (rs.length ≤ 64)) = false := notT hb
      unfold areM at k
      rw [hb', Bool.false_and] at k
      exact k
    · rw [eb] at hb
      have hb' : (decide (1 ≤ rs.length) && decide (rs.length ≤ 64)) = true := by
        cases q : (decide (1 ≤ rs.length) && decide (rs.length ≤ 64)) with
        | true => rfl
        | false => rw [q] at hb; cases hb
      have h64 : rs.length ≤ 64 := by simp at hb'; omega
      unfold areM at k
      rw [hb', Bool.true_and] at k
      refine ⟨_, rfl, a, rfl, ⟨_, hS⟩, for_list (K := K) (a := a) (xs := nVs rs) (fun i σ H' => H' = H ∧ (∃ x : Option V, σ = [some (.ref a), some (nV rs.length), x]) ∧ (rs.take i).all (fun r => r >>> rs.length == 0) = true)
        ⟨rfl, ⟨none, rfl⟩, rfl⟩ (fun i σ H' _ ⟨e, _⟩ => by rw [e]; exact hS) ?_ ?_⟩
      · rintro i x σ H' hi ⟨rfl, ⟨y, rfl⟩, ha⟩
        obtain ⟨r, hr1, rfl⟩ := nVs_get hi
        refine ⟨_, rfl, _, rfl, _, _, rfl, rfl, (by show (0 : Int) ≤ rs.length; omega), rfl, _, rfl, ?_⟩
        by_cases hz : r >>> rs.length = 0
        · refine ifF (by show (!decide (V.int ((r : Int) / 2 ^ ((rs.length : Int).toNat)) = V.int 0)) = false; rw [shr_nat]; simp [hz]) ⟨rfl, ⟨_, rfl⟩, ?_⟩
          rw [take_snoc hr1, List.all_append, ha]
          simp [hz]
        · refine ifT ?_ ?_
          · show (!decide (V.int ((r : Int) / 2 ^ ((rs.length : Int).toNat)) = V.int 0)) = true
            rw [shr_nat]
            have : ¬ (V.int ((r >>> rs.length : Nat) : Int) = V.int 0) := fun q => by
              have q' := V.int.inj q
              omega
            rw [decide_eq_false this]; rfl
          · have : rs.all (fun r => r >>> rs.length == 0) = false := by
              rw [List.all_eq_false]
              exact ⟨r, List.mem_of_getElem? hr1, by simp [hz]⟩
            rw [this, Bool.false_and] at k
            exact k
      · rintro σ H' ⟨rfl, ⟨y, rfl⟩, ha⟩
        have e2 : (nVs rs).length = rs.length := by simp
        rw [e2, List.take_length] at ha
        rw [ha, Bool.true_and] at k
        exact ⟨_, rfl, a, rs, rfl, hS, h64, k⟩
end
end Fg
end
section
set_option Elab.async false
set_option linter.all false
set_option maxRecDepth 100000
set_option maxHeartbeats 2000000
namespace Fg
open PySem PySem.Spec PyProof.Rows L2
theorem pe_mt0 {X : Cx} {m : Str} {k : Nat} {ps : List Str} {sp : Sp} {pos apos : Pos} {C : Addr} {o : Expr} {ta : TE} {pl : Sem Bool} (c : Cls X.K C) (F : OkM X.prog X.w X.K X.mg X.base C m k ps sp) (hr : Room k X.A) (he : PE X o ta)
    (ht : eval (.Call (.Attribute o m apos) [] [] pos) X.env = (do
      let ov ← eval o X.env
      standAt apos.atName
      let (f, first) ← holding [ov] (getMethod ov m pl)
      callWith pos f first (backTo pos (starEach [] X.env)) (backToKw pos (keywordEach [] X.env))) := by rfl) : PE X (.Call (.Attribute o m apos) [] [] pos) (tMeth C m sp [] E0 ta tNil) := by
  obtain ⟨f, fd, h1, h2, h3⟩ := F.ex
  exact pe_meth0 (pl := pl) he c h1 h3 hr h2 .nil pass0 ht
/-! ### the object -/
def gf (l : Addr) : List (Str × V) := putF "neighbours" (.ref l) []
theorem gf_nb (l : Addr) : (gf l).lookup ("neighbours" : Str) = some (.ref l) := by
  unfold gf
  rw [lookup_putF, if_pos rfl]
theorem gf_no (l : Addr) {m : Str} (h : ¬ m = "neighbours") : (gf l).lookup m = none := by
  unfold gf
  rw [lookup_putF, if_neg h]
  rfl
theorem gf_put (l k : Addr) : putF "neighbours" (.ref k) (gf l) = gf k := by
  show (if ("neighbours" : Str) = "neighbours" then [(("neighbours" : Str), V.ref k)] else _) = ([("neighbours", V.ref k)] : List (Str × V))
  rw [if_pos rfl]
/-- the graph with these rows stands at g, its list at l -/
structure GAt (C : Addr) (H : Hp) (g l : Addr) (rs : List Nat) : Prop where
  obj : ∃ dx, H g = some (.ins C dx (gf l))
  lst : H l = some (.lst (nVs rs))
theorem GAt.same {C : Addr} {H H' : Hp} {g l : Addr} {rs : List Nat} (G : GAt C H g l rs) (s : Same H H') : GAt C H' g l rs :=
  ⟨let ⟨dx, h⟩ := G.obj; ⟨dx, s _ _ h⟩, s _ _ G.lst⟩
structure TxtG (K : PySem.W.Frag) (mg : Str → Option Value) (C : Addr) : Prop where
  b : TxtB mg
  cl : Cls K C
  nN : NoAttr K C "neighbours"
  most : Num mg "MOST_POINTS" 64
  ref : Num mg "REFUSED" (-1)
  nots : Num mg "NOT_SO" (-2)
section
variable {P : Program} {w : World} {K : PySem.W.Frag} {mg : Str → Option Value} {base : Heap} {C : Addr}
/-! ### has_points -/
def spHas (C : Addr) : Sp := fun vs H Q _ => ∃ (g l : Addr) (rs : List Nat) (u v : Int), vs = [.ref g, .int u, .int v] ∧ GAt C H g l rs ∧ Q (.bl (hasM rs u v)) H
theorem scHas : FnScope ["self", "u", "v", "n"] ["self", "u", "v"] (defScope (meth 14)) := ⟨rfl, rfl, rfl, by decide +kernel, rfl, by decide +kernel, by decide +kernel⟩
theorem ok_has {f : Addr} {fd : FuncData} (F : Fun K "has_points" "Graph.has_points" (meth 14) f fd) (T : TxtG K mg C) : FnOk P w K mg base CX0 1 f fd ["self", "u", "v"] (spHas C) := by
  refine F.ok scHas (fun vs H Q E h => ?_) (fun cdv A outer s H vs Q E hr h => ?_)
  · obtain ⟨g, l, rs, u, v, rfl, _⟩ := h
    rfl
  · obtain ⟨g, l, rs, u, v, rfl, G, k⟩ := h
    obtain ⟨dx, hg⟩ := G.obj
    refine ⟨_, pss_cons (ps_set (i := 3) scHas.nd rfl (Or.inl rfl) (pe_callB call_len_seq (by rfl) T.b.len PySem.boot_len (pa_cons (pe_fld (pv 0) rfl) pa_nil)))
      (pss_one (ps_ret (pe_and (pe_cmpR op_le pe_int (pv 1) (nomark _)) (pe_and (pe_cmpR op_lt (pv 1) (pv 3) (nomark _)) (pe_and (pe_cmpR op_le pe_int (pv 2) (nomark _)) (pe_one (pe_cmpR op_lt (pv 2) (pv 3) (nomark _)))))))), ?_⟩
    have e : (((nVs rs).length : Nat) : Int) = (rs.length : Int) := by simp
    refine ⟨_, rfl, g, C, dx, _, _, rfl, hg, T.cl, T.nN, gf_nb l, l, _, rfl, .inl (SqL.of G.lst), ?_⟩
    rw [e]
    unfold hasM at k
    refine ⟨_, rfl, _, _, rfl, rfl, _, rfl, if2 (fun h1 => ?_) (fun h1 => ?_)⟩
    · rw [h1, Bool.true_and] at k
      refine ⟨_, rfl, _, rfl, _, _, rfl, rfl, _, rfl, if2 (fun h2 => ?_) (fun h2 => ?_)⟩
      · rw [h2, Bool.true_and] at k
        refine ⟨_, rfl, _, _, rfl, rfl, _, rfl, if2 (fun h3 => ?_) (fun h3 => ?_)⟩
        · rw [h3, Bool.true_and] at k
          exact ⟨_, rfl, _, rfl, _, _, rfl, rfl, k⟩
        · rw [h3, Bool.false_and] at k
          exact k
      · rw [h2, Bool.false_and] at k
        exact k
    · rw [h1, Bool.false_and] at k
      exact k
/-! ### all_points -/
def spAllP (C : Addr) : Sp := fun vs H Q _ => ∃ (g l : Addr) (rs : List Nat), vs = [.ref g] ∧ GAt C H g l rs ∧ rs.length ≤ 64 ∧ Q (nV (2 ^ rs.length - 1)) H
theorem scAllP : FnScope ["self"] ["self"] (defScope (meth 15)) := ⟨rfl, rfl, rfl, by decide +kernel, rfl, by decide +kernel, by decide +kernel⟩
theorem ok_allP {f : Addr} {fd : FuncData} (F : Fun K "all_points" "Graph.all_points" (meth 15) f fd) (T : TxtG K mg C) (FF : Ok P w K mg base "first_bits" 1 ["n"] spFirst) : FnOk P w K mg base CX0 2 f fd ["self"] (spAllP C) := by
  refine F.ok scAllP (fun vs H Q E h => ?_) (fun cdv A outer s H vs Q E hr h => ?_)
  · obtain ⟨g, l, rs, rfl, _⟩ := h
    rfl
  · obtain ⟨g, l, rs, rfl, G, h64, k⟩ := h
    obtain ⟨dx, hg⟩ := G.obj
    refine ⟨_, pss_one (ps_ret (pe_fn FF hr (pa_cons (pe_callB call_len_seq (by rfl) T.b.len PySem.boot_len (pa_cons (pe_fld (pv 0) rfl) pa_nil)) pa_nil))), ?_⟩
    exact ⟨_, rfl, g, C, dx, _, _, rfl, hg, T.cl, T.nN, gf_nb l, l, _, rfl, .inl (SqL.of G.lst), rs.length, by simp, h64, k⟩
/-! ### in_common -/
def spInC (C : Addr) : Sp := fun vs H Q _ => ∃ (g l : Addr) (rs : List Nat) (u v : Nat), vs = [.ref g, nV u, nV v] ∧ GAt C H g l rs ∧ Rw rs ∧ u < rs.length ∧ v < rs.length ∧ Q (nV (cmM rs u v)) H
theorem scInC : FnScope ["self", "u", "v"] ["self", "u", "v"] (defScope (meth 16)) := ⟨rfl, rfl, rfl, by decide +kernel, rfl, by decide +kernel, by decide +kernel⟩
theorem ok_inC {f : Addr} {fd : FuncData} (F : Fun K "in_common" "Graph.in_common" (meth 16) f fd) (T : TxtG K mg C) (FB : Ok P w K mg base "bits_set" 1 ["row"] spBits) : FnOk P w K mg base CX0 2 f fd ["self", "u", "v"] (spInC C) := by
  refine F.ok scInC (fun vs H Q E h => ?_) (fun cdv A outer s H vs Q E hr h => ?_)
  · obtain ⟨g, l, rs, u, v, rfl, _⟩ := h
    rfl
  · obtain ⟨g, l, rs, u, v, rfl, G, hR, hu, hv, k⟩ := h
    obtain ⟨dx, hg⟩ := G.obj
    refine ⟨_, pss_one (ps_ret (pe_fn FB hr (pa_cons (pe_op op_and (pe_ix ix_list (pe_fld (pv 0) rfl) (pv 1) (fun _ _ => rfl)) (pe_ix ix_list (pe_fld (pv 0) rfl) (pv 2) (fun _ _ => rfl))) pa_nil))), ?_⟩
    refine ⟨_, rfl, g, C, dx, _, _, rfl, hg, T.cl, T.nN, gf_nb l, _, rfl, l, _, _, _, rfl, rfl, SqL.of G.lst, nVs_at hu, _, rfl, g, C, dx, _, _, rfl, hg, T.cl, T.nN, gf_nb l, _, rfl, l, _, _, _, rfl, rfl, SqL.of G.lst, nVs_at hv, _, _, rfl, rfl, ?_⟩
    refine ⟨rs.getD u 0 &&& rs.getD v 0, rs.length, ?_, Nat.lt_of_le_of_lt Nat.and_le_left (hR.getD u), k⟩
    show [V.int (Builtin.bitAnd _ _)] = _
    rw [bitAnd_nn]
/-! ### all_have -/
def spHave (C : Addr) : Sp := fun vs H Q _ => ∃ (g l : Addr) (rs : List Nat) (c : Nat), vs = [.ref g, nV c] ∧ GAt C H g l rs ∧ Rw rs ∧ Q (.bl (rs.all fun r => pc rs.length r == c)) H
theorem scHave : FnScope ["self", "k", "row"] ["self", "k"] (defScope (meth 17)) := ⟨rfl, rfl, rfl, by decide +kernel, rfl, by decide +kernel, by decide +kernel⟩
theorem nat_ne (a b : Nat) : (!decide (V.int (a : Int) = V.int (b : Int))) = !(a == b) := by
  by_cases h : a = b
  · subst h; simp
  · have : ¬ (V.int (a : Int) = V.int (b : Int)) := fun q => by
      have q' := V.int.inj q
      omega
    rw [decide_eq_false this]; simp [h]
theorem ok_have {f : Addr} {fd : FuncData} (F : Fun K "all_have" "Graph.all_have" (meth 17) f fd) (T : TxtG K mg C) (FB : Ok P w K mg base "bits_set" 1 ["row"] spBits) : FnOk P w K mg base CX0 2 f fd ["self", "k"] (spHave C) := by
  refine F.ok scHave (fun vs H Q E h => ?_) (fun cdv A outer s H vs Q E hr h => ?_)
  · obtain ⟨g, l, rs, c, rfl, _⟩ := h
    rfl
  · obtain ⟨g, l, rs, c, rfl, G, hR, k⟩ := h
    obtain ⟨dx, hg⟩ := G.obj
    refine ⟨_, pss_cons (ps_for PassesOwn.never rfl (pi_list (pe_fld (pv 0) rfl)) (pg_name (i := 2) scHave.nd rfl (Or.inl rfl))
        (pss_one (ps_if (pt_cmpR op_ne (pe_fn FB hr (pa_cons (pv 2) pa_nil)) (pv 1) (nomark _)) (pss_one (ps_ret pe_bl)) pss_nil)))
      (pss_one (ps_ret pe_bl)), ?_⟩
    refine ⟨_, rfl, g, C, dx, _, _, rfl, hg, T.cl, T.nN, gf_nb l, l, rfl, ⟨_, SqL.of G.lst⟩, for_list (K := K) (a := l) (xs := nVs rs) (fun i σ H' => H' = H ∧ (∃ x : Option V, σ = [some (.ref g), some (nV c), x]) ∧ (rs.take i).all (fun r => pc rs.length r == c) = true)
      ⟨rfl, ⟨none, rfl⟩, rfl⟩ (fun i σ H' _ ⟨e, _⟩ => by rw [e]; exact SqL.of G.lst) ?_ ?_⟩
    · rintro i x σ H' hi ⟨rfl, ⟨y, rfl⟩, ha⟩
      obtain ⟨r, hr1, rfl⟩ := nVs_get hi
      refine ⟨_, rfl, r, rs.length, rfl, hR.low r (List.mem_of_getElem? hr1), _, rfl, rfl, _, rfl, ?_⟩
      rw [nat_ne]
      refine if2 (fun hb => ?_) (fun hb => ?_)
      · have hb' := notT hb
        have : rs.all (fun r => pc rs.length r == c) = false := by
          rw [List.all_eq_false]
          exact ⟨r, List.mem_of_getElem? hr1, by rw [hb']; simp⟩
        rw [this] at k
        exact k
      · refine ⟨rfl, ⟨_, rfl⟩, ?_⟩
        rw [take_snoc hr1, List.all_append, ha, List.all_cons, notF hb]
        rfl
    · rintro σ H' ⟨rfl, ⟨y, rfl⟩, ha⟩
      have e2 : (nVs rs).length = rs.length := by simp
      rw [e2, List.take_length] at ha
      rw [ha] at k
      exact k
/-! ### always_common -/
/-- what has been found among the pairs taken -/
def AlwTo (rs : List Nat) (on : Bool) (T : Nat → Nat → Prop) : Option Nat → Prop
  | some c => (∃ u v, T u v ∧ v < u ∧ u < rs.length ∧ (rs.getD u 0).testBit v = on ∧ cmM rs u v = c) ∧ ∀ u v, T u v → v < u → u < rs.length → (rs.getD u 0).testBit v = on → cmM rs u v = c
  | none => ∀ u v, T u v → v < u → u < rs.length → (rs.getD u 0).testBit v ≠ on
theorem AlwTo.imp {rs : List Nat} {on : Bool} {T T' : Nat → Nat → Prop} {o : Option Nat} (h : AlwTo rs on T o) (e : ∀ u v, T u v ↔ T' u v) : AlwTo rs on T' o := by
  have : T = T' := by funext u v; exact propext (e u v)
  subst this; exact h
def spAlw (C : Addr) : Sp := fun vs H Q _ => ∃ (g l : Addr) (rs : List Nat) (on : Bool), vs = [.ref g, nV on.toNat] ∧ GAt C H g l rs ∧ Rw rs ∧ ∀ o, AlwIs rs on o → Q (oV o) H
theorem scAlw : FnScope ["self", "on", "found", "u", "v", "shared"] ["self", "on"] (defScope (meth 18)) := ⟨rfl, rfl, rfl, by decide +kernel, rfl, by decide +kernel, by decide +kernel⟩
theorem ok_alw {f : Addr} {fd : FuncData} (F : Fun K "always_common" "Graph.always_common" (meth 18) f fd) (T : TxtG K mg C) (FB : Ok P w K mg base "bit_of" 1 ["row", "v"] spBit) (FI : OkM P w K mg base C "in_common" 2 ["self", "u", "v"] (spInC C)) : FnOk P w K mg base CX0 3 f fd ["self", "on"] (spAlw C) := by
  refine F.ok scAlw (fun vs H Q E h => ?_) (fun cdv A outer s H vs Q E hr h => ?_)
  · obtain ⟨g, l, rs, on, rfl, _⟩ := h
    rfl
  · obtain ⟨g, l, rs, on, rfl, G, hR, k⟩ := h
    obtain ⟨dx, hg⟩ := G.obj
    have h64 := hR.most
    refine ⟨_, pss_cons (ps_set (i := 2) scAlw.nd rfl (Or.inl rfl) pe_non)
      (pss_cons (ps_for PassesOwn.never rfl (pi_range1 rfl T.b.range (pa_cons (pe_callB call_len_seq (by rfl) T.b.len PySem.boot_len (pa_cons (pe_fld (pv 0) rfl) pa_nil)) pa_nil)) (pg_name (i := 3) scAlw.nd rfl (Or.inl rfl))
        (pss_one (ps_for PassesOwn.never rfl (pi_range1 rfl T.b.range (pa_cons (pv 3) pa_nil)) (pg_name (i := 4) scAlw.nd rfl (Or.inl rfl))
          (pss_one (ps_if (pt_cmpR op_eq (pe_fn FB (hr.mono (by decide)) (pa_cons (pe_ix ix_list (pe_fld (pv 0) rfl) (pv 3) (fun _ _ => rfl)) (pa_cons (pv 4) pa_nil))) (pv 1) (nomark _))
            (pss_cons (ps_set (i := 5) scAlw.nd rfl (Or.inl rfl) (pe_mt T.cl FI hr (pv 0) (pa_cons (pv 3) (pa_cons (pv 4) pa_nil))))
            (pss_cons (ps_if (pt_cmpR op_isN (pv 2) pe_non (nomark _)) (pss_one (ps_set (i := 2) scAlw.nd rfl (Or.inl rfl) (pv 5))) pss_nil)
            (pss_one (ps_if (pt_cmpR op_ne (pv 2) (pv 5) (nomark _)) (pss_one (ps_ret pe_non)) pss_nil)))) pss_nil)))))
      (pss_one (ps_ret (pv 2)))), ?_⟩
    refine ⟨_, rfl, g, C, dx, _, _, rfl, hg, T.cl, T.nN, gf_nb l, l, _, rfl, .inl (SqL.of G.lst), _, rfl, ?_, ?_, ?_⟩
    · show -(2 ^ 62) ≤ (((nVs rs).length : Nat) : Int)
      omega
    · show (((nVs rs).length : Nat) : Int) < 2 ^ 62
      simp; omega
    have e : ((((nVs rs).length : Nat) : Int)).toNat = rs.length := by simp
    rw [e]
    refine for_range (n := rs.length) (fun i σ H' => H' = H ∧ ∃ (o : Option Nat) (x y z : Option V), σ = [some (.ref g), some (nV on.toNat), some (oV o), x, y, z] ∧ AlwTo rs on (fun u _ => u < i) o)
      ⟨rfl, none, none, none, none, rfl, fun u v hu => by omega⟩ ?_ ?_
    · rintro i σ H' hi ⟨rfl, o, x, y, z, rfl, ho⟩
      have ei : V.int (0 + (i : Int)) = nV i := by rw [Int.zero_add]
      rw [ei]
      refine ⟨_, rfl, _, rfl, ?_, ?_, ?_⟩
      · show -(2 ^ 62) ≤ (i : Int)
        omega
      · show (i : Int) < 2 ^ 62
        omega
      rw [Int.toNat_natCast]
      refine for_range (n := i) (fun j σ H2 => H2 = H' ∧ ∃ (o : Option Nat) (y z : Option V), σ = [some (.ref g), some (nV on.toNat), some (oV o), some (nV i), y, z] ∧ AlwTo rs on (fun u v => u < i ∨ (u = i ∧ v < j)) o)
        ⟨rfl, o, y, z, rfl, ho.imp fun u v => by constructor <;> omega⟩ ?_ ?_
      · rintro j σ H2 hj ⟨rfl, o, y, z, rfl, ho⟩
        have ej : V.int (0 + (j : Int)) = nV j := by rw [Int.zero_add]
        rw [ej]
        have hjn : j < rs.length := by omega
        refine ⟨_, rfl, g, C, dx, _, _, rfl, hg, T.cl, T.nN, gf_nb l, _, rfl, l, _, _, _, rfl, rfl, SqL.of G.lst, nVs_at hi, _, rfl, _, j, rfl, _, rfl, rfl, _, rfl, ?_⟩
        rw [toNat_eq_iff]
        refine if2 (fun hb => ?_) (fun hb => ?_)
        · have hon : (rs.getD i 0).testBit j = on := eq_of_beq hb
          refine ⟨_, rfl, g, dx, _, rfl, hg, gf_no l (by decide +kernel), _, rfl, _, rfl, g, l, rs, i, j, rfl, G, hR, hi, hjn, ?_⟩
          cases o with
          | none =>
            refine ⟨_, rfl, rfl, _, rfl, ifT rfl ?_⟩
            refine ⟨_, rfl, _, rfl, _, rfl, rfl, _, rfl, ifF (by simp) ⟨rfl, some (cmM rs i j), _, _, rfl, ⟨i, j, .inr ⟨rfl, by omega⟩, hj, hi, hon, rfl⟩, fun u v hT hvu hun huv => ?_⟩⟩
            by_cases hc : u < i ∨ u = i ∧ v < j
            · exact absurd huv (ho u v hc hvu hun)
            · have e1 : u = i := by omega
              have e2 : v = j := by omega
              subst e1 e2; rfl
          | some c =>
            refine ⟨_, rfl, rfl, _, rfl, ifF rfl ?_⟩
            refine ⟨_, rfl, _, rfl, rfl, _, rfl, ?_⟩
            show if (!decide (V.int (c : Int) = V.int ((cmM rs i j : Nat) : Int))) = true then _ else _
            rw [nat_ne]
            refine if2 (fun hb2 => ?_) (fun hb2 => ?_)
            · have hb3 := notT hb2
              obtain ⟨⟨u, v, hT, hvu, hun, huv, hc⟩, _⟩ := ho
              refine k none (.inr ⟨u, v, i, j, hvu, hun, huv, hj, hi, hon, ?_⟩)
              rw [hc]
              intro q
              rw [q] at hb3; simp at hb3
            · have hb3 : c = cmM rs i j := eq_of_beq (notF hb2)
              obtain ⟨⟨u, v, hT, hvu, hun, huv, hc⟩, hall⟩ := ho
              refine ⟨rfl, some c, _, _, rfl, ⟨u, v, by omega, hvu, hun, huv, hc⟩, fun u v hT hvu hun huv => ?_⟩
              by_cases hcc : u < i ∨ u = i ∧ v < j
              · exact hall u v hcc hvu hun huv
              · have e1 : u = i := by omega
                have e2 : v = j := by omega
                subst e1 e2; exact hb3.symm
        · have hne : (rs.getD i 0).testBit j ≠ on := by
            intro q; rw [q] at hb; simp at hb
          refine ⟨rfl, o, _, _, rfl, ?_⟩
          cases o with
          | none =>
            intro u v hT hvu hun huv
            by_cases hc : u < i ∨ u = i ∧ v < j
            · exact ho u v hc hvu hun huv
            · have e1 : u = i := by omega
              have e2 : v = j := by omega
              subst e1 e2; exact hne huv
          | some c =>
            obtain ⟨⟨u, v, hT, hvu, hun, huv, hc⟩, hall⟩ := ho
            refine ⟨⟨u, v, by omega, hvu, hun, huv, hc⟩, fun u v hT hvu hun huv => ?_⟩
            by_cases hcc : u < i ∨ u = i ∧ v < j
            · exact hall u v hcc hvu hun huv
            · have e1 : u = i := by omega
              have e2 : v = j := by omega
              subst e1 e2; exact absurd huv hne
      · rintro σ H2 ⟨rfl, o, y, z, rfl, ho⟩
        refine ⟨rfl, o, _, _, _, rfl, ?_⟩
        cases o with
        | none => exact fun u v hT hvu hun => ho u v (by omega) hvu hun
        | some c =>
          obtain ⟨⟨u, v, hT, hvu, hun, huv, hc⟩, hall⟩ := ho
          exact ⟨⟨u, v, by omega, hvu, hun, huv, hc⟩, fun u v hT hvu hun huv => hall u v (by omega) hvu hun huv⟩
    · rintro σ H' ⟨rfl, o, x, y, z, rfl, ho⟩
      refine ⟨_, rfl, k o ?_⟩
      cases o with
      | none => exact .inl fun u v hvu hun => ho u v hun hvu hun
      | some c =>
        obtain ⟨⟨u, v, hT, hvu, hun, huv, hc⟩, hall⟩ := ho
        exact ⟨⟨u, v, hvu, hun, huv, hc⟩, fun u v hvu hun huv => hall u v hun hvu hun huv⟩
/-! ### switched_row -/
def spSwr (C : Addr) : Sp := fun vs H Q _ => ∃ (g l : Addr) (rs : List Nat) (u c : Nat), vs = [.ref g, nV u, nV c] ∧ GAt C H g l rs ∧ rs.length ≤ 64 ∧ u < rs.length ∧ Q (nV (swr rs u c)) H
theorem scSwr : FnScope ["self", "u", "chosen"] ["self", "u", "chosen"] (defScope (meth 19)) := ⟨rfl, rfl, rfl, by decide +kernel, rfl, by decide +kernel, by decide +kernel⟩
theorem ok_swr {f : Addr} {fd : FuncData} (F : Fun K "switched_row" "Graph.switched_row" (meth 19) f fd) (T : TxtG K mg C) (FB : Ok P w K mg base "bit_of" 1 ["row", "v"] spBit) (FA : OkM P w K mg base C "all_points" 2 ["self"] (spAllP C)) : FnOk P w K mg base CX0 3 f fd ["self", "u", "chosen"] (spSwr C) := by
  refine F.ok scSwr (fun vs H Q E h => ?_) (fun cdv A outer s H vs Q E hr h => ?_)
  · obtain ⟨g, l, rs, u, c, rfl, _⟩ := h
    rfl
  · obtain ⟨g, l, rs, u, c, rfl, G, h64, hu, k⟩ := h
    obtain ⟨dx, hg⟩ := G.obj
    refine ⟨_, pss_cons (ps_if (pt_cmpR op_eq (pe_fn FB (hr.mono (by decide)) (pa_cons (pv 2) (pa_cons (pv 1) pa_nil))) pe_int (nomark _))
        (pss_one (ps_ret (pe_op op_xor (pe_ix ix_list (pe_fld (pv 0) rfl) (pv 1) (fun _ _ => rfl)) (pe_op op_and (pe_mt0 T.cl FA hr (pv 0)) (pe_un un_inv (pv 2)))))) pss_nil)
      (pss_one (ps_ret (pe_op op_xor (pe_ix ix_list (pe_fld (pv 0) rfl) (pv 1) (fun _ _ => rfl)) (pv 2)))), ?_⟩
    refine ⟨_, rfl, _, rfl, c, u, rfl, rfl, _, rfl, ?_⟩
    rw [toNat_one]
    unfold swr at k
    refine if2 (fun hb => ?_) (fun hb => ?_)
    · rw [if_pos hb] at k
      refine ⟨_, rfl, g, C, dx, _, _, rfl, hg, T.cl, T.nN, gf_nb l, _, rfl, l, _, _, _, rfl, rfl, SqL.of G.lst, nVs_at hu, _, rfl, g, dx, _, rfl, hg, gf_no l (by decide +kernel), g, l, rs, rfl, G, h64, _, rfl, _, rfl, _, _, rfl, rfl, _, _, rfl, rfl, ?_⟩
      show Q (V.int (Builtin.bitXor _ (Builtin.bitAnd _ (Builtin.bitNot _)))) H
      rw [bitAnd_not, bitXor_nn]
      exact k
    · rw [if_neg (by rw [hb]; simp)] at k
      refine ⟨_, rfl, g, C, dx, _, _, rfl, hg, T.cl, T.nN, gf_nb l, _, rfl, l, _, _, _, rfl, rfl, SqL.of G.lst, nVs_at hu, _, rfl, _, _, rfl, rfl, ?_⟩
      show Q (V.int (Builtin.bitXor _ _)) H
      rw [bitXor_nn]
      exact k
/-! ### odd_with -/
def spOdw (C : Addr) : Sp := fun vs H Q _ => ∃ (g l : Addr) (rs : List Nat) (u v : Nat), vs = [.ref g, nV u, nV v] ∧ GAt C H g l rs ∧ rs.length ≤ 64 ∧ u < rs.length ∧ v < rs.length ∧ Q (nV (odw rs u v)) H
theorem scOdw : FnScope ["self", "u", "v", "one_of_both"] ["self", "u", "v"] (defScope (meth 20)) := ⟨rfl, rfl, rfl, by decide +kernel, rfl, by decide +kernel, by decide +kernel⟩
theorem ok_odw {f : Addr} {fd : FuncData} (F : Fun K "odd_with" "Graph.odd_with" (meth 20) f fd) (T : TxtG K mg C) (FB : Ok P w K mg base "bit_of" 1 ["row", "v"] spBit) (FA : OkM P w K mg base C "all_points" 2 ["self"] (spAllP C)) : FnOk P w K mg base CX0 3 f fd ["self", "u", "v"] (spOdw C) := by
  refine F.ok scOdw (fun vs H Q E h => ?_) (fun cdv A outer s H vs Q E hr h => ?_)
  · obtain ⟨g, l, rs, u, c, rfl, _⟩ := h
    rfl
  · obtain ⟨g, l, rs, u, v, rfl, G, h64, hu, hv, k⟩ := h
    obtain ⟨dx, hg⟩ := G.obj
    refine ⟨_, pss_cons (ps_set (i := 3) scOdw.nd rfl (Or.inl rfl) (pe_op op_xor (pe_ix ix_list (pe_fld (pv 0) rfl) (pv 1) (fun _ _ => rfl)) (pe_ix ix_list (pe_fld (pv 0) rfl) (pv 2) (fun _ _ => rfl))))
      (pss_cons (ps_if (pt_cmpR op_eq (pe_fn FB (hr.mono (by decide)) (pa_cons (pe_ix ix_list (pe_fld (pv 0) rfl) (pv 1) (fun _ _ => rfl)) (pa_cons (pv 2) pa_nil))) pe_int (nomark _))
        (pss_one (ps_ret (pe_op op_and (pe_mt0 T.cl FA hr (pv 0)) (pe_un un_inv (pv 3))))) pss_nil)
      (pss_one (ps_ret (pv 3)))), ?_⟩
    refine ⟨_, rfl, g, C, dx, _, _, rfl, hg, T.cl, T.nN, gf_nb l, _, rfl, l, _, _, _, rfl, rfl, SqL.of G.lst, nVs_at hu, _, rfl, g, C, dx, _, _, rfl, hg, T.cl, T.nN, gf_nb l, _, rfl, l, _, _, _, rfl, rfl, SqL.of G.lst, nVs_at hv, _, _, rfl, rfl, ?_⟩
    refine ⟨_, rfl, g, C, dx, _, _, rfl, hg, T.cl, T.nN, gf_nb l, _, rfl, l, _, _, _, rfl, rfl, SqL.of G.lst, nVs_at hu, _, rfl, _, v, rfl, rfl, _, rfl, ?_⟩
    rw [toNat_one]
    unfold odw at k
    refine if2 (fun hb => ?_) (fun hb => ?_)
    · rw [if_pos hb] at k
      refine ⟨_, rfl, g, dx, _, rfl, hg, gf_no l (by decide +kernel), g, l, rs, rfl, G, h64, _, rfl, _, rfl, _, _, rfl, rfl, ?_⟩
      show Q (V.int (Builtin.bitAnd _ (Builtin.bitNot (Builtin.bitXor _ _)))) H
      rw [bitXor_nn, bitAnd_not]
      exact k
    · rw [if_neg (by rw [hb]; simp)] at k
      refine ⟨_, rfl, ?_⟩
      show Q (V.int (Builtin.bitXor _ _)) H
      rw [bitXor_nn]
      exact k
end
end Fg
end
section
set_option Elab.async false
set_option linter.all false
set_option maxRecDepth 100000
set_option maxHeartbeats 2000000
namespace Fg
open PySem PySem.Spec PyProof.Rows L2
/-- all but the graph's two objects stays as it was -/
def Chg (H : Hp) (g l : Addr) (H' : Hp) : Prop := ∀ b o, H b = some o → b ≠ g → b ≠ l → H' b = some o
/-- what a call leaves: the graph has these rows, these numbers are answered in a new list -/
def Done (C : Addr) (H : Hp) (g l : Addr) (rs : List Nat) (ans : List Int) (Q : VK) : Prop :=
  ∀ H' p m, H p = none → H' p = some (.lst (ans.map V.int)) → GAt C H' g m rs → (m = l ∨ H m = none) → Chg H g l H' → Q (.ref p) H'
theorem Done.ro {C : Addr} {H H1 : Hp} {g l p : Addr} {rs : List Nat} {ans : List Int} {Q : VK} (k : Done C H g l rs ans Q) (G : GAt C H g l rs) (s : Same H H1) (hp : H1 p = none) : Q (.ref p) (upd H1 p (.lst (ans.map V.int))) :=
  k _ p l (s.free hp) upd_same (G.same (s.trans (same_upd hp))) (.inl rfl) fun b o e _ _ => (s.trans (same_upd hp)) b o e
theorem Done.new {C : Addr} {H H1 : Hp} {g l p m dx : Addr} {rs : List Nat} {ans : List Int} {Q : VK} (k : Done C H g l rs ans Q) (hg : H g = some (.ins C dx (gf l))) (s : Same H H1) (hm : H m = none) (hm1 : H1 m = some (.lst (nVs rs)))
    (hp : upd H1 g (.ins C dx (putF "neighbours" (.ref m) (gf l))) p = none) : Q (.ref p) (upd (upd H1 g (.ins C dx (putF "neighbours" (.ref m) (gf l)))) p (.lst (ans.map V.int))) := by
  have hpg : p ≠ g := by
    intro e; rw [e, upd_same] at hp; cases hp
  rw [upd_ne hpg] at hp
  have hmg : m ≠ g := fun e => by rw [e, hg] at hm; cases hm
  have hpm : m ≠ p := fun e => by rw [e, hp] at hm1; cases hm1
  refine k _ p m (s.free hp) upd_same ⟨⟨dx, ?_⟩, ?_⟩ (.inr hm) fun b o e hb _ => ?_
  · rw [upd_ne (Ne.symm hpg), upd_same, gf_put]
  · rw [upd_ne hpm, upd_ne hmg]; exact hm1
  · rw [upd_ne (ne_of_none (s b o e) hp), upd_ne hb]
    exact s b o e
theorem Done.set {C : Addr} {H : Hp} {g l p : Addr} {rs rs' : List Nat} {ans : List Int} {Q : VK} (k : Done C H g l rs' ans Q) (G : GAt C H g l rs) (hp : upd H l (.lst (nVs rs')) p = none) :
    Q (.ref p) (upd (upd H l (.lst (nVs rs'))) p (.lst (ans.map V.int))) := by
  obtain ⟨dx, hg⟩ := G.obj
  have hpl : p ≠ l := by
    intro e; rw [e, upd_same] at hp; cases hp
  rw [upd_ne hpl] at hp
  have hgl : g ≠ l := ne_of hg G.lst (by intro z; cases z)
  refine k _ p l hp upd_same ⟨⟨dx, ?_⟩, ?_⟩ (.inl rfl) fun b o e _ hb => ?_
  · rw [upd_ne (ne_of_none hg hp), upd_ne hgl]; exact hg
  · rw [upd_ne (Ne.symm hpl), upd_same]
  · rw [upd_ne (ne_of_none e hp), upd_ne hb]
    exact e
section
variable {P : Program} {w : World} {K : PySem.W.Frag} {mg : Str → Option Value} {base : Heap} {C : Addr}
/-! ### __init__, begin -/
def spInit (C : Addr) : Sp := fun vs H Q _ => ∃ (g dx : Addr), vs = [.ref g] ∧ H g = some (.ins C dx []) ∧ ∀ H' l, H l = none → GAt C H' g l [0] → (∀ b o, H b = some o → b ≠ g → H' b = some o) → Q .non H'
theorem scInit : FnScope ["self"] ["self"] (defScope (meth 0)) := ⟨rfl, rfl, rfl, by decide +kernel, rfl, by decide +kernel, by decide +kernel⟩
theorem ok_init {f : Addr} {fd : FuncData} (F : Fun K "__init__" "Graph.__init__" (meth 0) f fd) (T : TxtG K mg C) : FnOk P w K mg base CX0 1 f fd ["self"] (spInit C) := by
  refine F.ok scInit (fun vs H Q E h => ?_) (fun cdv A outer s H vs Q E hr h => ?_)
  · obtain ⟨g, dx, rfl, _⟩ := h
    rfl
  · obtain ⟨g, dx, rfl, hg, k⟩ := h
    refine ⟨_, pss_one (ps_fld (pv 0) (pe_lst (pa_cons pe_int pa_nil)) rfl), ?_⟩
    refine ⟨(by show 1 ≤ sizeLine; decide), fun l hl => ?_⟩
    have hgl : g ≠ l := ne_of_none hg hl
    refine ⟨_, rfl, g, C, dx, [], rfl, by rw [upd_ne hgl]; exact hg, T.cl, T.nN, (by show 0 < 1000; decide), ?_⟩
    refine k _ l hl ⟨⟨dx, upd_same⟩, ?_⟩ fun b o e hb => ?_
    · rw [upd_ne (Ne.symm hgl), upd_same]; rfl
    · rw [upd_ne hb, upd_ne (ne_of_none e hl)]; exact e
def spBegin (C : Addr) : Sp := fun vs H Q _ => ∃ (g l : Addr) (rs : List Nat), vs = [.ref g] ∧ GAt C H g l rs ∧ Done C H g l [0] [0] Q
theorem scBegin : FnScope ["self"] ["self"] (defScope (meth 1)) := ⟨rfl, rfl, rfl, by decide +kernel, rfl, by decide +kernel, by decide +kernel⟩
theorem ok_begin {f : Addr} {fd : FuncData} (F : Fun K "begin" "Graph.begin" (meth 1) f fd) (T : TxtG K mg C) : FnOk P w K mg base CX0 1 f fd ["self"] (spBegin C) := by
  refine F.ok scBegin (fun vs H Q E h => ?_) (fun cdv A outer s H vs Q E hr h => ?_)
  · obtain ⟨g, l, rs, rfl, _⟩ := h
    rfl
  · obtain ⟨g, l, rs, rfl, G, k⟩ := h
    obtain ⟨dx, hg⟩ := G.obj
    refine ⟨_, pss_cons (ps_fld (pv 0) (pe_lst (pa_cons pe_int pa_nil)) rfl) (pss_one (ps_ret (pe_lst (pa_cons pe_int pa_nil)))), ?_⟩
    refine ⟨(by show 1 ≤ sizeLine; decide), fun m hm => ?_⟩
    refine ⟨_, rfl, g, C, dx, _, rfl, by rw [upd_ne (ne_of_none hg hm)]; exact hg, T.cl, T.nN, (by show 1 < 1000; decide), ?_⟩
    refine ⟨(by show 1 ≤ sizeLine; decide), fun p hp => ?_⟩
    exact k.new hg (same_upd hm) hm upd_same hp
/-! ### size -/
def spSz (C : Addr) : Sp := fun vs H Q _ => ∃ (g l : Addr) (rs : List Nat) (n : Int), vs = [.ref g, .int n] ∧ GAt C H g l rs ∧ Done C H g l (sizeR rs n) (sizeA n) Q
theorem scSz : FnScope ["self", "n", "point"] ["self", "n"] (defScope (meth 2)) := ⟨rfl, rfl, rfl, by decide +kernel, rfl, by decide +kernel, by decide +kernel⟩
theorem ok_sz {f : Addr} {fd : FuncData} (F : Fun K "size" "Graph.size" (meth 2) f fd) (T : TxtG K mg C) (FS : Ok P w K mg base "is_size" 1 ["n"] spSize) : FnOk P w K mg base CX0 2 f fd ["self", "n"] (spSz C) := by
  refine F.ok scSz (fun vs H Q E h => ?_) (fun cdv A outer s H vs Q E hr h => ?_)
  · obtain ⟨g, l, rs, n, rfl, _⟩ := h
    rfl
  · obtain ⟨g, l, rs, n, rfl, G, k⟩ := h
    obtain ⟨dx, hg⟩ := G.obj
    refine ⟨_, pss_cons (ps_if (pt_not (pt_val (pe_fn FS hr (pa_cons (pv 1) pa_nil)))) (pss_one (ps_ret (pe_lst (pa_cons (pe_num T.ref) pa_nil)))) pss_nil)
      (pss_cons (ps_fld (pv 0) (pe_lc rfl scSz.nd (pi_range1 rfl T.b.range (pa_cons (pv 1) pa_nil)) (blkOk_by (own := [("point", 2)]) rfl) (fun _ _ _ _ _ => pg_name (i := 2) scSz.nd rfl (Or.inl rfl)) (fun _ _ _ _ _ => pts_nil) (fun _ _ _ _ _ => pe_int)) rfl)
      (pss_one (ps_ret (pe_lst (pa_cons pe_int pa_nil))))), ?_⟩
    refine ⟨_, rfl, _, rfl, _, rfl, if2 (fun hb => ?_) (fun hb => ?_)⟩
    · have hb' := notT hb
      unfold sizeR sizeA at k
      rw [hb', if_neg (by simp), if_neg (by simp)] at k
      exact ⟨(by show 1 ≤ sizeLine; decide), fun p hp => k.ro G Same.rfl' hp⟩
    · have hb' := notF hb
      unfold sizeR sizeA at k
      rw [hb', if_pos rfl, if_pos rfl] at k
      have hn : 1 ≤ n ∧ n ≤ 64 := by simpa using hb'
      refine ⟨_, rfl, _, rfl, ?_, ?_, ?_⟩
      · show -(2 ^ 62) ≤ n
        omega
      · show n < 2 ^ 62
        omega
      intro m hm
      refine lc_range (n := n.toNat) (fun i H' => H' = upd H m (.lst (nVs (List.replicate i 0)))) rfl ?_ ?_
      · rintro i H1 hi rfl
        refine ⟨rfl, ?_⟩
        refine ⟨_, upd_same, ?_, ?_⟩
        · rw [List.length_map, List.length_replicate, sizeLine_eq]; omega
        · rw [upd_upd, List.replicate_succ', nVs_app]
          rfl
      · rintro H1 rfl
        refine ⟨_, rfl, g, C, dx, _, rfl, by rw [upd_ne (ne_of_none hg hm)]; exact hg, T.cl, T.nN, (by show 1 < 1000; decide), ?_⟩
        refine ⟨(by show 1 ≤ sizeLine; decide), fun p hp => ?_⟩
        exact k.new hg (same_upd hm) hm upd_same hp
/-! ### edge -/
def spEdge (C : Addr) : Sp := fun vs H Q _ => ∃ (g l : Addr) (rs : List Nat) (u v on : Int), vs = [.ref g, .int u, .int v, .int on] ∧ GAt C H g l rs ∧ rs.length ≤ 64 ∧ Done C H g l (edgeR rs u v on) (edgeA rs u v on) Q
theorem scEdge : FnScope ["self", "u", "v", "on"] ["self", "u", "v", "on"] (defScope (meth 3)) := ⟨rfl, rfl, rfl, by decide +kernel, rfl, by decide +kernel, by decide +kernel⟩
theorem nVs_set (rs : List Nat) (i r : Nat) : (nVs rs).set i (nV r) = nVs (rs.set i r) := (List.map_set ..).symm
theorem ixN_nat {n i : Nat} (h : i < n) : ixN n (i : Int) = some i := by
  unfold ixN
  rw [if_pos (by omega), if_pos (by omega)]
  simp
theorem ok_edge {f : Addr} {fd : FuncData} (F : Fun K "edge" "Graph.edge" (meth 3) f fd) (T : TxtG K mg C) (FH : OkM P w K mg base C "has_points" 1 ["self", "u", "v"] (spHas C)) (FW : Ok P w K mg base "with_bit" 1 ["row", "v", "on"] spWith) : FnOk P w K mg base CX0 2 f fd ["self", "u", "v", "on"] (spEdge C) := by
  refine F.ok scEdge (fun vs H Q E h => ?_) (fun cdv A outer s H vs Q E hr h => ?_)
  · obtain ⟨g, l, rs, u, v, on, rfl, _⟩ := h
    rfl
  · obtain ⟨g, l, rs, u, v, on, rfl, G, h64, k⟩ := h
    obtain ⟨dx, hg⟩ := G.obj
    refine ⟨_, pss_cons (ps_if (pw_or (pt_not (pt_val (pe_mt T.cl FH hr (pv 0) (pa_cons (pv 1) (pa_cons (pv 2) pa_nil))))) (pw_or (pt_cmpR op_eq (pv 1) (pv 2) (nomark _)) (pw_or (pt_cmpR op_lt (pv 3) pe_int (nomark _)) (pw_or1 (pt_cmpR op_gt (pv 3) pe_int (nomark _)))))).pt
        (pss_one (ps_ret (pe_lst (pa_cons (pe_num T.ref) pa_nil)))) pss_nil)
      (pss_cons (ps_asg (pe_fn FW hr (pa_cons (pe_ix ix_list (pe_fld (pv 0) rfl) (pv 1) (fun _ _ => rfl)) (pa_cons (pv 2) (pa_cons (pv 3) pa_nil)))) (pg_sub (pe_fld (pv 0) rfl) (pv 1) set_list))
      (pss_cons (ps_asg (pe_fn FW hr (pa_cons (pe_ix ix_list (pe_fld (pv 0) rfl) (pv 2) (fun _ _ => rfl)) (pa_cons (pv 1) (pa_cons (pv 3) pa_nil)))) (pg_sub (pe_fld (pv 0) rfl) (pv 2) set_list))
      (pss_one (ps_ret (pe_lst (pa_cons pe_int pa_nil)))))), ?_⟩
    refine ⟨_, rfl, g, dx, _, rfl, hg, gf_no l (by decide +kernel), _, rfl, _, rfl, g, l, rs, u, v, rfl, G, _, rfl, ?_⟩
    -- the four reasons to refuse
    have ref : edgeB rs u v on = true → ∀ p, H p = none → Q (.ref p) (upd H p (.lst [V.int (-1)])) := fun hb p hp => by
      unfold edgeR edgeA at k
      rw [if_pos hb, if_pos hb] at k
      exact k.ro G Same.rfl' hp
    refine if2 (fun h1 => ?_) (fun h1 => ?_)
    · have hb : edgeB rs u v on = true := by unfold edgeB; rw [h1]; rfl
      exact ifT rfl ⟨(by show 1 ≤ sizeLine; decide), ref hb⟩
    refine ⟨_, rfl, _, rfl, rfl, _, rfl, if2 (fun h2 => ?_) (fun h2 => ?_)⟩
    · have e : u = v := by simpa using h2
      have hb : edgeB rs u v on = true := by unfold edgeB; rw [e]; simp
      exact ifT rfl ⟨(by show 1 ≤ sizeLine; decide), ref hb⟩
    refine ⟨_, rfl, _, _, rfl, rfl, _, rfl, if2 (fun h3 => ?_) (fun h3 => ?_)⟩
    · have hb : edgeB rs u v on = true := by unfold edgeB; rw [h3]; simp
      exact ifT rfl ⟨(by show 1 ≤ sizeLine; decide), ref hb⟩
    refine ⟨_, rfl, _, _, rfl, rfl, _, rfl, if2 (fun h4 => ?_) (fun h4 => ?_)⟩
    · have hb : edgeB rs u v on = true := by unfold edgeB; rw [h4]; simp
      exact ⟨(by show 1 ≤ sizeLine; decide), ref hb⟩
    have hne : ¬ u = v := by simpa using h2
    have hb : ¬ edgeB rs u v on = true := by
      unfold edgeB
      rw [h1, h3, h4]
      simpa using hne
    unfold edgeR edgeA at k
    rw [if_neg hb, if_neg hb] at k
    obtain ⟨a, b, rfl, rfl, ha, hbb⟩ := has_of (notF h1)
    simp only [Int.toNat_natCast] at k
    have hgl : g ≠ l := ne_of hg G.lst (by intro z; cases z)
    refine ⟨_, rfl, g, C, dx, _, _, rfl, hg, T.cl, T.nN, gf_nb l, _, rfl, l, _, _, _, rfl, rfl, SqL.of G.lst, nVs_at ha, _, rfl, _, rfl, _, b, on, rfl, by omega, ?_⟩
    refine ⟨_, rfl, g, C, dx, _, _, rfl, hg, T.cl, T.nN, gf_nb l, _, rfl, l, _, _, a, rfl, rfl, G.lst, ?_, ?_⟩
    · rw [List.length_map]; exact ixN_nat ha
    rw [nVs_set]
    have hl1 : ∀ xs, upd H l (.lst xs) g = some (.ins C dx (gf l)) := fun xs => by rw [upd_ne hgl]; exact hg
    refine ⟨_, rfl, g, C, dx, _, _, rfl, hl1 _, T.cl, T.nN, gf_nb l, _, rfl, l, _, _, _, rfl, rfl, SqL.of upd_same, nVs_at (by rw [List.length_set]; exact hbb), _, rfl, _, rfl, _, a, on, rfl, by omega, ?_⟩
    refine ⟨_, rfl, g, C, dx, _, _, rfl, hl1 _, T.cl, T.nN, gf_nb l, _, rfl, l, _, _, b, rfl, rfl, upd_same, ?_, ?_⟩
    · rw [List.length_map, List.length_set]; exact ixN_nat hbb
    rw [nVs_set, upd_upd]
    exact ⟨(by show 1 ≤ sizeLine; decide), fun p hp => k.set G hp⟩
/-! ### rows -/
def spRows (K : PySem.W.Frag) (C : Addr) : Sp := fun vs H Q _ => ∃ (g l a : Addr) (rs ls : List Nat), vs = [.ref g, .ref a] ∧ GAt C H g l rs ∧ SqL K H a (nVs ls) ∧ Done C H g l (rowsR rs ls) (rowsA ls) Q
theorem scRows : FnScope ["self", "rows"] ["self", "rows"] (defScope (meth 4)) := ⟨rfl, rfl, rfl, by decide +kernel, rfl, by decide +kernel, by decide +kernel⟩
theorem ok_rows {f : Addr} {fd : FuncData} (F : Fun K "rows" "Graph.rows" (meth 4) f fd) (T : TxtG K mg C) (FA : Ok P w K mg base "are_rows" 3 ["rows"] (spAre K)) : FnOk P w K mg base CX0 4 f fd ["self", "rows"] (spRows K C) := by
  refine F.ok scRows (fun vs H Q E h => ?_) (fun cdv A outer s H vs Q E hr h => ?_)
  · obtain ⟨g, l, a, rs, ls, rfl, _⟩ := h
    rfl
  · obtain ⟨g, l, a, rs, ls, rfl, G, hS, k⟩ := h
    obtain ⟨dx, hg⟩ := G.obj
    refine ⟨_, pss_cons (ps_if (pt_not (pt_val (pe_fn FA hr (pa_cons (pv 1) pa_nil)))) (pss_one (ps_ret (pe_lst (pa_cons (pe_num T.ref) pa_nil)))) pss_nil)
      (pss_cons (ps_fld (pv 0) (pe_callTy call_list_of (by rfl) T.b.list PyProof.Rows.boot_list (pa_cons (pv 1) pa_nil)) rfl)
      (pss_one (ps_ret (pe_lst (pa_cons pe_int pa_nil))))), ?_⟩
    unfold rowsR rowsA at k
    refine ⟨_, rfl, a, ls, rfl, hS, _, rfl, if2 (fun hb => ?_) (fun hb => ?_)⟩
    · rw [notT hb, if_neg (by simp), if_neg (by simp)] at k
      exact ⟨(by show 1 ≤ sizeLine; decide), fun p hp => k.ro G Same.rfl' hp⟩
    · rw [notF hb, if_pos rfl, if_pos rfl] at k
      refine ⟨_, rfl, a, _, rfl, .inl hS, fun m hm => ?_⟩
      refine ⟨_, rfl, g, C, dx, _, rfl, by rw [upd_ne (ne_of_none hg hm)]; exact hg, T.cl, T.nN, (by show 1 < 1000; decide), ?_⟩
      refine ⟨(by show 1 ≤ sizeLine; decide), fun p hp => ?_⟩
      exact k.new hg (same_upd hm) hm upd_same hp
/-! ### row -/
def spRow (C : Addr) : Sp := fun vs H Q _ => ∃ (g l : Addr) (rs : List Nat) (u : Int), vs = [.ref g, .int u] ∧ GAt C H g l rs ∧ Rw rs ∧ Done C H g l rs (rowA rs u) Q
theorem scRow : FnScope ["self", "u"] ["self", "u"] (defScope (meth 5)) := ⟨rfl, rfl, rfl, by decide +kernel, rfl, by decide +kernel, by decide +kernel⟩
theorem ok_row {f : Addr} {fd : FuncData} (F : Fun K "row" "Graph.row" (meth 5) f fd) (T : TxtG K mg C) (FH : OkM P w K mg base C "has_points" 1 ["self", "u", "v"] (spHas C)) (FB : Ok P w K mg base "bits_set" 1 ["row"] spBits) : FnOk P w K mg base CX0 2 f fd ["self", "u"] (spRow C) := by
  refine F.ok scRow (fun vs H Q E h => ?_) (fun cdv A outer s H vs Q E hr h => ?_)
  · obtain ⟨g, l, rs, u, rfl, _⟩ := h
    rfl
  · obtain ⟨g, l, rs, u, rfl, G, hR, k⟩ := h
    obtain ⟨dx, hg⟩ := G.obj
    refine ⟨_, pss_cons (ps_if (pt_not (pt_val (pe_mt T.cl FH hr (pv 0) (pa_cons (pv 1) (pa_cons (pv 1) pa_nil))))) (pss_one (ps_ret (pe_lst (pa_cons (pe_num T.ref) pa_nil)))) pss_nil)
      (pss_one (ps_ret (pe_lst (pa_cons (pe_fn FB hr (pa_cons (pe_ix ix_list (pe_fld (pv 0) rfl) (pv 1) (fun _ _ => rfl)) pa_nil)) (pa_cons (pe_ix ix_list (pe_fld (pv 0) rfl) (pv 1) (fun _ _ => rfl)) pa_nil))))), ?_⟩
    unfold rowA at k
    refine ⟨_, rfl, g, dx, _, rfl, hg, gf_no l (by decide +kernel), _, rfl, _, rfl, g, l, rs, u, u, rfl, G, _, rfl, if2 (fun hb => ?_) (fun hb => ?_)⟩
    · rw [notT hb, if_neg (by simp)] at k
      exact ⟨(by show 1 ≤ sizeLine; decide), fun p hp => k.ro G Same.rfl' hp⟩
    · rw [notF hb, if_pos rfl] at k
      obtain ⟨a, b, rfl, e, ha, _⟩ := has_of (notF hb)
      simp only [Int.toNat_natCast] at k
      refine ⟨_, rfl, g, C, dx, _, _, rfl, hg, T.cl, T.nN, gf_nb l, _, rfl, l, _, _, _, rfl, rfl, SqL.of G.lst, nVs_at ha, _, rs.length, rfl, hR.getD a, ?_⟩
      refine ⟨_, rfl, g, C, dx, _, _, rfl, hg, T.cl, T.nN, gf_nb l, _, rfl, l, _, _, _, rfl, rfl, SqL.of G.lst, nVs_at ha, ?_⟩
      exact ⟨(by show 2 ≤ sizeLine; decide), fun p hp => k.ro G Same.rfl' hp⟩
/-! ### common -/
def spCommon (C : Addr) : Sp := fun vs H Q _ => ∃ (g l : Addr) (rs : List Nat) (u v : Int), vs = [.ref g, .int u, .int v] ∧ GAt C H g l rs ∧ Rw rs ∧ Done C H g l rs (commonA rs u v) Q
theorem scCommon : FnScope ["self", "u", "v"] ["self", "u", "v"] (defScope (meth 6)) := ⟨rfl, rfl, rfl, by decide +kernel, rfl, by decide +kernel, by decide +kernel⟩
theorem ok_common {f : Addr} {fd : FuncData} (F : Fun K "common" "Graph.common" (meth 6) f fd) (T : TxtG K mg C) (FH : OkM P w K mg base C "has_points" 1 ["self", "u", "v"] (spHas C)) (FI : OkM P w K mg base C "in_common" 2 ["self", "u", "v"] (spInC C)) : FnOk P w K mg base CX0 3 f fd ["self", "u", "v"] (spCommon C) := by
  refine F.ok scCommon (fun vs H Q E h => ?_) (fun cdv A outer s H vs Q E hr h => ?_)
  · obtain ⟨g, l, rs, u, v, rfl, _⟩ := h
    rfl
  · obtain ⟨g, l, rs, u, v, rfl, G, hR, k⟩ := h
    obtain ⟨dx, hg⟩ := G.obj
    refine ⟨_, pss_cons (ps_if (pt_not (pt_val (pe_mt T.cl FH (hr.mono (by decide)) (pv 0) (pa_cons (pv 1) (pa_cons (pv 2) pa_nil))))) (pss_one (ps_ret (pe_lst (pa_cons (pe_num T.ref) pa_nil)))) pss_nil)
      (pss_one (ps_ret (pe_lst (pa_cons (pe_mt T.cl FI hr (pv 0) (pa_cons (pv 1) (pa_cons (pv 2) pa_nil))) pa_nil)))), ?_⟩
    unfold commonA at k
    refine ⟨_, rfl, g, dx, _, rfl, hg, gf_no l (by decide +kernel), _, rfl, _, rfl, g, l, rs, u, v, rfl, G, _, rfl, if2 (fun hb => ?_) (fun hb => ?_)⟩
    · rw [notT hb, if_neg (by simp)] at k
      exact ⟨(by show 1 ≤ sizeLine; decide), fun p hp => k.ro G Same.rfl' hp⟩
    · rw [notF hb, if_pos rfl] at k
      obtain ⟨a, b, rfl, rfl, ha, hb2⟩ := has_of (notF hb)
      simp only [Int.toNat_natCast] at k
      refine ⟨_, rfl, g, dx, _, rfl, hg, gf_no l (by decide +kernel), _, rfl, _, rfl, g, l, rs, a, b, rfl, G, hR, ha, hb2, ?_⟩
      exact ⟨(by show 1 ≤ sizeLine; decide), fun p hp => k.ro G Same.rfl' hp⟩
/-! ### strong -/
def spStrong (C : Addr) : Sp := fun vs H Q _ => ∃ (g l : Addr) (rs : List Nat), vs = [.ref g] ∧ GAt C H g l rs ∧ Rw rs ∧ ∀ x y, AlwIs rs true x → AlwIs rs false y → Done C H g l rs (strongA rs x y) Q
theorem scStrong : FnScope ["self", "n", "k", "of_neighbours", "of_others"] ["self"] (defScope (meth 7)) := ⟨rfl, rfl, rfl, by decide +kernel, rfl, by decide +kernel, by decide +kernel⟩
theorem ok_strong {f : Addr} {fd : FuncData} (F : Fun K "strong" "Graph.strong" (meth 7) f fd) (T : TxtG K mg C) (FB : Ok P w K mg base "bits_set" 1 ["row"] spBits) (FV : OkM P w K mg base C "all_have" 2 ["self", "k"] (spHave C)) (FA : OkM P w K mg base C "always_common" 3 ["self", "on"] (spAlw C)) : FnOk P w K mg base CX0 4 f fd ["self"] (spStrong C) := by
  refine F.ok scStrong (fun vs H Q E h => ?_) (fun cdv A outer s H vs Q E hr h => ?_)
  · obtain ⟨g, l, rs, rfl, _⟩ := h
    rfl
  · obtain ⟨g, l, rs, rfl, G, hR, k⟩ := h
    obtain ⟨dx, hg⟩ := G.obj
    refine ⟨_, pss_cons (ps_set (i := 1) scStrong.nd rfl (Or.inl rfl) (pe_callB call_len_seq (by rfl) T.b.len PySem.boot_len (pa_cons (pe_fld (pv 0) rfl) pa_nil)))
      (pss_cons (ps_set (i := 2) scStrong.nd rfl (Or.inl rfl) (pe_fn FB (hr.mono (by decide)) (pa_cons (pe_ix ix_list (pe_fld (pv 0) rfl) pe_int (fun _ _ => rfl)) pa_nil)))
      (pss_cons (ps_if (pw_or (pt_cmpR op_lt (pv 2) pe_int (nomark _)) (pw_or (pt_cmpR op_gt (pv 2) (pe_op op_sub (pv 1) pe_int) (nomark _)) (pw_or1 (pt_not (pt_val (pe_mt T.cl FV (hr.mono (by decide)) (pv 0) (pa_cons (pv 2) pa_nil))))))).pt
        (pss_one (ps_ret (pe_lst (pa_cons (pe_num T.nots) pa_nil)))) pss_nil)
      (pss_cons (ps_set (i := 3) scStrong.nd rfl (Or.inl rfl) (pe_mt T.cl FA hr (pv 0) (pa_cons pe_int pa_nil)))
      (pss_cons (ps_set (i := 4) scStrong.nd rfl (Or.inl rfl) (pe_mt T.cl FA hr (pv 0) (pa_cons pe_int pa_nil)))
      (pss_cons (ps_if (pw_or (pt_cmpR op_isN (pv 3) pe_non (nomark _)) (pw_or1 (pt_cmpR op_isN (pv 4) pe_non (nomark _)))).pt
        (pss_one (ps_ret (pe_lst (pa_cons (pe_num T.nots) pa_nil)))) pss_nil)
      (pss_one (ps_ret (pe_lst (pa_cons pe_int (pa_cons (pv 1) (pa_cons (pv 2) (pa_cons (pv 3) (pa_cons (pv 4) pa_nil))))))))))))), ?_⟩
    have e : (((nVs rs).length : Nat) : Int) = (rs.length : Int) := by simp
    have h0 : 0 < rs.length := hR.one
    refine ⟨_, rfl, g, C, dx, _, _, rfl, hg, T.cl, T.nN, gf_nb l, l, _, rfl, .inl (SqL.of G.lst), ?_⟩
    rw [e]
    refine ⟨_, rfl, g, C, dx, _, _, rfl, hg, T.cl, T.nN, gf_nb l, l, _, _, _, rfl, rfl, SqL.of G.lst, nVs_at (i := 0) h0, _, rs.length, rfl, hR.getD 0, ?_⟩
    have ref : (decide (pc rs.length (rs.getD 0 0) < 1) || (decide (rs.length < pc rs.length (rs.getD 0 0) + 2) || !(rs.all fun r => pc rs.length r == pc rs.length (rs.getD 0 0)))) = true → ∀ p, H p = none → Q (.ref p) (upd H p (.lst [V.int (-2)])) := fun hb p hp => by
      obtain ⟨x, hx⟩ := alw_ex rs true
      obtain ⟨y, hy⟩ := alw_ex rs false
      have k := k x y hx hy
      unfold strongA at k
      rw [if_pos hb] at k
      exact k.ro G Same.rfl' hp
    refine ⟨_, rfl, _, _, rfl, rfl, _, rfl, if2 (fun h1 => ?_) (fun h1 => ?_)⟩
    · have h1' : pc rs.length (rs.getD 0 0) < 1 := by have := of_decide_eq_true h1; omega
      exact ifT rfl ⟨(by show 1 ≤ sizeLine; decide), ref (by rw [decide_eq_true h1']; rfl)⟩
    have h1' : ¬ pc rs.length (rs.getD 0 0) < 1 := by have := of_decide_eq_false h1; omega
    refine ⟨_, rfl, _, rfl, _, _, rfl, rfl, _, _, rfl, rfl, _, rfl, if2 (fun h2 => ?_) (fun h2 => ?_)⟩
    · have h2' : rs.length < pc rs.length (rs.getD 0 0) + 2 := by have := of_decide_eq_true h2; omega
      exact ifT rfl ⟨(by show 1 ≤ sizeLine; decide), ref (by rw [decide_eq_true h2']; simp)⟩
    have h2' : ¬ rs.length < pc rs.length (rs.getD 0 0) + 2 := by have := of_decide_eq_false h2; omega
    refine ⟨_, rfl, g, dx, _, rfl, hg, gf_no l (by decide +kernel), _, rfl, g, l, rs, _, rfl, G, hR, _, rfl, if2 (fun h3 => ?_) (fun h3 => ?_)⟩
    · exact ⟨(by show 1 ≤ sizeLine; decide), ref (by rw [h3]; simp)⟩
    refine ⟨_, rfl, g, dx, _, rfl, hg, gf_no l (by decide +kernel), g, l, rs, true, rfl, G, hR, fun x hx => ?_⟩
    refine ⟨_, rfl, g, dx, _, rfl, hg, gf_no l (by decide +kernel), g, l, rs, false, rfl, G, hR, fun y hy => ?_⟩
    have k := k x y hx hy
    unfold strongA at k
    rw [if_neg (by rw [decide_eq_false h1', decide_eq_false h2', h3]; simp)] at k
    cases x with
    | none =>
      refine ⟨_, rfl, rfl, _, rfl, ifT rfl (ifT rfl ⟨(by show 1 ≤ sizeLine; decide), fun p hp => k.ro G Same.rfl' hp⟩)⟩
    | some a =>
      refine ⟨_, rfl, rfl, _, rfl, ifF rfl ?_⟩
      cases y with
      | none =>
        refine ⟨_, rfl, rfl, _, rfl, ifT rfl ⟨(by show 1 ≤ sizeLine; decide), fun p hp => k.ro G Same.rfl' hp⟩⟩
      | some b =>
        refine ⟨_, rfl, rfl, _, rfl, ifF rfl ?_⟩
        exact ⟨_, rfl, _, rfl, _, rfl, _, rfl, (by show 5 ≤ sizeLine; decide), fun p hp => k.ro G Same.rfl' hp⟩
/-! ### far, wide, girth -/
def spFar (C : Addr) : Sp := fun vs H Q _ => ∃ (g l : Addr) (rs : List Nat) (u v : Int), vs = [.ref g, .int u, .int v] ∧ GAt C H g l rs ∧ Rw rs ∧ Done C H g l rs (farA rs u v) Q
theorem scFar : FnScope ["self", "u", "v", "steps"] ["self", "u", "v"] (defScope (meth 8)) := ⟨rfl, rfl, rfl, by decide +kernel, rfl, by decide +kernel, by decide +kernel⟩
theorem ok_far {f : Addr} {fd : FuncData} (F : Fun K "far" "Graph.far" (meth 8) f fd) (T : TxtG K mg C) (FH : OkM P w K mg base C "has_points" 1 ["self", "u", "v"] (spHas C)) (FS : Ok P w K mg base "steps_between" 4 ["rows", "u", "v"] (spBetw K)) : FnOk P w K mg base CX0 5 f fd ["self", "u", "v"] (spFar C) := by
  refine F.ok scFar (fun vs H Q E h => ?_) (fun cdv A outer s H vs Q E hr h => ?_)
  · obtain ⟨g, l, rs, u, v, rfl, _⟩ := h
    rfl
  · obtain ⟨g, l, rs, u, v, rfl, G, hR, k⟩ := h
    obtain ⟨dx, hg⟩ := G.obj
    refine ⟨_, pss_cons (ps_if (pt_not (pt_val (pe_mt T.cl FH (hr.mono (by decide)) (pv 0) (pa_cons (pv 1) (pa_cons (pv 2) pa_nil))))) (pss_one (ps_ret (pe_lst (pa_cons (pe_num T.ref) pa_nil)))) pss_nil)
      (pss_cons (ps_set (i := 3) scFar.nd rfl (Or.inl rfl) (pe_fn FS hr (pa_cons (pe_fld (pv 0) rfl) (pa_cons (pv 1) (pa_cons (pv 2) pa_nil)))))
      (pss_cons (ps_if (pt_cmpR op_isN (pv 3) pe_non (nomark _)) (pss_one (ps_ret (pe_lst (pa_cons (pe_num T.nots) pa_nil)))) pss_nil)
      (pss_one (ps_ret (pe_lst (pa_cons (pv 3) pa_nil)))))), ?_⟩
    unfold farA at k
    refine ⟨_, rfl, g, dx, _, rfl, hg, gf_no l (by decide +kernel), _, rfl, _, rfl, g, l, rs, u, v, rfl, G, _, rfl, if2 (fun hb => ?_) (fun hb => ?_)⟩
    · rw [notT hb, if_neg (by simp)] at k
      exact ⟨(by show 1 ≤ sizeLine; decide), fun p hp => k.ro G Same.rfl' hp⟩
    · rw [notF hb, if_pos rfl] at k
      obtain ⟨a, b, rfl, rfl, ha, hb2⟩ := has_of (notF hb)
      simp only [Int.toNat_natCast] at k
      refine ⟨_, rfl, g, C, dx, _, _, rfl, hg, T.cl, T.nN, gf_nb l, _, rfl, _, rfl, l, rs, a, b, rfl, SqL.of G.lst, hR, ha, fun H1 s1 => ?_⟩
      cases hf : farM rs a b with
      | none =>
        rw [hf] at k
        exact ⟨_, rfl, rfl, _, rfl, ifT rfl ⟨(by show 1 ≤ sizeLine; decide), fun p hp => k.ro G s1 hp⟩⟩
      | some d =>
        rw [hf] at k
        exact ⟨_, rfl, rfl, _, rfl, ifF rfl ⟨_, rfl, (by show 1 ≤ sizeLine; decide), fun p hp => k.ro G s1 hp⟩⟩
def spWide (C : Addr) : Sp := fun vs H Q _ => ∃ (g l : Addr) (rs : List Nat), vs = [.ref g] ∧ GAt C H g l rs ∧ Rw rs ∧ Done C H g l rs [oI (wideM rs)] Q
theorem scWide : FnScope ["self", "steps"] ["self"] (defScope (meth 9)) := ⟨rfl, rfl, rfl, by decide +kernel, rfl, by decide +kernel, by decide +kernel⟩
theorem ok_wide {f : Addr} {fd : FuncData} (F : Fun K "wide" "Graph.wide" (meth 9) f fd) (T : TxtG K mg C) (FS : Ok P w K mg base "most_steps" 5 ["rows"] (spMost K)) : FnOk P w K mg base CX0 6 f fd ["self"] (spWide C) := by
  refine F.ok scWide (fun vs H Q E h => ?_) (fun cdv A outer s H vs Q E hr h => ?_)
  · obtain ⟨g, l, rs, rfl, _⟩ := h
    rfl
  · obtain ⟨g, l, rs, rfl, G, hR, k⟩ := h
    obtain ⟨dx, hg⟩ := G.obj
    refine ⟨_, pss_cons (ps_set (i := 1) scWide.nd rfl (Or.inl rfl) (pe_fn FS hr (pa_cons (pe_fld (pv 0) rfl) pa_nil)))
      (pss_cons (ps_if (pt_cmpR op_isN (pv 1) pe_non (nomark _)) (pss_one (ps_ret (pe_lst (pa_cons (pe_num T.nots) pa_nil)))) pss_nil)
      (pss_one (ps_ret (pe_lst (pa_cons (pv 1) pa_nil))))), ?_⟩
    refine ⟨_, rfl, g, C, dx, _, _, rfl, hg, T.cl, T.nN, gf_nb l, l, rs, rfl, SqL.of G.lst, hR, fun H1 s1 => ?_⟩
    cases hf : wideM rs with
    | none =>
      rw [hf] at k
      exact ⟨_, rfl, rfl, _, rfl, ifT rfl ⟨(by show 1 ≤ sizeLine; decide), fun p hp => k.ro G s1 hp⟩⟩
    | some d =>
      rw [hf] at k
      exact ⟨_, rfl, rfl, _, rfl, ifF rfl ⟨_, rfl, (by show 1 ≤ sizeLine; decide), fun p hp => k.ro G s1 hp⟩⟩
def spGir (C : Addr) : Sp := fun vs H Q _ => ∃ (g l : Addr) (rs : List Nat), vs = [.ref g] ∧ GAt C H g l rs ∧ Rw rs ∧ Sy rs ∧ Done C H g l rs [((girthM rs : Nat) : Int)] Q
theorem scGir : FnScope ["self"] ["self"] (defScope (meth 10)) := ⟨rfl, rfl, rfl, by decide +kernel, rfl, by decide +kernel, by decide +kernel⟩
theorem ok_gir {f : Addr} {fd : FuncData} (F : Fun K "girth" "Graph.girth" (meth 10) f fd) (T : TxtG K mg C) (FS : Ok P w K mg base "shortest_ring" 4 ["rows"] (spGirth K)) : FnOk P w K mg base CX0 5 f fd ["self"] (spGir C) := by
  refine F.ok scGir (fun vs H Q E h => ?_) (fun cdv A outer s H vs Q E hr h => ?_)
  · obtain ⟨g, l, rs, rfl, _⟩ := h
    rfl
  · obtain ⟨g, l, rs, rfl, G, hR, hY, k⟩ := h
    obtain ⟨dx, hg⟩ := G.obj
    refine ⟨_, pss_one (ps_ret (pe_lst (pa_cons (pe_fn FS hr (pa_cons (pe_fld (pv 0) rfl) pa_nil)) pa_nil))), ?_⟩
    exact ⟨_, rfl, g, C, dx, _, _, rfl, hg, T.cl, T.nN, gf_nb l, l, rs, rfl, SqL.of G.lst, hR, hY, fun H1 s1 => ⟨(by show 1 ≤ sizeLine; decide), fun p hp => k.ro G s1 hp⟩⟩
end
end Fg
end
section
set_option Elab.async false
set_option linter.all false
set_option maxRecDepth 100000
set_option maxHeartbeats 2000000
namespace Fg
open PySem PySem.Spec PyProof.Rows L2
section
variable {P : Program} {w : World} {K : PySem.W.Frag} {mg : Str → Option Value} {base : Heap} {C : Addr}
/-! ### switch -/
def spSwitch (C : Addr) : Sp := fun vs H Q _ => ∃ (g l : Addr) (rs : List Nat) (s : Nat), vs = [.ref g, nV s] ∧ GAt C H g l rs ∧ Rw rs ∧ Done C H g l (switchM rs s) [0] Q
theorem scSwitch : FnScope ["self", "s", "chosen", "u"] ["self", "s"] (defScope (meth 11)) := ⟨rfl, rfl, rfl, by decide +kernel, rfl, by decide +kernel, by decide +kernel⟩
theorem ok_switch {f : Addr} {fd : FuncData} (F : Fun K "switch" "Graph.switch" (meth 11) f fd) (T : TxtG K mg C) (FA : OkM P w K mg base C "all_points" 2 ["self"] (spAllP C)) (FS : OkM P w K mg base C "switched_row" 3 ["self", "u", "chosen"] (spSwr C)) : FnOk P w K mg base CX0 4 f fd ["self", "s"] (spSwitch C) := by
  refine F.ok scSwitch (fun vs H Q E h => ?_) (fun cdv A outer s H vs Q E hr h => ?_)
  · obtain ⟨g, l, rs, z, rfl, _⟩ := h
    rfl
  · obtain ⟨g, l, rs, z, rfl, G, hR, k⟩ := h
    obtain ⟨dx, hg⟩ := G.obj
    have h64 := hR.most
    refine ⟨_, pss_cons (ps_set (i := 2) scSwitch.nd rfl (Or.inr rfl) (pe_op op_and (pv 1) (pe_mt0 T.cl FA (hr.mono (by decide)) (pv 0))))
      (pss_cons (ps_fld (pv 0) (pe_lc rfl scSwitch.nd (pi_range1 rfl T.b.range (pa_cons (pe_callB call_len_seq (by rfl) T.b.len PySem.boot_len (pa_cons (pe_fld (pv 0) rfl) pa_nil)) pa_nil)) (blkOk_by (own := [("u", 3)]) rfl)
        (fun _ _ _ _ _ => pg_name (i := 3) scSwitch.nd rfl (Or.inl rfl)) (fun _ _ _ _ _ => pts_nil) (fun _ _ _ _ _ => pe_mt T.cl FS hr (pv 0) (pa_cons (pv 3) (pa_cons (pv 2) pa_nil)))) rfl)
      (pss_one (ps_ret (pe_lst (pa_cons pe_int pa_nil))))), ?_⟩
    refine ⟨_, rfl, _, rfl, g, dx, _, rfl, hg, gf_no l (by decide +kernel), g, l, rs, rfl, G, h64, _, _, rfl, rfl, ?_⟩
    refine ⟨_, rfl, g, C, dx, _, _, rfl, hg, T.cl, T.nN, gf_nb l, l, _, rfl, .inl (SqL.of G.lst), _, rfl, ?_, ?_, ?_⟩
    · show -(2 ^ 62) ≤ (((nVs rs).length : Nat) : Int)
      omega
    · show (((nVs rs).length : Nat) : Int) < 2 ^ 62
      simp; omega
    have e : ((((nVs rs).length : Nat) : Int)).toNat = rs.length := by simp
    rw [e]
    intro m hm
    refine lc_range (n := rs.length) (fun i H' => H' = upd H m (.lst (nVs ((List.range i).map fun u => swr rs u (z &&& (2 ^ rs.length - 1)))))) rfl ?_ ?_
    · rintro i H1 hi rfl
      refine ⟨rfl, ?_⟩
      have s1 : Same H (upd H m (.lst (nVs ((List.range i).map fun u => swr rs u (z &&& (2 ^ rs.length - 1)))))) := same_upd hm
      refine ⟨_, rfl, g, dx, _, rfl, s1 _ _ hg, gf_no l (by decide +kernel), _, rfl, _, rfl, g, l, rs, i, z &&& (2 ^ rs.length - 1), ?_, G.same s1, h64, hi, ?_⟩
      · show [V.ref g, V.int (0 + (i : Int)), V.int (Builtin.bitAnd _ _)] = _
        rw [Int.zero_add, bitAnd_nn]
      · refine ⟨_, upd_same, ?_, ?_⟩
        · simp [sizeLine_eq]; omega
        · rw [upd_upd, List.range_succ, List.map_append, nVs_app]
          rfl
    · rintro H1 rfl
      refine ⟨_, rfl, g, C, dx, _, rfl, by rw [upd_ne (ne_of_none hg hm)]; exact hg, T.cl, T.nN, (by show 1 < 1000; decide), ?_⟩
      refine ⟨(by show 1 ≤ sizeLine; decide), fun p hp => ?_⟩
      exact k.new hg (same_upd hm) hm upd_same hp
/-! ### turn -/
def spTurn (C : Addr) : Sp := fun vs H Q _ => ∃ (g l : Addr) (rs : List Nat), vs = [.ref g] ∧ GAt C H g l rs ∧ Rw rs ∧ Done C H g l (turnM rs) [0] Q
theorem scTurn : FnScope ["self", "everyone", "u"] ["self"] (defScope (meth 12)) := ⟨rfl, rfl, rfl, by decide +kernel, rfl, by decide +kernel, by decide +kernel⟩
theorem ok_turn {f : Addr} {fd : FuncData} (F : Fun K "turn" "Graph.turn" (meth 12) f fd) (T : TxtG K mg C) (FA : OkM P w K mg base C "all_points" 2 ["self"] (spAllP C)) (FW : Ok P w K mg base "with_bit" 1 ["row", "v", "on"] spWith) : FnOk P w K mg base CX0 3 f fd ["self"] (spTurn C) := by
  refine F.ok scTurn (fun vs H Q E h => ?_) (fun cdv A outer s H vs Q E hr h => ?_)
  · obtain ⟨g, l, rs, rfl, _⟩ := h
    rfl
  · obtain ⟨g, l, rs, rfl, G, hR, k⟩ := h
    obtain ⟨dx, hg⟩ := G.obj
    have h64 := hR.most
    have hr1 : Room 1 _ := hr.mono (by decide)
    refine ⟨_, pss_cons (ps_set (i := 1) scTurn.nd rfl (Or.inr rfl) (pe_mt0 T.cl FA hr (pv 0)))
      (pss_cons (ps_fld (pv 0) (pe_lc (te := tOp (rI0 fun i j => V.int (Builtin.bitXor i j)) (tOp (rIxL K) (tFld K (tVar 0) "neighbours") (tVar 2)) (tCall spWith [] E0 (tCons (tVar 1) (tCons (tVar 2) (tCons (tC (.int 0)) tNil))))) rfl scTurn.nd (pi_range1 rfl T.b.range (pa_cons (pe_callB call_len_seq (by rfl) T.b.len PySem.boot_len (pa_cons (pe_fld (pv 0) rfl) pa_nil)) pa_nil)) (blkOk_by (own := [("u", 2)]) rfl)
        (fun _ _ _ _ _ => pg_name (i := 2) scTurn.nd rfl (Or.inl rfl)) (fun _ _ _ _ _ => pts_nil) ?he) rfl)
      (pss_one (ps_ret (pe_lst (pa_cons pe_int pa_nil))))), ?_⟩
    case he =>
      intro s2 H2 C2 cl2 fp2
      exact pe_op op_xor (pe_ix ix_list (pe_fld (pv 0) rfl) (pv 2) (fun _ _ => rfl)) (pe_fn FW hr1 (pa_cons (pv 1) (pa_cons (pv 2) (pa_cons pe_int pa_nil))))
    refine ⟨_, rfl, g, dx, _, rfl, hg, gf_no l (by decide +kernel), g, l, rs, rfl, G, h64, ?_⟩
    refine ⟨_, rfl, g, C, dx, _, _, rfl, hg, T.cl, T.nN, gf_nb l, l, _, rfl, .inl (SqL.of G.lst), _, rfl, ?_, ?_, ?_⟩
    · show -(2 ^ 62) ≤ (((nVs rs).length : Nat) : Int)
      omega
    · show (((nVs rs).length : Nat) : Int) < 2 ^ 62
      simp; omega
    have e : ((((nVs rs).length : Nat) : Int)).toNat = rs.length := by simp
    rw [e]
    intro m hm
    refine lc_range (n := rs.length) (fun i H' => H' = upd H m (.lst (nVs ((List.range i).map fun u => rs.getD u 0 ^^^ setb (2 ^ rs.length - 1) u 0)))) rfl ?_ ?_
    · rintro i H1 hi rfl
      refine ⟨rfl, ?_⟩
      have ei : V.int (0 + (i : Int)) = nV i := by rw [Int.zero_add]
      rw [ei]
      have s1 : Same H (upd H m (.lst (nVs ((List.range i).map fun u => rs.getD u 0 ^^^ setb (2 ^ rs.length - 1) u 0)))) := same_upd hm
      refine ⟨_, rfl, g, C, dx, _, _, rfl, s1 _ _ hg, T.cl, T.nN, gf_nb l, _, rfl, l, _, _, _, rfl, rfl, SqL.of (s1 _ _ G.lst), nVs_at hi, _, rfl, _, rfl, _, i, 0, rfl, by omega, _, _, rfl, rfl, ?_⟩
      refine ⟨_, upd_same, ?_, ?_⟩
      · simp [sizeLine_eq]; omega
      · show upd (upd H m _) m (.lst (_ ++ [V.int (Builtin.bitXor _ _)])) = _
        rw [upd_upd, List.range_succ, List.map_append, nVs_app, bitXor_nn]
        rfl
    · rintro H1 rfl
      refine ⟨_, rfl, g, C, dx, _, rfl, by rw [upd_ne (ne_of_none hg hm)]; exact hg, T.cl, T.nN, (by show 1 < 1000; decide), ?_⟩
      refine ⟨(by show 1 ≤ sizeLine; decide), fun p hp => ?_⟩
      exact k.new hg (same_upd hm) hm upd_same hp
/-! ### odds -/
def spOdds (C : Addr) : Sp := fun vs H Q _ => ∃ (g l : Addr) (rs : List Nat), vs = [.ref g] ∧ GAt C H g l rs ∧ Rw rs ∧ Done C H g l rs [((oddsM rs : Nat) : Int)] Q
theorem scOdds : FnScope ["self", "total", "u", "v"] ["self"] (defScope (meth 13)) := ⟨rfl, rfl, rfl, by decide +kernel, rfl, by decide +kernel, by decide +kernel⟩
theorem ok_odds {f : Addr} {fd : FuncData} (F : Fun K "odds" "Graph.odds" (meth 13) f fd) (T : TxtG K mg C) (FB : Ok P w K mg base "bits_set" 1 ["row"] spBits) (FO : OkM P w K mg base C "odd_with" 3 ["self", "u", "v"] (spOdw C)) (FF : Ok P w K mg base "first_bits" 1 ["n"] spFirst) : FnOk P w K mg base CX0 4 f fd ["self"] (spOdds C) := by
  refine F.ok scOdds (fun vs H Q E h => ?_) (fun cdv A outer s H vs Q E hr h => ?_)
  · obtain ⟨g, l, rs, rfl, _⟩ := h
    rfl
  · obtain ⟨g, l, rs, rfl, G, hR, k⟩ := h
    obtain ⟨dx, hg⟩ := G.obj
    have h64 := hR.most
    refine ⟨_, pss_cons (ps_set (i := 1) scOdds.nd rfl (Or.inl rfl) pe_int)
      (pss_cons (ps_for PassesOwn.never rfl (pi_range1 rfl T.b.range (pa_cons (pe_callB call_len_seq (by rfl) T.b.len PySem.boot_len (pa_cons (pe_fld (pv 0) rfl) pa_nil)) pa_nil)) (pg_name (i := 2) scOdds.nd rfl (Or.inl rfl))
        (pss_one (ps_for PassesOwn.never rfl (pi_range1 rfl T.b.range (pa_cons (pv 2) pa_nil)) (pg_name (i := 3) scOdds.nd rfl (Or.inl rfl))
          (pss_one (ps_set (i := 1) scOdds.nd rfl (Or.inl rfl) (pe_op op_add (pv 1) (pe_fn FB (hr.mono (by decide)) (pa_cons (pe_op op_and (pe_mt T.cl FO hr (pv 0) (pa_cons (pv 2) (pa_cons (pv 3) pa_nil))) (pe_fn FF (hr.mono (by decide)) (pa_cons (pv 3) pa_nil))) pa_nil))))))))
      (pss_one (ps_ret (pe_lst (pa_cons (pv 1) pa_nil))))), ?_⟩
    refine ⟨_, rfl, g, C, dx, _, _, rfl, hg, T.cl, T.nN, gf_nb l, l, _, rfl, .inl (SqL.of G.lst), _, rfl, ?_, ?_, ?_⟩
    · show -(2 ^ 62) ≤ (((nVs rs).length : Nat) : Int)
      omega
    · show (((nVs rs).length : Nat) : Int) < 2 ^ 62
      simp; omega
    have e : ((((nVs rs).length : Nat) : Int)).toNat = rs.length := by simp
    rw [e]
    refine for_range (n := rs.length) (fun i σ H' => H' = H ∧ ∃ (x y : Option V), σ = [some (.ref g), some (nV ((List.range i).map fun u => ((List.range u).map (oddM rs u)).sum).sum), x, y])
      ⟨rfl, none, none, rfl⟩ ?_ ?_
    · rintro i σ H' hi ⟨rfl, x, y, rfl⟩
      have ei : V.int (0 + (i : Int)) = nV i := by rw [Int.zero_add]
      rw [ei]
      refine ⟨_, rfl, _, rfl, ?_, ?_, ?_⟩
      · show -(2 ^ 62) ≤ (i : Int)
        omega
      · show (i : Int) < 2 ^ 62
        omega
      rw [Int.toNat_natCast]
      refine for_range (n := i) (fun j σ H2 => H2 = H' ∧ ∃ (y : Option V), σ = [some (.ref g), some (nV (((List.range i).map fun u => ((List.range u).map (oddM rs u)).sum).sum + ((List.range j).map (oddM rs i)).sum)), some (nV i), y])
        ⟨rfl, y, rfl⟩ ?_ ?_
      · rintro j σ H2 hj ⟨rfl, y, rfl⟩
        have ej : V.int (0 + (j : Int)) = nV j := by rw [Int.zero_add]
        rw [ej]
        have hjn : j < rs.length := by omega
        refine ⟨_, rfl, _, rfl, g, dx, _, rfl, hg, gf_no l (by decide +kernel), _, rfl, _, rfl, g, l, rs, i, j, rfl, G, h64, hi, hjn, _, rfl, j, rfl, by omega, _, _, rfl, rfl, odw rs i j &&& (2 ^ j - 1), rs.length, ?_, Nat.lt_of_le_of_lt Nat.and_le_left (odw_lt hR i j), _, _, rfl, rfl, rfl, some (nV j), ?_⟩
        · show [V.int (Builtin.bitAnd _ _)] = _
          rw [bitAnd_nn]
        · rw [sum_range_succ, ← Nat.add_assoc]
          rfl
      · rintro σ H2 ⟨rfl, y, rfl⟩
        refine ⟨rfl, some (nV i), y, ?_⟩
        rw [sum_range_succ]
    · rintro σ H' ⟨rfl, x, y, rfl⟩
      exact ⟨_, rfl, (by show 1 ≤ sizeLine; decide), fun p hp => k.ro G Same.rfl' hp⟩
end
end Fg
end
section
set_option Elab.async false
set_option linter.all false
set_option maxRecDepth 100000
set_option maxHeartbeats 2000000
namespace Fg
open PySem PySem.Spec PyProof.Rows L2
section
variable {X : Cx}
theorem vals3 {x y z : V} {us : List Value} (r : Vals [x, y, z] us) : ∃ u v w, us = [u, v, w] ∧ RelV x u ∧ RelV y v ∧ RelV z w := by
  cases r with
  | cons h1 t =>
    obtain ⟨v, w, rfl, h2, h3⟩ := Vals.two t
    exact ⟨_, v, w, rfl, h1, h2, h3⟩
theorem call_max3 (hc : X.calm = true) : CallR X (.builtin "max") (fun xs H Q => ∃ i j k, xs = [.int i, .int j, .int k] ∧ Q (.int (max (max i j) k)) H) := by
  intro pins s σ H xs us Q I r h
  obtain ⟨i, j, k, rfl, q⟩ := h
  obtain ⟨u, v, w, rfl, ⟨t, rfl⟩, ⟨t2, rfl⟩, ⟨t3, rfl⟩⟩ := vals3 r
  refine max_three_ints (I.ok.hd hc) fun h' tk keep => ⟨_, H, I.kept keep, ?_, q⟩
  by_cases h1 : j > i
  · rw [if_pos h1]
    by_cases h2 : k > j
    · rw [if_pos h2]; exact ⟨t3, by rw [Int.max_eq_right (Int.le_of_lt h1), Int.max_eq_right (Int.le_of_lt h2)]⟩
    · rw [if_neg h2]; exact ⟨t2, by rw [Int.max_eq_right (Int.le_of_lt h1), Int.max_eq_left (Int.not_lt.mp h2)]⟩
  · rw [if_neg h1]
    by_cases h2 : k > i
    · rw [if_pos h2]; exact ⟨t3, by rw [Int.max_eq_left (Int.not_lt.mp h1), Int.max_eq_right (Int.le_of_lt h2)]⟩
    · rw [if_neg h2]; exact ⟨t, by rw [Int.max_eq_left (Int.not_lt.mp h1), Int.max_eq_left (Int.not_lt.mp h2)]⟩
theorem call_min3 (hc : X.calm = true) : CallR X (.builtin "min") (fun xs H Q => ∃ i j k, xs = [.int i, .int j, .int k] ∧ Q (.int (min (min i j) k)) H) := by
  intro pins s σ H xs us Q I r h
  obtain ⟨i, j, k, rfl, q⟩ := h
  obtain ⟨u, v, w, rfl, ⟨t, rfl⟩, ⟨t2, rfl⟩, ⟨t3, rfl⟩⟩ := vals3 r
  refine min_three_ints (I.ok.hd hc) fun h' tk keep => ⟨_, H, I.kept keep, ?_, q⟩
  by_cases h1 : j < i
  · rw [if_pos h1]
    by_cases h2 : k < j
    · rw [if_pos h2]; exact ⟨t3, by rw [Int.min_eq_right (Int.le_of_lt h1), Int.min_eq_right (Int.le_of_lt h2)]⟩
    · rw [if_neg h2]; exact ⟨t2, by rw [Int.min_eq_right (Int.le_of_lt h1), Int.min_eq_left (Int.not_lt.mp h2)]⟩
  · rw [if_neg h1]
    by_cases h2 : k < i
    · rw [if_pos h2]; exact ⟨t3, by rw [Int.min_eq_left (Int.not_lt.mp h1), Int.min_eq_right (Int.le_of_lt h2)]⟩
    · rw [if_neg h2]; exact ⟨t, by rw [Int.min_eq_left (Int.not_lt.mp h1), Int.min_eq_left (Int.not_lt.mp h2)]⟩
end
section
variable {P : Program} {w : World} {K : PySem.W.Frag} {mg : Str → Option Value} {base : Heap}
/-! ### are_in_range -/
def spRng : Sp := fun vs H Q _ => ∃ n k l m : Int, vs = [.int n, .int k, .int l, .int m] ∧ Q (.bl (rngM n k l m)) H
theorem scRng : FnScope ["n", "k", "l", "m"] ["n", "k", "l", "m"] (defScope (top 26)) := ⟨rfl, rfl, rfl, by decide +kernel, rfl, by decide +kernel, by decide +kernel⟩
theorem ok_rng {f : Addr} {fd : FuncData} (F : Fun K "are_in_range" "are_in_range" (top 26) f fd) (T : TxtB mg) (M : Num mg "MOST_PASSED" 10000) : FnOk P w K mg base CX0 1 f fd ["n", "k", "l", "m"] spRng := by
  refine F.ok scRng (fun vs H Q E h => ?_) (fun cdv A outer s H vs Q E hr h => ?_)
  · obtain ⟨n, k, l, m, rfl, _⟩ := h
    rfl
  · obtain ⟨n, k, l, m, rfl, q⟩ := h
    refine ⟨_, pss_one (ps_ret (pe_and (pe_cmpR op_le pe_int (pv 0) (nomark _)) (pe_and (pe_cmpR op_le (pv 0) (pe_num M) (nomark _)) (pe_and (pe_cmpR op_ge (pe_callB (call_min3 rfl) (by rfl) T.min PyProof.Rows.boot_min (pa_cons (pv 1) (pa_cons (pv 2) (pa_cons (pv 3) pa_nil)))) pe_int (nomark _))
      (pe_one (pe_cmpR op_le (pe_callB (call_max3 rfl) (by rfl) T.max PyProof.Rows.boot_max (pa_cons (pv 1) (pa_cons (pv 2) (pa_cons (pv 3) pa_nil)))) (pe_num M) (nomark _))))))), ?_⟩
    unfold rngM at q
    refine ⟨_, rfl, _, _, rfl, rfl, _, rfl, if2 (fun h1 => ?_) (fun h1 => ?_)⟩
    · rw [h1, Bool.true_and] at q
      refine ⟨_, rfl, _, _, rfl, rfl, _, rfl, if2 (fun h2 => ?_) (fun h2 => ?_)⟩
      · rw [h2, Bool.true_and] at q
        refine ⟨_, rfl, _, rfl, _, rfl, k, l, m, rfl, _, _, rfl, rfl, _, rfl, if2 (fun h3 => ?_) (fun h3 => ?_)⟩
        · rw [h3, Bool.true_and] at q
          exact ⟨_, rfl, _, rfl, _, rfl, k, l, m, rfl, _, _, rfl, rfl, q⟩
        · rw [h3, Bool.false_and] at q
          exact q
      · rw [h2, Bool.false_and] at q
        exact q
    · rw [h1, Bool.false_and] at q
      exact q
/-! ### whole_root -/
def spRoot : Sp := fun vs H Q _ => ∃ z : Int, vs = [.int z] ∧ z < 2 ^ 40 ∧ ∀ r, RootIs z r → Q (nV r) H
theorem scRoot : FnScope ["number", "low", "high", "middle"] ["number"] (defScope (top 27)) := ⟨rfl, rfl, rfl, by decide +kernel, rfl, by decide +kernel, by decide +kernel⟩
theorem sq_ge {h z : Int} (h1 : 1 ≤ h) (h2 : h * h ≤ z) : h ≤ z := by
  have : h * 1 ≤ h * h := Int.mul_le_mul_of_nonneg_left h1 (by omega)
  omega
theorem ok_root {f : Addr} {fd : FuncData} (F : Fun K "whole_root" "whole_root" (top 27) f fd) : FnOk P w K mg base CX0 1 f fd ["number"] spRoot := by
  refine F.ok scRoot (fun vs H Q E h => ?_) (fun cdv A outer s H vs Q E hr h => ?_)
  · obtain ⟨z, rfl, _⟩ := h
    rfl
  · obtain ⟨z, rfl, hz, k⟩ := h
    refine ⟨_, pss_cons (ps_set (i := 1) scRoot.nd rfl (Or.inl rfl) pe_int)
      (pss_cons (ps_set (i := 2) scRoot.nd rfl (Or.inl rfl) pe_int)
      (pss_cons (ps_while PassesOwn.never (pt_cmpR op_le (pe_op op_mul (pv 2) (pv 2)) (pv 0) (nomark _))
        (pss_one (ps_set (i := 2) scRoot.nd rfl (Or.inl rfl) (pe_op op_mul pe_int (pv 2)))))
      (pss_cons (ps_while PassesOwn.never (pt_cmpR op_gt (pe_op op_sub (pv 2) (pv 1)) pe_int (nomark _))
        (pss_cons (ps_set (i := 3) scRoot.nd rfl (Or.inl rfl) (pe_op op_fdiv (pe_op op_add (pv 1) (pv 2)) pe_int))
        (pss_one (ps_if (pt_cmpR op_le (pe_op op_mul (pv 3) (pv 3)) (pv 0) (nomark _))
          (pss_one (ps_set (i := 1) scRoot.nd rfl (Or.inl rfl) (pv 3)))
          (pss_one (ps_set (i := 2) scRoot.nd rfl (Or.inl rfl) (pv 3)))))))
      (pss_one (ps_ret (pv 1)))))), ?_⟩
    refine while_by (fun σ H' => H' = H ∧ ∃ h : Int, σ = [some (.int z), some (.int 0), some (.int h), none] ∧ 1 ≤ h ∧ (h = 1 ∨ h ≤ 2 * z)) (fun σ _ => match σ with | [_, _, some (.int i), _] => (z - i + 1).toNat | _ => 0) ⟨rfl, 1, rfl, by omega, .inl rfl⟩ ?_ ?_
    · rintro σ H' ⟨rfl, h, rfl, h1, h2⟩
      refine ⟨_, rfl, _, rfl, _, _, rfl, rfl, .inl ⟨by omega, by omega⟩, _, rfl, _, _, rfl, rfl, _, rfl, if2 (fun hb => ?_) (fun hb => ?_)⟩
      · have hle : h * h ≤ z := of_decide_eq_true hb
        have := sq_ge h1 hle
        refine ⟨_, rfl, _, _, rfl, rfl, .inl ⟨by decide, by decide⟩, ⟨rfl, 2 * h, rfl, by omega, .inr (by omega)⟩, ?_⟩
        show (z - 2 * h + 1).toNat < (z - h + 1).toNat
        omega
      · have hgt : z < h * h := by have := of_decide_eq_false hb; omega
        refine while_by (fun σ H2 => H2 = H' ∧ ∃ (a b : Int) (v : Option V), σ = [some (.int z), some (.int a), some (.int b), v] ∧ 0 ≤ a ∧ a < b ∧ b < 2 ^ 42 ∧ (a = 0 ∨ a * a ≤ z) ∧ z < b * b ∧ (z < 0 → b = 1)) (fun σ _ => match σ with | [_, some (.int a), some (.int b), _] => (b - a).toNat | _ => 0) ⟨rfl, 0, h, none, rfl, by omega, by omega, by omega, .inl rfl, hgt, by omega⟩ ?_ ?_
        · rintro σ H2 ⟨rfl, a, b, v, rfl, ha, hab, hb42, hlo, hhi, hneg⟩
          refine ⟨_, rfl, _, rfl, _, _, rfl, rfl, _, _, rfl, rfl, _, rfl, if2 (fun hb2 => ?_) (fun hb2 => ?_)⟩
          · have hgt2 : 1 < b - a := of_decide_eq_true hb2
            refine ⟨_, rfl, _, rfl, _, _, rfl, rfl, _, _, rfl, rfl, ⟨by decide, by decide⟩, ?_⟩
            have m1 : a < (a + b) / 2 := by omega
            have m2 : (a + b) / 2 < b := by omega
            refine ⟨_, rfl, _, rfl, _, _, rfl, rfl, .inl ⟨?_, ?_⟩, _, rfl, _, _, rfl, rfl, _, rfl, if2 (fun hb3 => ?_) (fun hb3 => ?_)⟩
            · show -(2 ^ 64) < (a + b) / 2
              omega
            · show (a + b) / 2 < 2 ^ 64
              omega
            · have q3 : (a + b) / 2 * ((a + b) / 2) ≤ z := of_decide_eq_true hb3
              refine ⟨_, rfl, ⟨rfl, (a + b) / 2, b, _, rfl, by omega, m2, hb42, .inr q3, hhi, hneg⟩, ?_⟩
              show (b - (a + b) / 2).toNat < (b - a).toNat
              omega
            · have q3 : z < (a + b) / 2 * ((a + b) / 2) := by have := of_decide_eq_false hb3; omega
              refine ⟨_, rfl, ⟨rfl, a, (a + b) / 2, _, rfl, ha, m1, by omega, hlo, q3, fun hn => by have := hneg hn; omega⟩, ?_⟩
              show ((a + b) / 2 - a).toNat < (b - a).toNat
              omega
          · have hle2 : b - a ≤ 1 := by have := of_decide_eq_false hb2; omega
            have eb : b = a + 1 := by omega
            subst eb
            refine ⟨_, rfl, ?_⟩
            obtain ⟨r, rfl⟩ : ∃ r : Nat, a = r := ⟨a.toNat, by omega⟩
            refine k r ?_
            by_cases hn : z < 0
            · exact .inl ⟨hn, by have := hneg hn; omega⟩
            · refine .inr ⟨by omega, ?_, hhi⟩
              rcases hlo with e | e
              · rw [e]; omega
              · exact e
        · intro σ H2 Q1 Q2 hq hz
          obtain ⟨v, hv, w, hw, i, j, e1, e2, i2, j2, e3, e4, b, e5, q⟩ := hz
          exact ⟨v, hv, w, hw, i, j, e1, e2, i2, j2, e3, e4, b, e5, hq _ _ q⟩
    · intro σ H2 Q1 Q2 hq hz
      obtain ⟨v, hv, w, hw, i, j, e1, e2, hc, w2, hw2, i2, j2, e3, e4, b, e5, q⟩ := hz
      exact ⟨v, hv, w, hw, i, j, e1, e2, hc, w2, hw2, i2, j2, e3, e4, b, e5, hq _ _ q⟩
/-! ### comes_out_even -/
def spEven : Sp := fun vs H Q _ => ∃ n k l m : Int, vs = [.int n, .int k, .int l, .int m] ∧ rngM n k l m = true ∧ ∀ d, RootIs (sqM k l m) d → Q (.bl (evM n k l m d)) H
theorem scEven : FnScope ["n", "k", "l", "m", "e", "square", "d"] ["n", "k", "l", "m"] (defScope (top 28)) := ⟨rfl, rfl, rfl, by decide +kernel, rfl, by decide +kernel, by decide +kernel⟩
theorem dec_int0 (a b : Int) : decide (V.int a = V.int b) = (a == b) := dec_int
theorem sq_bound {a : Int} (h1 : -10000 ≤ a) (h2 : a ≤ 10000) : a * a ≤ 100000000 := by
  have h : 0 ≤ (10000 - a) * (10000 + a) := Int.mul_nonneg (by omega) (by omega)
  have e : (10000 - a) * (10000 + a) = 100000000 - a * a := by
    rw [Int.sub_mul, Int.mul_add, Int.mul_add, Int.mul_comm a 10000]; omega
  omega
theorem ok_even {f : Addr} {fd : FuncData} (F : Fun K "comes_out_even" "comes_out_even" (top 28) f fd) (FR : Ok P w K mg base "whole_root" 1 ["number"] spRoot) : FnOk P w K mg base CX0 2 f fd ["n", "k", "l", "m"] spEven := by
  refine F.ok scEven (fun vs H Q E h => ?_) (fun cdv A outer s H vs Q E hr h => ?_)
  · obtain ⟨n, k, l, m, rfl, _⟩ := h
    rfl
  · obtain ⟨n, k, l, m, rfl, hrg, q⟩ := h
    obtain ⟨n1, n2, k1, k2, l1, l2, m1, m2⟩ := rng_of hrg
    refine ⟨_, pss_cons (ps_set (i := 4) scEven.nd rfl (Or.inl rfl) (pe_op op_add (pe_op op_mul pe_int (pv 1)) (pe_op op_mul (pe_op op_sub (pv 0) pe_int) (pe_op op_sub (pv 2) (pv 3)))))
      (pss_cons (ps_if (pt_cmpR op_eq (pv 4) pe_int (nomark _)) (pss_one (ps_ret pe_bl)) pss_nil)
      (pss_cons (ps_set (i := 5) scEven.nd rfl (Or.inl rfl) (pe_op op_add (pe_op op_mul (pe_op op_sub (pv 2) (pv 3)) (pe_op op_sub (pv 2) (pv 3))) (pe_op op_mul pe_int (pe_op op_sub (pv 1) (pv 3)))))
      (pss_cons (ps_set (i := 6) scEven.nd rfl (Or.inl rfl) (pe_fn FR hr (pa_cons (pv 5) pa_nil)))
      (pss_cons (ps_if (pw_or (pt_cmpR op_eq (pv 6) pe_int (nomark _)) (pw_or (pt_cmpR op_ne (pe_op op_mul (pv 6) (pv 6)) (pv 5) (nomark _)) (pw_or1 (pt_cmpR op_ne (pe_op op_mod (pv 4) (pv 6)) pe_int (nomark _))))).pt
        (pss_one (ps_ret pe_bl)) pss_nil)
      (pss_one (ps_ret (pe_cmpR op_eq (pe_op op_mod (pe_op op_sub (pe_op op_sub (pv 0) pe_int) (pe_op op_fdiv (pv 4) (pv 6))) pe_int) pe_int (nomark _)))))))), ?_⟩
    refine ⟨_, rfl, _, _, rfl, rfl, .inl ⟨by decide, by decide⟩, _, rfl, _, _, rfl, rfl, _, rfl, _, rfl, _, _, rfl, rfl, _, _, rfl, rfl, .inl ⟨?_, ?_⟩, _, _, rfl, rfl, ?_⟩
    · show -(2 ^ 64) < n - 1
      omega
    · show n - 1 < 2 ^ 64
      omega
    have hsq : sqM k l m < 2 ^ 40 := by
      unfold sqM
      have := sq_bound (a := l - m) (by omega) (by omega)
      omega
    refine ⟨_, rfl, rfl, _, rfl, ?_⟩
    show if decide (V.int (eM n k l m) = V.int 0) = true then _ else _
    rw [dec_int0]
    refine if2 (fun h1 => ?_) (fun h1 => ?_)
    · obtain ⟨d, hd⟩ := root_ex (sqM k l m)
      have q := q d hd
      unfold evM at q
      rw [h1, Bool.true_or] at q
      exact q
    refine ⟨_, rfl, _, rfl, _, _, rfl, rfl, _, rfl, _, rfl, _, _, rfl, rfl, _, _, rfl, rfl, .inl ⟨?_, ?_⟩, _, rfl, _, rfl, _, _, rfl, rfl, _, _, rfl, rfl, .inl ⟨by decide, by decide⟩, _, _, rfl, rfl, ?_⟩
    · show -(2 ^ 64) < l - m
      omega
    · show l - m < 2 ^ 64
      omega
    refine ⟨_, rfl, sqM k l m, rfl, hsq, fun d hd => ?_⟩
    have q := q d hd
    unfold evM at q
    rw [h1, Bool.false_or] at q
    have hd0 : (d : Int) * d ≤ 2 ^ 40 ∨ d = 0 := by
      rcases hd with ⟨_, e⟩ | ⟨_, e, _⟩
      · exact .inr e
      · left; omega
    have hdb : d < 2 ^ 30 := by
      rcases hd0 with e | e
      · apply Classical.byContradiction
        intro hn
        have : (2 ^ 30 : Int) * 2 ^ 30 ≤ (d : Int) * d := Int.mul_le_mul (by omega) (by omega) (by decide) (by omega)
        omega
      · rw [e]; decide
    refine ⟨_, rfl, rfl, _, rfl, ?_⟩
    show if decide (V.int (d : Int) = V.int 0) = true then _ else _
    rw [dec_int0]
    refine if2 (fun h2 => ?_) (fun h2 => ?_)
    · have e2 : d = 0 := by have := eq_of_beq h2; omega
      rw [e2] at q
      exact ifT rfl q
    have hd1 : ¬ d = 0 := by intro e; rw [e] at h2; cases h2
    have e3 : (!(d == 0)) = true := by simp [hd1]
    rw [e3, Bool.true_and] at q
    refine ⟨_, rfl, _, rfl, _, _, rfl, rfl, .inl ⟨by omega, by omega⟩, _, rfl, rfl, _, rfl, ?_⟩
    show if (!decide (V.int ((d : Int) * d) = V.int (sqM k l m))) = true then _ else _
    rw [dec_int0]
    refine if2 (fun h3 => ?_) (fun h3 => ?_)
    · rw [notT h3, Bool.false_and] at q
      exact ifT rfl q
    rw [notF h3, Bool.true_and] at q
    refine ⟨_, rfl, _, rfl, _, _, rfl, rfl, (show (0 : Int) < d by omega), rfl, _, rfl, ?_⟩
    show if (!decide (V.int (eM n k l m % (d : Int)) = V.int 0)) = true then _ else _
    rw [dec_int0]
    refine if2 (fun h4 => ?_) (fun h4 => ?_)
    · rw [notT h4, Bool.false_and] at q
      exact q
    rw [notF h4, Bool.true_and] at q
    refine ⟨_, rfl, _, _, rfl, rfl, _, rfl, _, rfl, _, _, rfl, rfl, ⟨?_, ?_⟩, _, _, rfl, rfl, _, _, rfl, rfl, (show (0 : Int) < 2 by decide), rfl, ?_⟩
    · show (0 : Int) < d
      omega
    · show (d : Int) < 1073741824
      omega
    show Q (.bl (decide (V.int ((n - 1 - eM n k l m / (d : Int)) % 2) = V.int 0))) H
    rw [dec_int0]
    exact q
/-! ### passes -/
def spPass : Sp := fun vs H Q _ => ∃ n k l m : Int, vs = [.int n, .int k, .int l, .int m] ∧ ∀ d, RootIs (sqM k l m) d → ∀ p, H p = none → Q (.ref p) (upd H p (.lst ((passA n k l m d).map V.int)))
theorem scPass : FnScope ["n", "k", "l", "m"] ["n", "k", "l", "m"] (defScope (top 29)) := ⟨rfl, rfl, rfl, by decide +kernel, rfl, by decide +kernel, by decide +kernel⟩
theorem ok_pass {f : Addr} {fd : FuncData} (F : Fun K "passes" "passes" (top 29) f fd) (R : Num mg "REFUSED" (-1)) (FG : Ok P w K mg base "are_in_range" 1 ["n", "k", "l", "m"] spRng) (FE : Ok P w K mg base "comes_out_even" 2 ["n", "k", "l", "m"] spEven) : FnOk P w K mg base CX0 3 f fd ["n", "k", "l", "m"] spPass := by
  refine F.ok scPass (fun vs H Q E h => ?_) (fun cdv A outer s H vs Q E hr h => ?_)
  · obtain ⟨n, k, l, m, rfl, _⟩ := h
    rfl
  · obtain ⟨n, k, l, m, rfl, q⟩ := h
    refine ⟨_, pss_cons (ps_if (pt_not (pt_val (pe_fn FG (hr.mono (by decide)) (pa_cons (pv 0) (pa_cons (pv 1) (pa_cons (pv 2) (pa_cons (pv 3) pa_nil))))))) (pss_one (ps_ret (pe_lst (pa_cons (pe_num R) pa_nil)))) pss_nil)
      (pss_cons (ps_if (pw_or (pt_cmpR op_lt (pv 1) pe_int (nomark _)) (pw_or1 (pt_cmpR op_gt (pv 1) (pe_op op_sub (pv 0) pe_int) (nomark _)))).pt (pss_one (ps_ret (pe_lst (pa_cons pe_int pa_nil)))) pss_nil)
      (pss_cons (ps_if (pw_or (pt_cmpR op_ne (pe_op op_mul (pv 1) (pe_op op_sub (pe_op op_sub (pv 1) (pv 2)) pe_int)) (pe_op op_mul (pe_op op_sub (pe_op op_sub (pv 0) (pv 1)) pe_int) (pv 3)) (nomark _)) (pw_or1 (pt_not (pt_val (pe_fn FE hr (pa_cons (pv 0) (pa_cons (pv 1) (pa_cons (pv 2) (pa_cons (pv 3) pa_nil))))))))).pt
        (pss_one (ps_ret (pe_lst (pa_cons pe_int pa_nil)))) pss_nil)
      (pss_one (ps_ret (pe_lst (pa_cons pe_int pa_nil)))))), ?_⟩
    refine ⟨_, rfl, _, rfl, _, rfl, _, rfl, n, k, l, m, rfl, _, rfl, if2 (fun h1 => ?_) (fun h1 => ?_)⟩
    · obtain ⟨d, hd⟩ := root_ex (sqM k l m)
      have q := q d hd
      unfold passA at q
      rw [notT h1, if_neg (by simp)] at q
      exact ⟨(by show 1 ≤ sizeLine; decide), q⟩
    have hrg := notF h1
    obtain ⟨n1, n2, k1, k2, l1, l2, m1, m2⟩ := rng_of hrg
    have no : ∀ d, RootIs (sqM k l m) d → passB n k l m d = false → ∀ p, H p = none → Q (.ref p) (upd H p (.lst [V.int 0])) := fun d hd hb => by
      have q := q d hd
      unfold passA at q
      rw [hrg, if_pos rfl, hb, if_neg (by simp)] at q
      exact q
    refine ⟨_, rfl, _, _, rfl, rfl, _, rfl, if2 (fun h2 => ?_) (fun h2 => ?_)⟩
    · obtain ⟨d, hd⟩ := root_ex (sqM k l m)
      exact ifT rfl ⟨(by show 1 ≤ sizeLine; decide), no d hd (by unfold passB; rw [h2]; rfl)⟩
    refine ⟨_, rfl, _, rfl, _, _, rfl, rfl, _, _, rfl, rfl, _, rfl, if2 (fun h3 => ?_) (fun h3 => ?_)⟩
    · obtain ⟨d, hd⟩ := root_ex (sqM k l m)
      have h3 : decide (n - 2 < k) = true := h3
      exact ⟨(by show 1 ≤ sizeLine; decide), no d hd (by unfold passB; rw [h3]; simp)⟩
    have h3 : decide (n - 2 < k) = false := h3
    refine ⟨_, rfl, _, rfl, _, rfl, _, _, rfl, rfl, _, _, rfl, rfl, _, _, rfl, rfl, .inl ⟨by omega, by omega⟩, _, rfl, _, rfl, _, _, rfl, rfl, _, _, rfl, rfl, _, rfl, _, _, rfl, rfl, .inl ⟨?_, ?_⟩, rfl, _, rfl, ?_⟩
    · show -(2 ^ 64) < n - k - 1
      omega
    · show n - k - 1 < 2 ^ 64
      omega
    show if (!decide (V.int (k * (k - l - 1)) = V.int ((n - k - 1) * m))) = true then _ else _
    rw [dec_int0]
    refine if2 (fun h4 => ?_) (fun h4 => ?_)
    · obtain ⟨d, hd⟩ := root_ex (sqM k l m)
      exact ifT rfl ⟨(by show 1 ≤ sizeLine; decide), no d hd (by unfold passB; rw [notT h4]; simp)⟩
    refine ⟨_, rfl, _, rfl, _, rfl, _, rfl, n, k, l, m, rfl, hrg, fun d hd => ⟨_, rfl, if2 (fun h5 => ?_) (fun h5 => ?_)⟩⟩
    · exact ⟨(by show 1 ≤ sizeLine; decide), no d hd (by unfold passB; rw [notT h5]; simp)⟩
    · have q := q d hd
      have hb : passB n k l m d = true := by
        unfold passB
        rw [h2, h3, notF h4, notF h5]; rfl
      unfold passA at q
      rw [hrg, if_pos rfl, hb, if_pos rfl] at q
      exact ⟨(by show 1 ≤ sizeLine; decide), q⟩
end
end Fg
end
section
set_option Elab.async false
set_option linter.all false
set_option maxRecDepth 100000
set_option maxHeartbeats 2000000
namespace Fg
open PySem PySem.Spec PyProof.Rows L2
/-! ### the table of how many numbers are handed over -/
def hndE (d : DictEntry) (p : Int × Int) : Bool := decide (d.hash = hashInt p.1) && (Value.isInt p.1 d.key && Value.isInt p.2 d.val)
def hndC : List DictEntry → List (Int × Int) → Bool
  | [], [] => true
  | d :: r, p :: t => hndE d p && hndC r t
  | _, _ => false
theorem hndE_of {d : DictEntry} {p : Int × Int} (h : hndE d p = true) : d.hash = hashInt p.1 ∧ (∃ t, d.key = .int p.1 t) ∧ ∃ t, d.val = .int p.2 t := by
  unfold hndE at h
  rw [Bool.and_eq_true, Bool.and_eq_true, decide_eq_true_eq] at h
  exact ⟨h.1, Value.isInt_shape h.2.1, Value.isInt_shape h.2.2⟩
theorem hndC_of {d : DictEntry} {r : List DictEntry} {t : List (Int × Int)} (h : hndC (d :: r) t = true) : ∃ p u, t = p :: u ∧ hndE d p = true ∧ hndC r u = true := by
  cases t with
  | nil => cases h
  | cons p u =>
    have h : (hndE d p && hndC r u) = true := h
    rw [Bool.and_eq_true] at h
    exact ⟨p, u, rfl, h.1, h.2⟩
theorem hnd_keys {P : Program} {w : World} : ∀ {es : List DictEntry} {t : List (Int × Int)}, hndC es t = true → ∀ e ∈ es, ∃ k, (intKind P w).is k e.key = true ∧ e.hash = (intKind P w).hash k := by
  intro es
  induction es with
  | nil => intro t _ e he; cases he
  | cons d r ih =>
    intro t h e he
    obtain ⟨p, u, rfl, h1, h2⟩ := hndC_of h
    rcases List.mem_cons.mp he with e1 | he
    · subst e1
      obtain ⟨q1, ⟨t1, q2⟩, _⟩ := hndE_of h1
      exact ⟨p.1, by rw [q2]; exact intKind_is P w p.1 t1, q1⟩
    · exact ih h2 e he
theorem hnd_find {i v : Int} : ∀ {es : List DictEntry} {t : List (Int × Int)}, hndC es t = true → t.lookup i = some v → ∃ e u, es.find? (fun e => Value.isInt i e.key) = some e ∧ e.val = .int v u := by
  intro es
  induction es with
  | nil =>
    intro t h hl
    cases t with
    | nil => cases hl
    | cons p t => cases h
  | cons d r ih =>
    intro t h hl
    obtain ⟨p, u, rfl, h1, h2⟩ := hndC_of h
    obtain ⟨_, ⟨t1, q2⟩, t2, q3⟩ := hndE_of h1
    obtain ⟨a, b⟩ := p
    by_cases q : i = a
    · subst q
      rw [List.lookup_cons, beq_self_eq_true] at hl
      have e : b = v := Option.some.inj hl
      subst e
      refine ⟨_, t2, List.find?_cons_of_pos ?_, q3⟩
      rw [q2]; simp [Value.isInt]
    · rw [List.lookup_cons, beq_eq_false_iff_ne.mpr q] at hl
      obtain ⟨e, z, he, hv⟩ := ih h2 hl
      refine ⟨e, z, ?_, hv⟩
      rw [List.find?_cons_of_neg]
      · exact he
      · rw [q2]; simp [Value.isInt]; exact fun z => q z.symm
structure Hnd (K : PySem.W.Frag) (mg : Str → Option Value) : Prop where
  ex : ∃ (a : Addr) (es : Array DictEntry) (n : Nat), mg "HANDED" = some (.ref a) ∧ K.lookup a = some ⟨.type "dict", none, .dict es n, #[]⟩ ∧ hndC es.toList hndT = true
def tHnd (ti : TE) : TE := fun σ H Q => ti σ H fun y H1 => ∃ k v, y = .int k ∧ hndT.lookup k = some v ∧ Q (.int v) H1
theorem pe_hnd {X : Cx} {i : Expr} {ti : TE} {p pos : Pos} (T : Hnd X.K X.mg) (hi : PE X i ti) (hs : NoSl i) (hg : Gl X "HANDED" := by rfl) : PE X (.Subscript (.Name "HANDED" p) i pos) (tHnd ti) := by
  intro pins s σ H Q I h
  obtain ⟨a, es, n, hm, hl, hc⟩ := T.ex
  refine subD_of PySem.F.slot_dict_getitem.lookup hs (ld_glob I hg hm (thn (hi pins s σ H _ I h) fun iv s2 ⟨y, H2, I2, ry, k, v, ey, hk, q⟩ => ?_))
  subst ey
  obtain ⟨t, rfl⟩ := ry
  have hM : s2.heap.MapOf (intKind X.prog X.w) a (fun j => findBy Value.isInt es j) :=
    ⟨_, es, n, I2.kIn _ _ hl, ⟨rfl, rfl, rfl⟩, rfl, fun e he => hnd_keys hc e (Array.mem_toList_iff.mpr he), fun _ => rfl⟩
  obtain ⟨e, u, he, hv⟩ := hnd_find hc hk
  refine ⟨hM.typeIs, wpAny_getItem_of (intKind_is _ _ k t) hM (v := .int v u) ?_ ⟨.int v, H2, I2.tok _, ⟨_, rfl⟩, q⟩⟩
  obtain ⟨l⟩ := es
  unfold findBy
  rw [List.find?_toArray, he]
  simp [hv]
section
variable {P : Program} {w : World} {K : PySem.W.Frag} {mg : Str → Option Value} {base : Heap} {C : Addr}
abbrev iVs (cs : List Int) : List V := cs.map V.int
theorem iVs_at {cs : List Int} {i : Nat} {c : Int} (h : cs[i]? = some c) : atI (iVs cs) (i : Int) = some (.int c) := by
  apply atI_nat
  rw [List.getElem?_map, h]
  rfl
/-! ### handed_from, how_many_handed -/
def spFrom (K : PySem.W.Frag) : Sp := fun vs H Q _ => ∃ (a : Addr) (cs : List Int) (at_ : Nat) (c : Int), vs = [.ref a, nV at_] ∧ SqL K H a (iVs cs) ∧ cs[at_]? = some c ∧ Q (nV (fromM c at_)) H
theorem scFrom : FnScope ["calls", "at"] ["calls", "at"] (defScope (top 45)) := ⟨rfl, rfl, rfl, by decide +kernel, rfl, by decide +kernel, by decide +kernel⟩
theorem ok_from {f : Addr} {fd : FuncData} (F : Fun K "handed_from" "handed_from" (top 45) f fd) (R : Num mg "ROWS" 3) : FnOk P w K mg base CX0 1 f fd ["calls", "at"] (spFrom K) := by
  refine F.ok scFrom (fun vs H Q E h => ?_) (fun cdv A outer s H vs Q E hr h => ?_)
  · obtain ⟨a, cs, t, c, rfl, _⟩ := h
    rfl
  · obtain ⟨a, cs, t, c, rfl, hS, hc, k⟩ := h
    refine ⟨_, pss_cons (ps_if (pt_cmpR op_eq (pe_ix ix_list (pv 0) (pv 1) (fun _ _ => rfl)) (pe_num R) (nomark _)) (pss_one (ps_ret (pe_op op_add (pv 1) pe_int))) pss_nil)
      (pss_one (ps_ret (pe_op op_add (pv 1) pe_int))), ?_⟩
    unfold fromM at k
    refine ⟨_, rfl, _, rfl, a, _, _, _, rfl, rfl, hS, iVs_at hc, rfl, _, rfl, ?_⟩
    rw [dec_int0]
    refine if2 (fun hb => ?_) (fun hb => ?_)
    · rw [if_pos (eq_of_beq hb)] at k
      exact ⟨_, rfl, _, _, rfl, rfl, k⟩
    · rw [if_neg (by intro e; rw [e] at hb; cases hb)] at k
      exact ⟨_, rfl, _, _, rfl, rfl, k⟩
def spMany (K : PySem.W.Frag) : Sp := fun vs H Q _ => ∃ (a : Addr) (cs : List Int) (at_ : Nat) (c v : Int), vs = [.ref a, nV at_] ∧ SqL K H a (iVs cs) ∧ cs[at_]? = some c ∧ (c = 3 → cs[at_ + 1]? = some v) ∧ (c ≠ 3 → hndT.lookup c = some v) ∧ Q (.int v) H
theorem scMany : FnScope ["calls", "at"] ["calls", "at"] (defScope (top 46)) := ⟨rfl, rfl, rfl, by decide +kernel, rfl, by decide +kernel, by decide +kernel⟩
theorem ok_many {f : Addr} {fd : FuncData} (F : Fun K "how_many_handed" "how_many_handed" (top 46) f fd) (R : Num mg "ROWS" 3) (T : Hnd K mg) : FnOk P w K mg base CX0 1 f fd ["calls", "at"] (spMany K) := by
  refine F.ok scMany (fun vs H Q E h => ?_) (fun cdv A outer s H vs Q E hr h => ?_)
  · obtain ⟨a, cs, t, c, v, rfl, _⟩ := h
    rfl
  · obtain ⟨a, cs, t, c, v, rfl, hS, hc, h1, h2, k⟩ := h
    refine ⟨_, pss_cons (ps_if (pt_cmpR op_eq (pe_ix ix_list (pv 0) (pv 1) (fun _ _ => rfl)) (pe_num R) (nomark _)) (pss_one (ps_ret (pe_ix ix_list (pv 0) (pe_op op_add (pv 1) pe_int) (fun _ _ => rfl)))) pss_nil)
      (pss_one (ps_ret (pe_hnd T (pe_ix ix_list (pv 0) (pv 1) (fun _ _ => rfl)) (fun _ _ => rfl)))), ?_⟩
    refine ⟨_, rfl, _, rfl, a, _, _, _, rfl, rfl, hS, iVs_at hc, rfl, _, rfl, ?_⟩
    rw [dec_int0]
    refine if2 (fun hb => ?_) (fun hb => ?_)
    · exact ⟨_, rfl, _, rfl, _, _, rfl, rfl, a, _, _, _, rfl, rfl, hS, iVs_at (i := t + 1) (h1 (eq_of_beq hb)), k⟩
    · have hne : c ≠ 3 := by intro e; rw [e] at hb; cases hb
      exact ⟨_, rfl, _, rfl, a, _, _, _, rfl, rfl, hS, iVs_at hc, c, v, rfl, h2 hne, k⟩
/-! ### answer -/
def spAnswer (K : PySem.W.Frag) (C : Addr) : Sp := fun vs H Q _ => ∃ (g l a : Addr) (rs : List Nat) (c : Int) (hs : List Int), vs = [.ref g, .int c, .ref a] ∧ GAt C H g l rs ∧ Gd rs ∧ SqL K H a (iVs hs) ∧ Shp c hs ∧ ∀ rs' ans, StepIs rs c hs rs' ans → Done C H g l rs' ans Q
structure TxtD (mg : Str → Option Value) : Prop where
  begin : Num mg "BEGIN" 0
  size : Num mg "SIZE" 1
  edge : Num mg "EDGE" 2
  rows : Num mg "ROWS" 3
  row : Num mg "ROW" 4
  common : Num mg "COMMON" 5
  strong : Num mg "STRONG" 6
  pass : Num mg "PASS" 7
  far : Num mg "FAR" 8
  wide : Num mg "WIDE" 9
  girth : Num mg "GIRTH" 10
  switch : Num mg "SWITCH" 11
  turn : Num mg "TURN" 12
structure Calls (P : Program) (w : World) (K : PySem.W.Frag) (mg : Str → Option Value) (base : Heap) (C : Addr) : Prop where
  begin : OkM P w K mg base C "begin" 1 ["self"] (spBegin C)
  size : OkM P w K mg base C "size" 2 ["self", "n"] (spSz C)
  edge : OkM P w K mg base C "edge" 2 ["self", "u", "v", "on"] (spEdge C)
  rows : OkM P w K mg base C "rows" 4 ["self", "rows"] (spRows K C)
  row : OkM P w K mg base C "row" 2 ["self", "u"] (spRow C)
  common : OkM P w K mg base C "common" 3 ["self", "u", "v"] (spCommon C)
  strong : OkM P w K mg base C "strong" 4 ["self"] (spStrong C)
  pass : Ok P w K mg base "passes" 3 ["n", "k", "l", "m"] spPass
  far : OkM P w K mg base C "far" 5 ["self", "u", "v"] (spFar C)
  wide : OkM P w K mg base C "wide" 6 ["self"] (spWide C)
  girth : OkM P w K mg base C "girth" 5 ["self"] (spGir C)
  switch : OkM P w K mg base C "switch" 4 ["self", "s"] (spSwitch C)
  turn : OkM P w K mg base C "turn" 3 ["self"] (spTurn C)
  odds : OkM P w K mg base C "odds" 4 ["self"] (spOdds C)
theorem scAnswer : FnScope ["graph", "number", "handed"] ["graph", "number", "handed"] (defScope (top 47)) := ⟨rfl, rfl, rfl, by decide +kernel, rfl, by decide +kernel, by decide +kernel⟩
theorem if3 {i j : Int} {A B : Prop} (h1 : i = j → A) (h2 : i ≠ j → B) : if decide (V.int i = V.int j) = true then A else B := by
  rw [dec_int0]
  exact if2 (fun h => h1 (eq_of_beq h)) (fun h => h2 (by intro e; rw [e, beq_self_eq_true] at h; cases h))
theorem ok_answer {f : Addr} {fd : FuncData} (F : Fun K "answer" "answer" (top 47) f fd) (T : TxtG K mg C) (D : TxtD mg) (O : Calls P w K mg base C) : FnOk P w K mg base CX0 7 f fd ["graph", "number", "handed"] (spAnswer K C) := by
  refine F.ok scAnswer (fun vs H Q E h => ?_) (fun cdv A outer s H vs Q E hr h => ?_)
  · obtain ⟨g, l, a, rs, c, hs, rfl, _⟩ := h
    rfl
  · obtain ⟨g, l, a, rs, c, hs, rfl, G, hG, hS, sh, k⟩ := h
    obtain ⟨dx, hg⟩ := G.obj
    have h64 := hG.rw_.most
    have hr1 : Room 1 _ := hr.mono (by decide)
    have hr2 : Room 2 _ := hr.mono (by decide)
    have hr3 : Room 3 _ := hr.mono (by decide)
    have hr4 : Room 4 _ := hr.mono (by decide)
    have hr5 : Room 5 _ := hr.mono (by decide)
    refine ⟨_, pss_cons (ps_if (pt_cmpR op_eq (pv 1) (pe_num D.begin) (nomark _)) (pss_one (ps_ret (pe_mt0 T.cl O.begin hr1 (pv 0)))) pss_nil)
      (pss_cons (ps_if (pt_cmpR op_eq (pv 1) (pe_num D.size) (nomark _)) (pss_one (ps_ret (pe_mt T.cl O.size hr2 (pv 0) (pa_cons (pe_ix ix_list (pv 2) pe_int (fun _ _ => rfl)) pa_nil)))) pss_nil)
      (pss_cons (ps_if (pt_cmpR op_eq (pv 1) (pe_num D.edge) (nomark _)) (pss_one (ps_ret (pe_mt T.cl O.edge hr2 (pv 0) (pa_cons (pe_ix ix_list (pv 2) pe_int (fun _ _ => rfl)) (pa_cons (pe_ix ix_list (pv 2) pe_int (fun _ _ => rfl)) (pa_cons (pe_ix ix_list (pv 2) pe_int (fun _ _ => rfl)) pa_nil)))))) pss_nil)
      (pss_cons (ps_if (pt_cmpR op_eq (pv 1) (pe_num D.rows) (nomark _)) (pss_one (ps_ret (pe_mt T.cl O.rows hr4 (pv 0) (pa_cons (pv 2) pa_nil)))) pss_nil)
      (pss_cons (ps_if (pt_cmpR op_eq (pv 1) (pe_num D.row) (nomark _)) (pss_one (ps_ret (pe_mt T.cl O.row hr2 (pv 0) (pa_cons (pe_ix ix_list (pv 2) pe_int (fun _ _ => rfl)) pa_nil)))) pss_nil)
      (pss_cons (ps_if (pt_cmpR op_eq (pv 1) (pe_num D.common) (nomark _)) (pss_one (ps_ret (pe_mt T.cl O.common hr3 (pv 0) (pa_cons (pe_ix ix_list (pv 2) pe_int (fun _ _ => rfl)) (pa_cons (pe_ix ix_list (pv 2) pe_int (fun _ _ => rfl)) pa_nil))))) pss_nil)
      (pss_cons (ps_if (pt_cmpR op_eq (pv 1) (pe_num D.strong) (nomark _)) (pss_one (ps_ret (pe_mt0 T.cl O.strong hr4 (pv 0)))) pss_nil)
      (pss_cons (ps_if (pt_cmpR op_eq (pv 1) (pe_num D.pass) (nomark _)) (pss_one (ps_ret (pe_fn O.pass hr3 (pa_cons (pe_ix ix_list (pv 2) pe_int (fun _ _ => rfl)) (pa_cons (pe_ix ix_list (pv 2) pe_int (fun _ _ => rfl)) (pa_cons (pe_ix ix_list (pv 2) pe_int (fun _ _ => rfl)) (pa_cons (pe_ix ix_list (pv 2) pe_int (fun _ _ => rfl)) pa_nil))))))) pss_nil)
      (pss_cons (ps_if (pt_cmpR op_eq (pv 1) (pe_num D.far) (nomark _)) (pss_one (ps_ret (pe_mt T.cl O.far hr5 (pv 0) (pa_cons (pe_ix ix_list (pv 2) pe_int (fun _ _ => rfl)) (pa_cons (pe_ix ix_list (pv 2) pe_int (fun _ _ => rfl)) pa_nil))))) pss_nil)
      (pss_cons (ps_if (pt_cmpR op_eq (pv 1) (pe_num D.wide) (nomark _)) (pss_one (ps_ret (pe_mt0 T.cl O.wide hr (pv 0)))) pss_nil)
      (pss_cons (ps_if (pt_cmpR op_eq (pv 1) (pe_num D.girth) (nomark _)) (pss_one (ps_ret (pe_mt0 T.cl O.girth hr5 (pv 0)))) pss_nil)
      (pss_cons (ps_if (pt_cmpR op_eq (pv 1) (pe_num D.switch) (nomark _)) (pss_one (ps_ret (pe_mt T.cl O.switch hr4 (pv 0) (pa_cons (pe_ix ix_list (pv 2) pe_int (fun _ _ => rfl)) pa_nil)))) pss_nil)
      (pss_cons (ps_if (pt_cmpR op_eq (pv 1) (pe_num D.turn) (nomark _)) (pss_one (ps_ret (pe_mt0 T.cl O.turn hr3 (pv 0)))) pss_nil)
      (pss_one (ps_ret (pe_mt0 T.cl O.odds hr4 (pv 0)))))))))))))))), ?_⟩
    refine ⟨_, rfl, rfl, _, rfl, if3 (fun e => ?_) (fun n0 => ?_)⟩
    · subst e
      cases sh
      exact ⟨_, rfl, g, dx, _, rfl, hg, gf_no l (by decide +kernel), g, l, rs, rfl, G, k _ _ .begin⟩
    refine ⟨_, rfl, rfl, _, rfl, if3 (fun e => ?_) (fun n1 => ?_)⟩
    · subst e
      cases sh with
      | size n => exact ⟨_, rfl, g, dx, _, rfl, hg, gf_no l (by decide +kernel), _, rfl, a, _, _, _, rfl, rfl, hS, rfl, g, l, rs, n, rfl, G, k _ _ (.size n)⟩
    refine ⟨_, rfl, rfl, _, rfl, if3 (fun e => ?_) (fun n2 => ?_)⟩
    · subst e
      cases sh with
      | edge u v on => exact ⟨_, rfl, g, dx, _, rfl, hg, gf_no l (by decide +kernel), _, rfl, a, _, _, _, rfl, rfl, hS, rfl, _, rfl, a, _, _, _, rfl, rfl, hS, rfl, _, rfl, a, _, _, _, rfl, rfl, hS, rfl, g, l, rs, u, v, on, rfl, G, h64, k _ _ (.edge u v on)⟩
    refine ⟨_, rfl, rfl, _, rfl, if3 (fun e => ?_) (fun n3 => ?_)⟩
    · subst e
      cases sh with
      | rows ls =>
        refine ⟨_, rfl, g, dx, _, rfl, hg, gf_no l (by decide +kernel), _, rfl, g, l, a, rs, ls, rfl, G, ?_, k _ _ (.rows ls)⟩
        have e0 : iVs (ls.map fun (r : Nat) => (r : Int)) = nVs ls := by
          show List.map V.int (List.map _ ls) = _
          rw [List.map_map]; rfl
        rw [← e0]; exact hS
    refine ⟨_, rfl, rfl, _, rfl, if3 (fun e => ?_) (fun n4 => ?_)⟩
    · subst e
      cases sh with
      | row u => exact ⟨_, rfl, g, dx, _, rfl, hg, gf_no l (by decide +kernel), _, rfl, a, _, _, _, rfl, rfl, hS, rfl, g, l, rs, u, rfl, G, hG.rw_, k _ _ (.row u)⟩
    refine ⟨_, rfl, rfl, _, rfl, if3 (fun e => ?_) (fun n5 => ?_)⟩
    · subst e
      cases sh with
      | common u v => exact ⟨_, rfl, g, dx, _, rfl, hg, gf_no l (by decide +kernel), _, rfl, a, _, _, _, rfl, rfl, hS, rfl, _, rfl, a, _, _, _, rfl, rfl, hS, rfl, g, l, rs, u, v, rfl, G, hG.rw_, k _ _ (.common u v)⟩
    refine ⟨_, rfl, rfl, _, rfl, if3 (fun e => ?_) (fun n6 => ?_)⟩
    · subst e
      cases sh
      exact ⟨_, rfl, g, dx, _, rfl, hg, gf_no l (by decide +kernel), g, l, rs, rfl, G, hG.rw_, fun x y hx hy => k _ _ (.strong hx hy)⟩
    refine ⟨_, rfl, rfl, _, rfl, if3 (fun e => ?_) (fun n7 => ?_)⟩
    · subst e
      cases sh with
      | pass n k' l' m =>
        exact ⟨_, rfl, a, _, _, _, rfl, rfl, hS, rfl, _, rfl, a, _, _, _, rfl, rfl, hS, rfl, _, rfl, a, _, _, _, rfl, rfl, hS, rfl, _, rfl, a, _, _, _, rfl, rfl, hS, rfl, n, k', l', m, rfl, fun d hd p hp => (k _ _ (.pass n k' l' m hd)).ro G Same.rfl' hp⟩
    refine ⟨_, rfl, rfl, _, rfl, if3 (fun e => ?_) (fun n8 => ?_)⟩
    · subst e
      cases sh with
      | far u v => exact ⟨_, rfl, g, dx, _, rfl, hg, gf_no l (by decide +kernel), _, rfl, a, _, _, _, rfl, rfl, hS, rfl, _, rfl, a, _, _, _, rfl, rfl, hS, rfl, g, l, rs, u, v, rfl, G, hG.rw_, k _ _ (.far u v)⟩
    refine ⟨_, rfl, rfl, _, rfl, if3 (fun e => ?_) (fun n9 => ?_)⟩
    · subst e
      cases sh
      exact ⟨_, rfl, g, dx, _, rfl, hg, gf_no l (by decide +kernel), g, l, rs, rfl, G, hG.rw_, k _ _ .wide⟩
    refine ⟨_, rfl, rfl, _, rfl, if3 (fun e => ?_) (fun n10 => ?_)⟩
    · subst e
      cases sh
      exact ⟨_, rfl, g, dx, _, rfl, hg, gf_no l (by decide +kernel), g, l, rs, rfl, G, hG.rw_, hG.sy, k _ _ .girth⟩
    refine ⟨_, rfl, rfl, _, rfl, if3 (fun e => ?_) (fun n11 => ?_)⟩
    · subst e
      cases sh with
      | switch z => exact ⟨_, rfl, g, dx, _, rfl, hg, gf_no l (by decide +kernel), _, rfl, a, _, _, _, rfl, rfl, hS, rfl, g, l, rs, z, rfl, G, hG.rw_, k _ _ (.switch z)⟩
    refine ⟨_, rfl, rfl, _, rfl, if3 (fun e => ?_) (fun n12 => ?_)⟩
    · subst e
      cases sh
      exact ⟨_, rfl, g, dx, _, rfl, hg, gf_no l (by decide +kernel), g, l, rs, rfl, G, hG.rw_, k _ _ .turn⟩
    cases sh with
    | odds => exact ⟨_, rfl, g, dx, _, rfl, hg, gf_no l (by decide +kernel), g, l, rs, rfl, G, hG.rw_, k _ _ .odds⟩
    | _ => contradiction
end
end Fg
end
section
set_option Elab.async false
set_option linter.all false
set_option maxRecDepth 100000
set_option maxHeartbeats 2000000
namespace Fg
open PySem PySem.Spec PyProof.Rows L2
section
variable {P : Program} {w : World} {K : PySem.W.Frag} {mg : Str → Option Value} {base : Heap} {C : Addr}
/-! ### answers -/
def spAns (K : PySem.W.Frag) : Sp := fun vs H Q _ => ∃ (a : Addr) (L : List Int), vs = [.ref a] ∧ SqL K H a (iVs L) ∧ L.length ≤ 16000 ∧ PyRc90.answers_asked L = true ∧ ∀ (H' : Hp) (p : Addr), H' p = some (.lst (iVs (PyRc90.answers L))) → Q (.ref p) H'
theorem scAns : FnScope ["calls", "graph", "told", "at", "start", "handed", "k", "found"] ["calls"] (defScope (top 48)) := ⟨rfl, rfl, rfl, by decide +kernel, rfl, by decide +kernel, by decide +kernel⟩
theorem hs_get {L hs : List Int} {s v i : Nat} (h : hs = (L.drop s).take v) (hi : i < v) (hl : hs.length = v) : ∃ y, hs[i]? = some y ∧ L[s + i]? = some y := by
  have h1 : i < hs.length := by omega
  refine ⟨hs[i], List.getElem?_eq_getElem h1, ?_⟩
  have h2 := List.getElem?_eq_getElem h1
  rw [← h2]
  subst h
  rw [List.getElem?_take, if_pos hi, List.getElem?_drop]
theorem ok_answers {f fI : Addr} {fd fdI : FuncData} (F : Fun K "answers" "answers" (top 48) f fd) (T : TxtG K mg C) (M : Mk K C fI) (mgC : mg "Graph" = some (.ref C)) (FI : Fun K "__init__" "Graph.__init__" (meth 0) fI fdI) (bI : Binds K fdI ["self"] [])
    (FH : Ok P w K mg base "handed_from" 1 ["calls", "at"] (spFrom K)) (FM : Ok P w K mg base "how_many_handed" 1 ["calls", "at"] (spMany K)) (FA : Ok P w K mg base "answer" 7 ["graph", "number", "handed"] (spAnswer K C)) : FnOk P w K mg base CX0 8 f fd ["calls"] (spAns K) := by
  have GI : FnOk P w K mg base CX0 1 fI fdI ["self"] (spInit C) := ok_init FI T
  refine F.ok scAns (fun vs H Q E h => ?_) (fun cdv A outer s H vs Q E hr h => ?_)
  · obtain ⟨a, L, rfl, _⟩ := h
    rfl
  · obtain ⟨a, L, rfl, hS, hL, hask, k⟩ := h
    have hr1 : Room 1 _ := hr.mono (by decide)
    have hr2 : Room 2 _ := hr.mono (by decide)
    refine ⟨_, pss_cons (ps_set (i := 1) scAns.nd rfl (Or.inl rfl) (pe_make0 M GI hr2 rfl mgC bI .nil pass0))
      (pss_cons (ps_set (i := 2) scAns.nd rfl (Or.inl rfl) (pe_lst pa_nil))
      (pss_cons (ps_set (i := 3) scAns.nd rfl (Or.inl rfl) pe_int)
      (pss_cons (ps_while PassesOwn.never (pt_cmpR op_lt (pv 3) (pe_callB call_len_seq (by rfl) T.b.len PySem.boot_len (pa_cons (pv 0) pa_nil)) (nomark _))
        (pss_cons (ps_set (i := 4) scAns.nd rfl (Or.inl rfl) (pe_fn FH hr1 (pa_cons (pv 0) (pa_cons (pv 3) pa_nil))))
        (pss_cons (ps_setLc (i := 5) (te := tOp (rIxL K) (tVar 0) (tVar 6)) rfl scAns.nd rfl rfl (sw_true rfl rfl rfl rfl) (pi_range2 rfl T.b.range (pa_cons (pv 4) (pa_cons (pe_op op_add (pv 4) (pe_fn FM hr1 (pa_cons (pv 0) (pa_cons (pv 3) pa_nil)))) pa_nil)))
          (blkOk_by (own := [("k", 6)]) rfl) (fun _ _ _ _ _ => pg_name (i := 6) scAns.nd rfl (Or.inl rfl)) (fun _ _ _ _ _ => pts_nil) ?he)
        (pss_cons (ps_set (i := 7) scAns.nd rfl (Or.inl rfl) (pe_fn FA hr (pa_cons (pv 1) (pa_cons (pe_ix ix_list (pv 0) (pv 3) (fun _ _ => rfl)) (pa_cons (pv 5) pa_nil)))))
        (pss_cons (ps_expr (pe_bm PySem.F.plainAttrs_list PySem.F.slot_list_append PySem.F.type_list_append mt_append (pv 2) (pa_cons (pe_callB call_len_seq (by rfl) T.b.len PySem.boot_len (pa_cons (pv 7) pa_nil)) pa_nil)))
        (pss_cons (ps_expr (pe_bm PySem.F.plainAttrs_list PySem.F.slot_list_extend PySem.F.type_list_extend mt_extend (pv 2) (pa_cons (pv 7) pa_nil)))
        (pss_one (ps_set (i := 3) scAns.nd rfl (Or.inl rfl) (pe_op op_add (pv 4) (pe_callB call_len_seq (by rfl) T.b.len PySem.boot_len (pa_cons (pv 5) pa_nil)))))))))))
      (pss_one (ps_ret (pv 2)))))), ?_⟩
    case he =>
      intro s2 H2 C2 cl2 fp2
      exact pe_ix ix_list (pv 0) (pv 6) (fun _ _ => rfl)
    -- graph = Graph()
    intro g dx ng ndx nex
    refine ⟨g, dx, rfl, upd_same, fun H1 l hl G kp => ⟨rfl, ?_⟩⟩
    have s0 : Same H (upd (upd H dx (.own g)) g (.ins C dx [])) := fun b o e => by
      rw [upd_ne (ne_of_none e ng), upd_ne (ne_of_none e ndx)]
      exact e
    have s1 : Same H H1 := Same.made ng ndx kp
    have nl : H l = none := s0.free hl
    -- told = []; at = 0
    refine ⟨Nat.zero_le _, fun t ht => ?_⟩
    have nt : H t = none := s1.free ht
    have s2 : Same H1 (upd H1 t (.lst [])) := same_upd ht
    have elen : (((iVs L).length : Nat) : Int) = (L.length : Int) := by simp
    refine while_by (fun σ H' => ∃ (n : Nat) (l : Addr) (rs : List Nat) (acc : List Int) (x4 x5 x6 x7 : Option V), σ = [some (.ref a), some (.ref g), some (.ref t), some (nV n), x4, x5, x6, x7] ∧ Same H H' ∧ GAt C H' g l rs ∧ H l = none ∧ t ≠ l ∧ H' t = some (.lst (iVs acc)) ∧ LInv L n rs acc ∧ n ≤ L.length)
      (fun σ _ => match σ with | [_, _, _, some (.int i), _, _, _, _] => L.length - i.toNat | _ => 0)
      ⟨0, l, [0], [], none, none, none, none, rfl, s1.trans s2, G.same s2, nl, (ne_of_none G.lst ht).symm, upd_same, inv_start hask, Nat.zero_le _⟩ ?_ ?_
    · rintro σ H' ⟨n, l, rs, acc, x4, x5, x6, x7, rfl, sH, G, nl, ntl, ht', I, hn⟩
      have hS' := sH.seq hS
      refine ⟨_, rfl, _, rfl, a, _, rfl, .inl hS', _, _, rfl, rfl, _, rfl, ?_⟩
      rw [elen]
      refine if2 (fun hb => ?_) (fun hb => ?_)
      · have hlt : n < L.length := by have := of_decide_eq_true hb; omega
        obtain ⟨c, v, hs, hc, h1, h2, hlen, hsd, hle, shp, step⟩ := inv_step I hlt
        obtain ⟨dg, hg⟩ := G.obj
        -- start = handed_from(calls, at)
        refine ⟨_, rfl, _, rfl, a, L, n, c, rfl, hS', hc, ?_⟩
        -- handed = [calls[k] for k in range(start, start + how_many_handed(calls, at))]
        refine ⟨_, rfl, _, rfl, _, rfl, _, rfl, a, L, n, c, (v : Int), rfl, hS', hc, h1, h2, _, _, rfl, rfl, _, _, rfl, ⟨?_, ?_, ?_, ?_⟩, ?_⟩
        · show -(2 ^ 62) ≤ ((fromM c n : Nat) : Int)
          omega
        · show ((fromM c n : Nat) : Int) < 2 ^ 62
          omega
        · show -(2 ^ 62) ≤ ((fromM c n : Nat) : Int) + (v : Int)
          omega
        · show ((fromM c n : Nat) : Int) + (v : Int) < 2 ^ 62
          omega
        have ev : (((fromM c n : Nat) : Int) + (v : Int) - ((fromM c n : Nat) : Int)).toNat = v := by omega
        rw [ev]
        intro D hD
        have sD : ∀ xs, Same H' (upd H' D (.lst xs)) := fun xs => same_upd hD
        refine lc_range (n := v) (fun i H2 => H2 = upd H' D (.lst (iVs (hs.take i)))) rfl ?_ ?_
        · rintro i H2 hi rfl
          refine ⟨rfl, ?_⟩
          obtain ⟨y, hy1, hy2⟩ := hs_get hsd hi hlen
          have ei : V.int (((fromM c n : Nat) : Int) + (i : Int)) = nV (fromM c n + i) := by
            show V.int _ = V.int _
            rw [Int.natCast_add]
          rw [ei]
          refine ⟨_, rfl, _, rfl, a, _, _, _, rfl, rfl, ((sH.trans (sD _)).seq hS), iVs_at hy2, ?_⟩
          refine ⟨_, upd_same, ?_, ?_⟩
          · rw [List.length_map, sizeLine_eq]
            have := List.length_take_le i hs
            omega
          · rw [upd_upd, take_snoc hy1]
            show _ = upd H' D (.lst (List.map V.int (hs.take i ++ [y])))
            rw [List.map_append]
            rfl
        · rintro H2 rfl
          have ett : hs.take v = hs := by rw [← hlen]; exact List.take_length
          rw [ett]
          have sD := sD (iVs hs)
          have hDg : D ≠ g := (ne_of_none hg hD).symm
          have hDl : D ≠ l := (ne_of_none G.lst hD).symm
          have hDt : t ≠ D := ne_of_none ht' hD
          have htg : t ≠ g := ne_of ht' hg (by intro z; cases z)
          -- found = answer(graph, calls[at], handed)
          refine ⟨_, rfl, _, rfl, _, rfl, a, _, _, _, rfl, rfl, ((sH.trans sD).seq hS), iVs_at hc, _, rfl, g, l, D, rs, c, hs, rfl, G.same sD, I.gd, SqL.of upd_same, shp, ?_⟩
          intro rs' ans hst H3 p m hp hpl G3 hm chg
          obtain ⟨hal, I2⟩ := step rs' ans hst
          have hpt : p ≠ t := (ne_of_none (sD _ _ ht') hp).symm
          have hpD : p ≠ D := (ne_of_none (show upd H' D (.lst (iVs hs)) D = some (.lst (iVs hs)) from upd_same) hp).symm
          have ht3 : H3 t = some (.lst (iVs acc)) := chg t _ (sD _ _ ht') htg ntl
          have hD3 : H3 D = some (.lst (iVs hs)) := chg D _ upd_same hDg hDl
          have hacc := I.len
          -- told.append(len(found))
          refine ⟨_, rfl, .inl ⟨rfl, _, SqL.of ht3⟩, _, rfl, p, _, rfl, .inl (SqL.of hpl), t, _, _, rfl, rfl, ht3, (by rw [List.length_map, sizeLine_eq]; omega), ?_⟩
          -- told.extend(found)
          refine ⟨_, rfl, .inl ⟨rfl, _, SqL.of upd_same⟩, _, rfl, t, p, _, _, rfl, rfl, upd_same, (by rw [upd_ne hpt]; exact hpl), (by rw [List.length_append, List.length_map, List.length_map, List.length_singleton, sizeLine_eq]; omega), ?_⟩
          rw [upd_upd]
          -- at = start + len(handed)
          refine ⟨_, rfl, _, rfl, D, _, rfl, .inl (SqL.of (by rw [upd_ne (Ne.symm hDt)]; exact hD3)), _, _, rfl, rfl, ⟨fromM c n + v, m, rs', acc ++ (ans.length : Int) :: ans, some (nV (fromM c n)), some (.ref D), x6, some (.ref p), ?_, ?_, ?_, ?_, ?_, ?_, I2, hle⟩, ?_⟩
          · show [some (V.ref a), some (V.ref g), some (V.ref t), some (V.int (((fromM c n : Nat) : Int) + (((iVs hs).length : Nat) : Int))), some (nV (fromM c n)), some (V.ref D), x6, some (V.ref p)] = _
            have e2 : (((fromM c n : Nat) : Int) + (((iVs hs).length : Nat) : Int)) = ((fromM c n + v : Nat) : Int) := by
              rw [List.length_map, hlen, Int.natCast_add]
            rw [e2]
          · intro b o e
            have e1 := (sH.trans sD) b o e
            rw [upd_ne (ne_of_none e nt)]
            exact chg b o e1 (ne_of_none e ng) (ne_of_none e nl)
          · obtain ⟨d3, g3⟩ := G3.obj
            refine ⟨⟨d3, ?_⟩, ?_⟩
            · rw [upd_ne (Ne.symm htg)]; exact g3
            · rw [upd_ne ?_]; exact G3.lst
              rcases hm with e | e
              · rw [e]; exact Ne.symm ntl
              · exact (ne_of_none (sD _ _ ht') e).symm
          · rcases hm with e | e
            · rw [e]; exact nl
            · exact (sH.trans sD).free e
          · rcases hm with e | e
            · rw [e]; exact ntl
            · exact ne_of_none (sD _ _ ht') e
          · rw [upd_same]
            show some (HO.lst ((List.map V.int acc ++ [V.int (((List.map V.int ans).length : Nat) : Int)]) ++ List.map V.int ans)) = some (HO.lst (List.map V.int (acc ++ (ans.length : Int) :: ans)))
            rw [List.map_append, List.map_cons, List.append_assoc, List.length_map]
            rfl
          · show L.length - (((fromM c n : Nat) : Int) + (((iVs hs).length : Nat) : Int)).toNat < L.length - ((n : Nat) : Int).toNat
            have : n + 1 ≤ fromM c n := by unfold fromM; split <;> omega
            omega
      · have hge : L.length ≤ n := by have := of_decide_eq_false hb; omega
        refine ⟨_, rfl, k H' t ?_⟩
        rw [← inv_end I hge]
        exact ht'
    · intro σ H' Q1 Q2 hq hz
      obtain ⟨v, hv, w, hw, p, ys, e0, hS, i, j, e1, e2, b, e3, q⟩ := hz
      exact ⟨v, hv, w, hw, p, ys, e0, hS, i, j, e1, e2, b, e3, hq _ _ q⟩
end
end Fg
end
section
set_option Elab.async false
set_option linter.all false
set_option maxRecDepth 100000
set_option maxHeartbeats 2000000
namespace Fg
open PySem PySem.Spec PyProof.Rows L2
open PySem.W (Codec)
/-! ### what the top has written -/
structure FnAt (K : PySem.W.Frag) (mg : Str → Option Value) (x : Str) (st : Stmt) : Prop where
  ex : ∃ (f : Addr) (fd : FuncData), mg x = some (.ref f) ∧ PySem.W.keepIn K (.ref f) = true ∧ Fun K x x st f fd
structure MtAt (K : PySem.W.Frag) (C : Addr) (m q : Str) (st : Stmt) : Prop where
  ex : ∃ (f : Addr) (fd : FuncData), Meth K C m f ∧ Fun K m q st f fd
theorem fnAt {K : PySem.W.Frag} {h : Heap} {mg : Str → Option Value} (X : K.In h) (G : h.Ns mainGlobals mg) {x : Str} {st : Stmt} {f : Addr} {od an : Option Addr} {sl : Array (Option Value)} {oc kV dc pm cd ct : Value}
    (a : PySem.W.nsIn K mainGlobals x = some (some (.ref f))) (l : K.lookup f = some ⟨oc, od, .func (PySem.W.fnOf x x (defArgs st) (defBody st) (defScope st) .none kV dc pm an cd ct), sl⟩) (c : PySem.W.codeIn K cd x = true) (k : PySem.W.keepIn K (.ref f) = true) : FnAt K mg x st :=
  ⟨f, _, PySem.W.mg_of X G a, k, fun_mk (st := st) l c k⟩
theorem mtAt {K : PySem.W.Frag} {C : Addr} {m q : Str} {st : Stmt} {f : Addr} {od an : Option Addr} {sl : Array (Option Value)} {oc kV dc pm cd ct : Value}
    (a : PySem.W.findIn K (.ref C) m = some (some (.ref f))) (i : PySem.W.isFn K (.ref f) = true) (l : K.lookup f = some ⟨oc, od, .func (PySem.W.fnOf m q (defArgs st) (defBody st) (defScope st) .none kV dc pm an cd ct), sl⟩) (c : PySem.W.codeIn K cd q = true) (k : PySem.W.keepIn K (.ref f) = true) : MtAt K C m q st :=
  ⟨f, _, ⟨a, i, k⟩, fun_mk (st := st) l c k⟩
theorem numAt {K : PySem.W.Frag} {h : Heap} {mg : Str → Option Value} (X : K.In h) (G : h.Ns mainGlobals mg) {x : Str} {i : Int} {t : Nat} (a : PySem.W.nsIn K mainGlobals x = some (some (.int i t))) : Num mg x i := ⟨t, PySem.W.mg_of X G a⟩
def tabC : List Value → List Nat → Bool
  | [], [] => true
  | .int i _ :: r, n :: t => decide (i = (n : Int)) && tabC r t
  | _, _ => false
theorem tab_vals : ∀ {l : List Value} {t : List Nat}, tabC l t = true → Vals (nVs t) l
  | [], [], _ => .nil
  | .int i u :: r, n :: t, h => by
    have h : (decide (i = (n : Int)) && tabC r t) = true := h
    rw [Bool.and_eq_true, decide_eq_true_eq] at h
    exact .cons ⟨u, by rw [h.1]⟩ (tab_vals h.2)
theorem tabAt {K : PySem.W.Frag} {h : Heap} {mg : Str → Option Value} (X : K.In h) (G : h.Ns mainGlobals mg) {f : Addr} {od : Option Addr} {its : Array Value} {n : Nat} {sl : Array (Option Value)} (a : PySem.W.nsIn K mainGlobals "BITS_OF_FOUR" = some (some (.ref f)))
    (l : K.lookup f = some ⟨.type "tuple", od, .seq its n, sl⟩) (c : tabC its.toList tab = true) : Tab K mg := by
  have v := tab_vals c
  refine ⟨f, PySem.W.mg_of X G a, fun H => .inr ⟨_, its, n, l, rfl, rfl, ?_, v⟩⟩
  have e : its.toList.length = 16 := by rw [← v.length]; rfl
  rw [Array.length_toList] at e
  rw [e]; decide
theorem hndAt {K : PySem.W.Frag} {h : Heap} {mg : Str → Option Value} (X : K.In h) (G : h.Ns mainGlobals mg) {f : Addr} {es : Array DictEntry} {n : Nat} (a : PySem.W.nsIn K mainGlobals "HANDED" = some (some (.ref f)))
    (l : K.lookup f = some ⟨.type "dict", none, .dict es n, #[]⟩) (c : hndC es.toList hndT = true) : Hnd K mg := ⟨f, es, n, PySem.W.mg_of X G a, l, c⟩
theorem us1 {P : List Value → Prop} (h : ∀ a, P [a]) (us : List Value) (e : us.length = 1) : P us := by
  cases us with
  | nil => cases e
  | cons a t =>
    cases t with
    | nil => exact h a
    | cons b t => cases e
theorem usS {n : Nat} {P : List Value → Prop} (h : ∀ a, ∀ us : List Value, us.length = n → P (a :: us)) (us : List Value) (e : us.length = n + 1) : P us := by
  cases us with
  | nil => cases e
  | cons a t => exact h a t (Nat.succ.inj e)
theorem us2 {P : List Value → Prop} (h : ∀ a b, P [a, b]) (us : List Value) (e : us.length = 2) : P us := usS (fun a => us1 (h a)) us e
theorem us3 {P : List Value → Prop} (h : ∀ a b c, P [a, b, c]) (us : List Value) (e : us.length = 3) : P us := usS (fun a => us2 (h a)) us e
theorem us4 {P : List Value → Prop} (h : ∀ a b c d, P [a, b, c, d]) (us : List Value) (e : us.length = 4) : P us := usS (fun a => us3 (h a)) us e
structure Text (K : PySem.W.Frag) (mg : Str → Option Value) (C : Addr) : Prop where
  t : TxtG K mg C
  d : TxtD mg
  mp : Num mg "MOST_PASSED" 10000
  tab : Tab K mg
  hnd : Hnd K mg
  bits : FnAt K mg "bits_set" (top 2)
  bit : FnAt K mg "bit_of" (top 3)
  wth : FnAt K mg "with_bit" (top 4)
  first : FnAt K mg "first_bits" (top 5)
  pts : FnAt K mg "points_of" (top 6)
  next : FnAt K mg "next_to" (top 10)
  layers : FnAt K mg "layers_from" (top 11)
  betw : FnAt K mg "steps_between" (top 12)
  ecc : FnAt K mg "steps_to_farthest" (top 13)
  most : FnAt K mg "most_steps" (top 14)
  two : FnAt K mg "some_have_two" (top 15)
  ring : FnAt K mg "ring_around" (top 16)
  girth : FnAt K mg "shortest_ring" (top 17)
  isSize : FnAt K mg "is_size" (top 20)
  agree : FnAt K mg "rows_agree" (top 21)
  are : FnAt K mg "are_rows" (top 22)
  rng : FnAt K mg "are_in_range" (top 26)
  root : FnAt K mg "whole_root" (top 27)
  even : FnAt K mg "comes_out_even" (top 28)
  pass : FnAt K mg "passes" (top 29)
  from_ : FnAt K mg "handed_from" (top 45)
  many : FnAt K mg "how_many_handed" (top 46)
  ans : FnAt K mg "answer" (top 47)
  has : MtAt K C "has_points" "Graph.has_points" (meth 14)
  allP : MtAt K C "all_points" "Graph.all_points" (meth 15)
  inC : MtAt K C "in_common" "Graph.in_common" (meth 16)
  hav : MtAt K C "all_have" "Graph.all_have" (meth 17)
  alw : MtAt K C "always_common" "Graph.always_common" (meth 18)
  swr : MtAt K C "switched_row" "Graph.switched_row" (meth 19)
  odw : MtAt K C "odd_with" "Graph.odd_with" (meth 20)
  mBegin : MtAt K C "begin" "Graph.begin" (meth 1)
  mSize : MtAt K C "size" "Graph.size" (meth 2)
  mEdge : MtAt K C "edge" "Graph.edge" (meth 3)
  mRows : MtAt K C "rows" "Graph.rows" (meth 4)
  mRow : MtAt K C "row" "Graph.row" (meth 5)
  mCommon : MtAt K C "common" "Graph.common" (meth 6)
  mStrong : MtAt K C "strong" "Graph.strong" (meth 7)
  mFar : MtAt K C "far" "Graph.far" (meth 8)
  mWide : MtAt K C "wide" "Graph.wide" (meth 9)
  mGirth : MtAt K C "girth" "Graph.girth" (meth 10)
  mSwitch : MtAt K C "switch" "Graph.switch" (meth 11)
  mTurn : MtAt K C "turn" "Graph.turn" (meth 12)
  mOdds : MtAt K C "odds" "Graph.odds" (meth 13)
  init : MtAt K C "__init__" "Graph.__init__" (meth 0)
  makes : PySem.W.makesIn K C = true
  kc : PySem.W.keepIn K (.ref C) = true
  mgC : mg "Graph" = some (.ref C)
section
variable {P : Program} {w : World} {K : PySem.W.Frag} {mg : Str → Option Value} {base : Heap} {C : Addr}
theorem toOk {x : Str} {st : Stmt} {k : Nat} {ps : List Str} {sp : Sp} (A : FnAt K mg x st) (b : ∀ {f : Addr} {fd : FuncData}, Fun K x x st f fd → Binds K fd ps []) (o : ∀ {f : Addr} {fd : FuncData}, Fun K x x st f fd → FnOk P w K mg base CX0 k f fd ps sp) : Ok P w K mg base x k ps sp :=
  let ⟨f, fd, h1, h2, h3⟩ := A.ex
  ⟨f, fd, h1, h2, b h3, o h3⟩
theorem toOkM {m q : Str} {st : Stmt} {k : Nat} {ps : List Str} {sp : Sp} (A : MtAt K C m q st) (b : ∀ {f : Addr} {fd : FuncData}, Fun K m q st f fd → Binds K fd ps []) (o : ∀ {f : Addr} {fd : FuncData}, Fun K m q st f fd → FnOk P w K mg base CX0 k f fd ps sp) : OkM P w K mg base C m k ps sp :=
  let ⟨f, fd, h1, h2⟩ := A.ex
  ⟨f, fd, h1, b h2, o h2⟩
theorem b_bits_set {f : Addr} {fd : FuncData} (F : Fun K "bits_set" "bits_set" (top 2) f fd) : Binds K fd ["row"] [] := F.binds fun _ _ _ _ _ _ => us1 fun _ => rfl
theorem b_bit_of {f : Addr} {fd : FuncData} (F : Fun K "bit_of" "bit_of" (top 3) f fd) : Binds K fd ["row", "v"] [] := F.binds fun _ _ _ _ _ _ => us2 fun _ _ => rfl
theorem b_with_bit {f : Addr} {fd : FuncData} (F : Fun K "with_bit" "with_bit" (top 4) f fd) : Binds K fd ["row", "v", "on"] [] := F.binds fun _ _ _ _ _ _ => us3 fun _ _ _ => rfl
theorem b_first_bits {f : Addr} {fd : FuncData} (F : Fun K "first_bits" "first_bits" (top 5) f fd) : Binds K fd ["n"] [] := F.binds fun _ _ _ _ _ _ => us1 fun _ => rfl
theorem b_points_of {f : Addr} {fd : FuncData} (F : Fun K "points_of" "points_of" (top 6) f fd) : Binds K fd ["row"] [] := F.binds fun _ _ _ _ _ _ => us1 fun _ => rfl
theorem b_next_to {f : Addr} {fd : FuncData} (F : Fun K "next_to" "next_to" (top 10) f fd) : Binds K fd ["rows", "points"] [] := F.binds fun _ _ _ _ _ _ => us2 fun _ _ => rfl
theorem b_layers_from {f : Addr} {fd : FuncData} (F : Fun K "layers_from" "layers_from" (top 11) f fd) : Binds K fd ["rows", "u"] [] := F.binds fun _ _ _ _ _ _ => us2 fun _ _ => rfl
theorem b_steps_between {f : Addr} {fd : FuncData} (F : Fun K "steps_between" "steps_between" (top 12) f fd) : Binds K fd ["rows", "u", "v"] [] := F.binds fun _ _ _ _ _ _ => us3 fun _ _ _ => rfl
theorem b_steps_to_farthest {f : Addr} {fd : FuncData} (F : Fun K "steps_to_farthest" "steps_to_farthest" (top 13) f fd) : Binds K fd ["rows", "u"] [] := F.binds fun _ _ _ _ _ _ => us2 fun _ _ => rfl
theorem b_most_steps {f : Addr} {fd : FuncData} (F : Fun K "most_steps" "most_steps" (top 14) f fd) : Binds K fd ["rows"] [] := F.binds fun _ _ _ _ _ _ => us1 fun _ => rfl
theorem b_some_have_two {f : Addr} {fd : FuncData} (F : Fun K "some_have_two" "some_have_two" (top 15) f fd) : Binds K fd ["rows", "points", "others"] [] := F.binds fun _ _ _ _ _ _ => us3 fun _ _ _ => rfl
theorem b_ring_around {f : Addr} {fd : FuncData} (F : Fun K "ring_around" "ring_around" (top 16) f fd) : Binds K fd ["rows", "u"] [] := F.binds fun _ _ _ _ _ _ => us2 fun _ _ => rfl
theorem b_shortest_ring {f : Addr} {fd : FuncData} (F : Fun K "shortest_ring" "shortest_ring" (top 17) f fd) : Binds K fd ["rows"] [] := F.binds fun _ _ _ _ _ _ => us1 fun _ => rfl
theorem b_is_size {f : Addr} {fd : FuncData} (F : Fun K "is_size" "is_size" (top 20) f fd) : Binds K fd ["n"] [] := F.binds fun _ _ _ _ _ _ => us1 fun _ => rfl
theorem b_rows_agree {f : Addr} {fd : FuncData} (F : Fun K "rows_agree" "rows_agree" (top 21) f fd) : Binds K fd ["rows"] [] := F.binds fun _ _ _ _ _ _ => us1 fun _ => rfl
theorem b_are_rows {f : Addr} {fd : FuncData} (F : Fun K "are_rows" "are_rows" (top 22) f fd) : Binds K fd ["rows"] [] := F.binds fun _ _ _ _ _ _ => us1 fun _ => rfl
theorem b_are_in_range {f : Addr} {fd : FuncData} (F : Fun K "are_in_range" "are_in_range" (top 26) f fd) : Binds K fd ["n", "k", "l", "m"] [] := F.binds fun _ _ _ _ _ _ => us4 fun _ _ _ _ => rfl
theorem b_whole_root {f : Addr} {fd : FuncData} (F : Fun K "whole_root" "whole_root" (top 27) f fd) : Binds K fd ["number"] [] := F.binds fun _ _ _ _ _ _ => us1 fun _ => rfl
theorem b_comes_out_even {f : Addr} {fd : FuncData} (F : Fun K "comes_out_even" "comes_out_even" (top 28) f fd) : Binds K fd ["n", "k", "l", "m"] [] := F.binds fun _ _ _ _ _ _ => us4 fun _ _ _ _ => rfl
theorem b_passes {f : Addr} {fd : FuncData} (F : Fun K "passes" "passes" (top 29) f fd) : Binds K fd ["n", "k", "l", "m"] [] := F.binds fun _ _ _ _ _ _ => us4 fun _ _ _ _ => rfl
theorem b_handed_from {f : Addr} {fd : FuncData} (F : Fun K "handed_from" "handed_from" (top 45) f fd) : Binds K fd ["calls", "at"] [] := F.binds fun _ _ _ _ _ _ => us2 fun _ _ => rfl
theorem b_how_many_handed {f : Addr} {fd : FuncData} (F : Fun K "how_many_handed" "how_many_handed" (top 46) f fd) : Binds K fd ["calls", "at"] [] := F.binds fun _ _ _ _ _ _ => us2 fun _ _ => rfl
theorem b_answer {f : Addr} {fd : FuncData} (F : Fun K "answer" "answer" (top 47) f fd) : Binds K fd ["graph", "number", "handed"] [] := F.binds fun _ _ _ _ _ _ => us3 fun _ _ _ => rfl
theorem bm_has_points {f : Addr} {fd : FuncData} (F : Fun K "has_points" "Graph.has_points" (meth 14) f fd) : Binds K fd ["self", "u", "v"] [] := F.binds fun _ _ _ _ _ _ => us3 fun _ _ _ => rfl
theorem bm_all_points {f : Addr} {fd : FuncData} (F : Fun K "all_points" "Graph.all_points" (meth 15) f fd) : Binds K fd ["self"] [] := F.binds fun _ _ _ _ _ _ => us1 fun _ => rfl
theorem bm_in_common {f : Addr} {fd : FuncData} (F : Fun K "in_common" "Graph.in_common" (meth 16) f fd) : Binds K fd ["self", "u", "v"] [] := F.binds fun _ _ _ _ _ _ => us3 fun _ _ _ => rfl
theorem bm_all_have {f : Addr} {fd : FuncData} (F : Fun K "all_have" "Graph.all_have" (meth 17) f fd) : Binds K fd ["self", "k"] [] := F.binds fun _ _ _ _ _ _ => us2 fun _ _ => rfl
theorem bm_always_common {f : Addr} {fd : FuncData} (F : Fun K "always_common" "Graph.always_common" (meth 18) f fd) : Binds K fd ["self", "on"] [] := F.binds fun _ _ _ _ _ _ => us2 fun _ _ => rfl
theorem bm_switched_row {f : Addr} {fd : FuncData} (F : Fun K "switched_row" "Graph.switched_row" (meth 19) f fd) : Binds K fd ["self", "u", "chosen"] [] := F.binds fun _ _ _ _ _ _ => us3 fun _ _ _ => rfl
theorem bm_odd_with {f : Addr} {fd : FuncData} (F : Fun K "odd_with" "Graph.odd_with" (meth 20) f fd) : Binds K fd ["self", "u", "v"] [] := F.binds fun _ _ _ _ _ _ => us3 fun _ _ _ => rfl
theorem bm_begin {f : Addr} {fd : FuncData} (F : Fun K "begin" "Graph.begin" (meth 1) f fd) : Binds K fd ["self"] [] := F.binds fun _ _ _ _ _ _ => us1 fun _ => rfl
theorem bm_size {f : Addr} {fd : FuncData} (F : Fun K "size" "Graph.size" (meth 2) f fd) : Binds K fd ["self", "n"] [] := F.binds fun _ _ _ _ _ _ => us2 fun _ _ => rfl
theorem bm_edge {f : Addr} {fd : FuncData} (F : Fun K "edge" "Graph.edge" (meth 3) f fd) : Binds K fd ["self", "u", "v", "on"] [] := F.binds fun _ _ _ _ _ _ => us4 fun _ _ _ _ => rfl
theorem bm_rows {f : Addr} {fd : FuncData} (F : Fun K "rows" "Graph.rows" (meth 4) f fd) : Binds K fd ["self", "rows"] [] := F.binds fun _ _ _ _ _ _ => us2 fun _ _ => rfl
theorem bm_row {f : Addr} {fd : FuncData} (F : Fun K "row" "Graph.row" (meth 5) f fd) : Binds K fd ["self", "u"] [] := F.binds fun _ _ _ _ _ _ => us2 fun _ _ => rfl
theorem bm_common {f : Addr} {fd : FuncData} (F : Fun K "common" "Graph.common" (meth 6) f fd) : Binds K fd ["self", "u", "v"] [] := F.binds fun _ _ _ _ _ _ => us3 fun _ _ _ => rfl
theorem bm_strong {f : Addr} {fd : FuncData} (F : Fun K "strong" "Graph.strong" (meth 7) f fd) : Binds K fd ["self"] [] := F.binds fun _ _ _ _ _ _ => us1 fun _ => rfl
theorem bm_far {f : Addr} {fd : FuncData} (F : Fun K "far" "Graph.far" (meth 8) f fd) : Binds K fd ["self", "u", "v"] [] := F.binds fun _ _ _ _ _ _ => us3 fun _ _ _ => rfl
theorem bm_wide {f : Addr} {fd : FuncData} (F : Fun K "wide" "Graph.wide" (meth 9) f fd) : Binds K fd ["self"] [] := F.binds fun _ _ _ _ _ _ => us1 fun _ => rfl
theorem bm_girth {f : Addr} {fd : FuncData} (F : Fun K "girth" "Graph.girth" (meth 10) f fd) : Binds K fd ["self"] [] := F.binds fun _ _ _ _ _ _ => us1 fun _ => rfl
theorem bm_switch {f : Addr} {fd : FuncData} (F : Fun K "switch" "Graph.switch" (meth 11) f fd) : Binds K fd ["self", "s"] [] := F.binds fun _ _ _ _ _ _ => us2 fun _ _ => rfl
theorem bm_turn {f : Addr} {fd : FuncData} (F : Fun K "turn" "Graph.turn" (meth 12) f fd) : Binds K fd ["self"] [] := F.binds fun _ _ _ _ _ _ => us1 fun _ => rfl
theorem bm_odds {f : Addr} {fd : FuncData} (F : Fun K "odds" "Graph.odds" (meth 13) f fd) : Binds K fd ["self"] [] := F.binds fun _ _ _ _ _ _ => us1 fun _ => rfl
theorem bm_init {f : Addr} {fd : FuncData} (F : Fun K "__init__" "Graph.__init__" (meth 0) f fd) : Binds K fd ["self"] [] := F.binds fun _ _ _ _ _ _ => us1 fun _ => rfl
theorem all_ok (X : Text K mg C) : Ok P w K mg base "handed_from" 1 ["calls", "at"] (spFrom K) ∧ Ok P w K mg base "how_many_handed" 1 ["calls", "at"] (spMany K) ∧ Ok P w K mg base "answer" 7 ["graph", "number", "handed"] (spAnswer K C) := by
  have bits : Ok P w K mg base "bits_set" 1 ["row"] spBits := toOk X.bits b_bits_set fun F => ok_bits F X.tab
  have bit : Ok P w K mg base "bit_of" 1 ["row", "v"] spBit := toOk X.bit b_bit_of fun F => ok_bit F
  have wth : Ok P w K mg base "with_bit" 1 ["row", "v", "on"] spWith := toOk X.wth b_with_bit fun F => ok_with F
  have first : Ok P w K mg base "first_bits" 1 ["n"] spFirst := toOk X.first b_first_bits fun F => ok_first F
  have pts : Ok P w K mg base "points_of" 1 ["row"] spPts := toOk X.pts b_points_of fun F => ok_pts F
  have next : Ok P w K mg base "next_to" 2 ["rows", "points"] (spNext K) := toOk X.next b_next_to fun F => ok_next F pts
  have layers : Ok P w K mg base "layers_from" 3 ["rows", "u"] (spLayers K) := toOk X.layers b_layers_from fun F => ok_layers F next
  have betw : Ok P w K mg base "steps_between" 4 ["rows", "u", "v"] (spBetw K) := toOk X.betw b_steps_between fun F => ok_betw F X.t.b layers bit
  have ecc : Ok P w K mg base "steps_to_farthest" 4 ["rows", "u"] (spEcc K) := toOk X.ecc b_steps_to_farthest fun F => ok_ecc F X.t.b layers first
  have most : Ok P w K mg base "most_steps" 5 ["rows"] (spMost K) := toOk X.most b_most_steps fun F => ok_most F X.t.b ecc
  have two : Ok P w K mg base "some_have_two" 2 ["rows", "points", "others"] (spTwo K) := toOk X.two b_some_have_two fun F => ok_two F pts
  have ring : Ok P w K mg base "ring_around" 3 ["rows", "u"] (spRing K) := toOk X.ring b_ring_around fun F => ok_ring F next two
  have girth : Ok P w K mg base "shortest_ring" 4 ["rows"] (spGirth K) := toOk X.girth b_shortest_ring fun F => ok_girth F X.t.b ring
  have isSize : Ok P w K mg base "is_size" 1 ["n"] spSize := toOk X.isSize b_is_size fun F => ok_isSize F X.t.most
  have agree : Ok P w K mg base "rows_agree" 2 ["rows"] (spAgree K) := toOk X.agree b_rows_agree fun F => ok_agree F X.t.b bit
  have are : Ok P w K mg base "are_rows" 3 ["rows"] (spAre K) := toOk X.are b_are_rows fun F => ok_are F X.t.b isSize agree
  have rng : Ok P w K mg base "are_in_range" 1 ["n", "k", "l", "m"] spRng := toOk X.rng b_are_in_range fun F => ok_rng F X.t.b X.mp
  have root : Ok P w K mg base "whole_root" 1 ["number"] spRoot := toOk X.root b_whole_root fun F => ok_root F
  have even : Ok P w K mg base "comes_out_even" 2 ["n", "k", "l", "m"] spEven := toOk X.even b_comes_out_even fun F => ok_even F root
  have pass : Ok P w K mg base "passes" 3 ["n", "k", "l", "m"] spPass := toOk X.pass b_passes fun F => ok_pass F X.t.ref rng even
  have from_ : Ok P w K mg base "handed_from" 1 ["calls", "at"] (spFrom K) := toOk X.from_ b_handed_from fun F => ok_from F X.d.rows
  have many : Ok P w K mg base "how_many_handed" 1 ["calls", "at"] (spMany K) := toOk X.many b_how_many_handed fun F => ok_many F X.d.rows X.hnd
  have has : OkM P w K mg base C "has_points" 1 ["self", "u", "v"] (spHas C) := toOkM X.has bm_has_points fun F => ok_has F X.t
  have allP : OkM P w K mg base C "all_points" 2 ["self"] (spAllP C) := toOkM X.allP bm_all_points fun F => ok_allP F X.t first
  have inC : OkM P w K mg base C "in_common" 2 ["self", "u", "v"] (spInC C) := toOkM X.inC bm_in_common fun F => ok_inC F X.t bits
  have hav : OkM P w K mg base C "all_have" 2 ["self", "k"] (spHave C) := toOkM X.hav bm_all_have fun F => ok_have F X.t bits
  have alw : OkM P w K mg base C "always_common" 3 ["self", "on"] (spAlw C) := toOkM X.alw bm_always_common fun F => ok_alw F X.t bit inC
  have swr : OkM P w K mg base C "switched_row" 3 ["self", "u", "chosen"] (spSwr C) := toOkM X.swr bm_switched_row fun F => ok_swr F X.t bit allP
  have odw : OkM P w K mg base C "odd_with" 3 ["self", "u", "v"] (spOdw C) := toOkM X.odw bm_odd_with fun F => ok_odw F X.t bit allP
  have mBegin : OkM P w K mg base C "begin" 1 ["self"] (spBegin C) := toOkM X.mBegin bm_begin fun F => ok_begin F X.t
  have mSize : OkM P w K mg base C "size" 2 ["self", "n"] (spSz C) := toOkM X.mSize bm_size fun F => ok_sz F X.t isSize
  have mEdge : OkM P w K mg base C "edge" 2 ["self", "u", "v", "on"] (spEdge C) := toOkM X.mEdge bm_edge fun F => ok_edge F X.t has wth
  have mRows : OkM P w K mg base C "rows" 4 ["self", "rows"] (spRows K C) := toOkM X.mRows bm_rows fun F => ok_rows F X.t are
  have mRow : OkM P w K mg base C "row" 2 ["self", "u"] (spRow C) := toOkM X.mRow bm_row fun F => ok_row F X.t has bits
  have mCommon : OkM P w K mg base C "common" 3 ["self", "u", "v"] (spCommon C) := toOkM X.mCommon bm_common fun F => ok_common F X.t has inC
  have mStrong : OkM P w K mg base C "strong" 4 ["self"] (spStrong C) := toOkM X.mStrong bm_strong fun F => ok_strong F X.t bits hav alw
  have mFar : OkM P w K mg base C "far" 5 ["self", "u", "v"] (spFar C) := toOkM X.mFar bm_far fun F => ok_far F X.t has betw
  have mWide : OkM P w K mg base C "wide" 6 ["self"] (spWide C) := toOkM X.mWide bm_wide fun F => ok_wide F X.t most
  have mGirth : OkM P w K mg base C "girth" 5 ["self"] (spGir C) := toOkM X.mGirth bm_girth fun F => ok_gir F X.t girth
  have mSwitch : OkM P w K mg base C "switch" 4 ["self", "s"] (spSwitch C) := toOkM X.mSwitch bm_switch fun F => ok_switch F X.t allP swr
  have mTurn : OkM P w K mg base C "turn" 3 ["self"] (spTurn C) := toOkM X.mTurn bm_turn fun F => ok_turn F X.t allP wth
  have mOdds : OkM P w K mg base C "odds" 4 ["self"] (spOdds C) := toOkM X.mOdds bm_odds fun F => ok_odds F X.t bits odw first
  have O : Calls P w K mg base C := ⟨mBegin, mSize, mEdge, mRows, mRow, mCommon, mStrong, pass, mFar, mWide, mGirth, mSwitch, mTurn, mOdds⟩
  exact ⟨from_, many, toOk X.ans b_answer fun F => ok_answer F X.t X.d O⟩
end
theorem all_mk {P : Program} {w : World} {K : PySem.W.Frag} {h : Heap} {mg : Str → Option Value} {fa C : Addr} (KX : K.In h) (G : h.Ns mainGlobals mg) (hfa : mg "answers" = some (.ref fa))
    (aC : PySem.W.nsIn K mainGlobals "Graph" = some (some (.ref C)))
    (pg : PySem.W.plainGet K C Str.empty = true) (hd : PySem.W.hasDictIn K C = true) (po : PySem.W.plainOver K C = true) (sa : PySem.W.findIn K (.ref C) "__setattr__" = some (some (.builtin "object.__setattr__"))) (mk : PySem.W.makesIn K C = true) (kc : PySem.W.keepIn K (.ref C) = true)
    (nN : PySem.W.findIn K (.ref C) "neighbours" = some none)
    (z_len : PySem.W.nsIn K mainGlobals "len" = some none)
    (z_range : PySem.W.nsIn K mainGlobals "range" = some none)
    (z_sum : PySem.W.nsIn K mainGlobals "sum" = some none)
    (z_max : PySem.W.nsIn K mainGlobals "max" = some none)
    (z_min : PySem.W.nsIn K mainGlobals "min" = some none)
    (z_list : PySem.W.nsIn K mainGlobals "list" = some none)
    (n_most : Num mg "MOST_POINTS" 64)
    (n_ref : Num mg "REFUSED" (-1))
    (n_nots : Num mg "NOT_SO" (-2))
    (mp : Num mg "MOST_PASSED" 10000) (tb : Tab K mg) (hn : Hnd K mg)
    (d_0 : Num mg "BEGIN" 0)
    (d_1 : Num mg "SIZE" 1)
    (d_2 : Num mg "EDGE" 2)
    (d_3 : Num mg "ROWS" 3)
    (d_4 : Num mg "ROW" 4)
    (d_5 : Num mg "COMMON" 5)
    (d_6 : Num mg "STRONG" 6)
    (d_7 : Num mg "PASS" 7)
    (d_8 : Num mg "FAR" 8)
    (d_9 : Num mg "WIDE" 9)
    (d_10 : Num mg "GIRTH" 10)
    (d_11 : Num mg "SWITCH" 11)
    (d_12 : Num mg "TURN" 12)
    (f_2 : FnAt K mg "bits_set" (top 2))
    (f_3 : FnAt K mg "bit_of" (top 3))
    (f_4 : FnAt K mg "with_bit" (top 4))
    (f_5 : FnAt K mg "first_bits" (top 5))
    (f_6 : FnAt K mg "points_of" (top 6))
    (f_10 : FnAt K mg "next_to" (top 10))
    (f_11 : FnAt K mg "layers_from" (top 11))
    (f_12 : FnAt K mg "steps_between" (top 12))
    (f_13 : FnAt K mg "steps_to_farthest" (top 13))
    (f_14 : FnAt K mg "most_steps" (top 14))
    (f_15 : FnAt K mg "some_have_two" (top 15))
    (f_16 : FnAt K mg "ring_around" (top 16))
    (f_17 : FnAt K mg "shortest_ring" (top 17))
    (f_20 : FnAt K mg "is_size" (top 20))
    (f_21 : FnAt K mg "rows_agree" (top 21))
    (f_22 : FnAt K mg "are_rows" (top 22))
    (f_26 : FnAt K mg "are_in_range" (top 26))
    (f_27 : FnAt K mg "whole_root" (top 27))
    (f_28 : FnAt K mg "comes_out_even" (top 28))
    (f_29 : FnAt K mg "passes" (top 29))
    (f_45 : FnAt K mg "handed_from" (top 45))
    (f_46 : FnAt K mg "how_many_handed" (top 46))
    (f_47 : FnAt K mg "answer" (top 47)) (f_48 : FnAt K mg "answers" (top 48)) (m_0 : MtAt K C "__init__" "Graph.__init__" (meth 0))
    (m_14 : MtAt K C "has_points" "Graph.has_points" (meth 14))
    (m_15 : MtAt K C "all_points" "Graph.all_points" (meth 15))
    (m_16 : MtAt K C "in_common" "Graph.in_common" (meth 16))
    (m_17 : MtAt K C "all_have" "Graph.all_have" (meth 17))
    (m_18 : MtAt K C "always_common" "Graph.always_common" (meth 18))
    (m_19 : MtAt K C "switched_row" "Graph.switched_row" (meth 19))
    (m_20 : MtAt K C "odd_with" "Graph.odd_with" (meth 20))
    (m_1 : MtAt K C "begin" "Graph.begin" (meth 1))
    (m_2 : MtAt K C "size" "Graph.size" (meth 2))
    (m_3 : MtAt K C "edge" "Graph.edge" (meth 3))
    (m_4 : MtAt K C "rows" "Graph.rows" (meth 4))
    (m_5 : MtAt K C "row" "Graph.row" (meth 5))
    (m_6 : MtAt K C "common" "Graph.common" (meth 6))
    (m_7 : MtAt K C "strong" "Graph.strong" (meth 7))
    (m_8 : MtAt K C "far" "Graph.far" (meth 8))
    (m_9 : MtAt K C "wide" "Graph.wide" (meth 9))
    (m_10 : MtAt K C "girth" "Graph.girth" (meth 10))
    (m_11 : MtAt K C "switch" "Graph.switch" (meth 11))
    (m_12 : MtAt K C "turn" "Graph.turn" (meth 12))
    (m_13 : MtAt K C "odds" "Graph.odds" (meth 13))
    : ∃ fd : FuncData, (∀ (s : Shared) (us : List Value), us.length = (["calls"] : List Str).length → BindsTo s fd ⟨us, []⟩ ((["calls"] : List Str).zip us)) ∧ ∀ base : Heap, K.In base → base.Ns mainGlobals mg → FnOk P w K mg base CX0 8 fa fd ["calls"] (spAns K) := by
  have X : Text K mg C := { t := { b := ⟨PySem.W.mg_none_of KX G z_len, PySem.W.mg_none_of KX G z_range, PySem.W.mg_none_of KX G z_sum, PySem.W.mg_none_of KX G z_max, PySem.W.mg_none_of KX G z_min, PySem.W.mg_none_of KX G z_list⟩, cl := ⟨pg, hd, po, sa⟩, nN := nN, most := n_most, ref := n_ref, nots := n_nots }, d := ⟨d_0, d_1, d_2, d_3, d_4, d_5, d_6, d_7, d_8, d_9, d_10, d_11, d_12⟩, mp := mp, tab := tb, hnd := hn, bits := f_2, bit := f_3, wth := f_4, first := f_5, pts := f_6, next := f_10, layers := f_11, betw := f_12, ecc := f_13, most := f_14, two := f_15, ring := f_16, girth := f_17, isSize := f_20, agree := f_21, are := f_22, rng := f_26, root := f_27, even := f_28, pass := f_29, from_ := f_45, many := f_46, ans := f_47, init := m_0, has := m_14, allP := m_15, inC := m_16, hav := m_17, alw := m_18, swr := m_19, odw := m_20, mBegin := m_1, mSize := m_2, mEdge := m_3, mRows := m_4, mRow := m_5, mCommon := m_6, mStrong := m_7, mFar := m_8, mWide := m_9, mGirth := m_10, mSwitch := m_11, mTurn := m_12, mOdds := m_13, makes := mk, kc := kc, mgC := PySem.W.mg_of KX G aC }
  obtain ⟨f, fd, h1, h2, F⟩ := f_48.ex
  have e := hfa.symm.trans h1
  cases e
  obtain ⟨fI, fdI, MI, FI⟩ := m_0.ex
  have M : Mk K C fI := ⟨mk, MI.at_, MI.fn, kc⟩
  refine ⟨fd, ?_, fun base _ _ => ?_⟩
  · obtain ⟨oc, od, kV, doc, pm, an, cdv, ct, osl, rfl, lk, hcd⟩ := F.ex
    exact fun s => us1 fun _ => .of_eq rfl
  · obtain ⟨o1, o2, o3⟩ := all_ok (P := P) (w := w) (base := base) X
    exact ok_answers F X.t M X.mgC FI (bm_init FI) o1 o2 o3
end Fg
end
set_option Elab.async false
open PySem PySem.W PyProof.Rows
set_option maxRecDepth 100000 in
set_option maxHeartbeats 0 in
theorem PySem.Challenge.cw_friendgraph_s01_answers_holds : PySem.Challenge.rw_friendgraph_s01_answers.Holds := by
  w_on; k_headS; (case hw => exact ⟨[.list []], by decide +kernel, by decide +kernel⟩)
  k_fillS
  refine L2.walk_specK (r := PySem.Challenge.rw_friendgraph_s01_answers) (k := 8) (CX := L2.CX0) (ps := ["calls"]) (sp := Fg.spAns) (by decide +kernel) rfl rfl ⟨rfl, by decide, by decide⟩ (fun w h Y => PySem.W.kIn_of Y) ?F ?S (fun _ _ _ _ z => z)
  case F =>
    intro w mg fa h Y KX G hmg
    refine' Fg.all_mk KX G hmg ?aC ?pg ?hd ?po ?sa ?mk ?kc ?nN ?z_len ?z_range ?z_sum ?z_max ?z_min ?z_list ?n_most ?n_ref ?n_nots ?mp ?tb ?hn ?d_0 ?d_1 ?d_2 ?d_3 ?d_4 ?d_5 ?d_6 ?d_7 ?d_8 ?d_9 ?d_10 ?d_11 ?d_12 ?f_2 ?f_3 ?f_4 ?f_5 ?f_6 ?f_10 ?f_11 ?f_12 ?f_13 ?f_14 ?f_15 ?f_16 ?f_17 ?f_20 ?f_21 ?f_22 ?f_26 ?f_27 ?f_28 ?f_29 ?f_45 ?f_46 ?f_47 ?f_48 ?m_0 ?m_14 ?m_15 ?m_16 ?m_17 ?m_18 ?m_19 ?m_20 ?m_1 ?m_2 ?m_3 ?m_4 ?m_5 ?m_6 ?m_7 ?m_8 ?m_9 ?m_10 ?m_11 ?m_12 ?m_13
    (case aC => k_is); (case pg => k_is); (case hd => k_is); (case po => k_is); (case sa => k_is); (case mk => k_is); (case kc => k_is); (case nN => k_is); (case z_len => k_is); (case z_range => k_is); (case z_sum => k_is); (case z_max => k_is); (case z_min => k_is); (case z_list => k_is)
    (case n_most => refine' Fg.numAt KX G ?a; (case a => k_is))
    (case n_ref => refine' Fg.numAt KX G ?a; (case a => k_is))
    (case n_nots => refine' Fg.numAt KX G ?a; (case a => k_is))
    (case mp => refine' Fg.numAt KX G ?a; (case a => k_is))
    (case d_0 => refine' Fg.numAt KX G ?a; (case a => k_is))
    (case d_1 => refine' Fg.numAt KX G ?a; (case a => k_is))
    (case d_2 => refine' Fg.numAt KX G ?a; (case a => k_is))
    (case d_3 => refine' Fg.numAt KX G ?a; (case a => k_is))
    (case d_4 => refine' Fg.numAt KX G ?a; (case a => k_is))
    (case d_5 => refine' Fg.numAt KX G ?a; (case a => k_is))
    (case d_6 => refine' Fg.numAt KX G ?a; (case a => k_is))
    (case d_7 => refine' Fg.numAt KX G ?a; (case a => k_is))
    (case d_8 => refine' Fg.numAt KX G ?a; (case a => k_is))
    (case d_9 => refine' Fg.numAt KX G ?a; (case a => k_is))
    (case d_10 => refine' Fg.numAt KX G ?a; (case a => k_is))
    (case d_11 => refine' Fg.numAt KX G ?a; (case a => k_is))
    (case d_12 => refine' Fg.numAt KX G ?a; (case a => k_is))
    (case tb => refine' Fg.tabAt KX G ?a ?l ?c; (case a => k_is); (case l => k_is); (case c => decide +kernel))
    (case hn => refine' Fg.hndAt KX G ?a ?l ?c; (case a => k_is); (case l => k_is); (case c => decide +kernel))
    (case f_2 => refine' Fg.fnAt KX G ?a ?l ?c ?k; (case a => k_is); (case l => k_is); (case c => k_is); (case k => k_is))
    (case f_3 => refine' Fg.fnAt KX G ?a ?l ?c ?k; (case a => k_is); (case l => k_is); (case c => k_is); (case k => k_is))
    (case f_4 => refine' Fg.fnAt KX G ?a ?l ?c ?k; (case a => k_is); (case l => k_is); (case c => k_is); (case k => k_is))
    (case f_5 => refine' Fg.fnAt KX G ?a ?l ?c ?k; (case a => k_is); (case l => k_is); (case c => k_is); (case k => k_is))
    (case f_6 => refine' Fg.fnAt KX G ?a ?l ?c ?k; (case a => k_is); (case l => k_is); (case c => k_is); (case k => k_is))
    (case f_10 => refine' Fg.fnAt KX G ?a ?l ?c ?k; (case a => k_is); (case l => k_is); (case c => k_is); (case k => k_is))
    (case f_11 => refine' Fg.fnAt KX G ?a ?l ?c ?k; (case a => k_is); (case l => k_is); (case c => k_is); (case k => k_is))
    (case f_12 => refine' Fg.fnAt KX G ?a ?l ?c ?k; (case a => k_is); (case l => k_is); (case c => k_is); (case k => k_is))
    (case f_13 => refine' Fg.fnAt KX G ?a ?l ?c ?k; (case a => k_is); (case l => k_is); (case c => k_is); (case k => k_is))
    (case f_14 => refine' Fg.fnAt KX G ?a ?l ?c ?k; (case a => k_is); (case l => k_is); (case c => k_is); (case k => k_is))
    (case f_15 => refine' Fg.fnAt KX G ?a ?l ?c ?k; (case a => k_is); (case l => k_is); (case c => k_is); (case k => k_is))
    (case f_16 => refine' Fg.fnAt KX G ?a ?l ?c ?k; (case a => k_is); (case l => k_is); (case c => k_is); (case k => k_is))
    (case f_17 => refine' Fg.fnAt KX G ?a ?l ?c ?k; (case a => k_is); (case l => k_is); (case c => k_is); (case k => k_is))
    (case f_20 => refine' Fg.fnAt KX G ?a ?l ?c ?k; (case a => k_is); (case l => k_is); (case c => k_is); (case k => k_is))
    (case f_21 => refine' Fg.fnAt KX G ?a ?l ?c ?k; (case a => k_is); (case l => k_is); (case c => k_is); (case k => k_is))
    (case f_22 => refine' Fg.fnAt KX G ?a ?l ?c ?k; (case a => k_is); (case l => k_is); (case c => k_is); (case k => k_is))
    (case f_26 => refine' Fg.fnAt KX G ?a ?l ?c ?k; (case a => k_is); (case l => k_is); (case c => k_is); (case k => k_is))
    (case f_27 => refine' Fg.fnAt KX G ?a ?l ?c ?k; (case a => k_is); (case l => k_is); (case c => k_is); (case k => k_is))
    (case f_28 => refine' Fg.fnAt KX G ?a ?l ?c ?k; (case a => k_is); (case l => k_is); (case c => k_is); (case k => k_is))
    (case f_29 => refine' Fg.fnAt KX G ?a ?l ?c ?k; (case a => k_is); (case l => k_is); (case c => k_is); (case k => k_is))
    (case f_45 => refine' Fg.fnAt KX G ?a ?l ?c ?k; (case a => k_is); (case l => k_is); (case c => k_is); (case k => k_is))
    (case f_46 => refine' Fg.fnAt KX G ?a ?l ?c ?k; (case a => k_is); (case l => k_is); (case c => k_is); (case k => k_is))
    (case f_47 => refine' Fg.fnAt KX G ?a ?l ?c ?k; (case a => k_is); (case l => k_is); (case c => k_is); (case k => k_is))
    (case f_48 => refine' Fg.fnAt KX G ?a ?l ?c ?k; (case a => k_is); (case l => k_is); (case c => k_is); (case k => k_is))
    (case m_0 => refine' Fg.mtAt ?a ?i ?l ?c ?k; (case a => k_is); (case i => k_is); (case l => k_is); (case c => k_is); (case k => k_is))
    (case m_14 => refine' Fg.mtAt ?a ?i ?l ?c ?k; (case a => k_is); (case i => k_is); (case l => k_is); (case c => k_is); (case k => k_is))
    (case m_15 => refine' Fg.mtAt ?a ?i ?l ?c ?k; (case a => k_is); (case i => k_is); (case l => k_is); (case c => k_is); (case k => k_is))
    (case m_16 => refine' Fg.mtAt ?a ?i ?l ?c ?k; (case a => k_is); (case i => k_is); (case l => k_is); (case c => k_is); (case k => k_is))
    (case m_17 => refine' Fg.mtAt ?a ?i ?l ?c ?k; (case a => k_is); (case i => k_is); (case l => k_is); (case c => k_is); (case k => k_is))
    (case m_18 => refine' Fg.mtAt ?a ?i ?l ?c ?k; (case a => k_is); (case i => k_is); (case l => k_is); (case c => k_is); (case k => k_is))
    (case m_19 => refine' Fg.mtAt ?a ?i ?l ?c ?k; (case a => k_is); (case i => k_is); (case l => k_is); (case c => k_is); (case k => k_is))
    (case m_20 => refine' Fg.mtAt ?a ?i ?l ?c ?k; (case a => k_is); (case i => k_is); (case l => k_is); (case c => k_is); (case k => k_is))
    (case m_1 => refine' Fg.mtAt ?a ?i ?l ?c ?k; (case a => k_is); (case i => k_is); (case l => k_is); (case c => k_is); (case k => k_is))
    (case m_2 => refine' Fg.mtAt ?a ?i ?l ?c ?k; (case a => k_is); (case i => k_is); (case l => k_is); (case c => k_is); (case k => k_is))
    (case m_3 => refine' Fg.mtAt ?a ?i ?l ?c ?k; (case a => k_is); (case i => k_is); (case l => k_is); (case c => k_is); (case k => k_is))
    (case m_4 => refine' Fg.mtAt ?a ?i ?l ?c ?k; (case a => k_is); (case i => k_is); (case l => k_is); (case c => k_is); (case k => k_is))
    (case m_5 => refine' Fg.mtAt ?a ?i ?l ?c ?k; (case a => k_is); (case i => k_is); (case l => k_is); (case c => k_is); (case k => k_is))
    (case m_6 => refine' Fg.mtAt ?a ?i ?l ?c ?k; (case a => k_is); (case i => k_is); (case l => k_is); (case c => k_is); (case k => k_is))
    (case m_7 => refine' Fg.mtAt ?a ?i ?l ?c ?k; (case a => k_is); (case i => k_is); (case l => k_is); (case c => k_is); (case k => k_is))
    (case m_8 => refine' Fg.mtAt ?a ?i ?l ?c ?k; (case a => k_is); (case i => k_is); (case l => k_is); (case c => k_is); (case k => k_is))
    (case m_9 => refine' Fg.mtAt ?a ?i ?l ?c ?k; (case a => k_is); (case i => k_is); (case l => k_is); (case c => k_is); (case k => k_is))
    (case m_10 => refine' Fg.mtAt ?a ?i ?l ?c ?k; (case a => k_is); (case i => k_is); (case l => k_is); (case c => k_is); (case k => k_is))
    (case m_11 => refine' Fg.mtAt ?a ?i ?l ?c ?k; (case a => k_is); (case i => k_is); (case l => k_is); (case c => k_is); (case k => k_is))
    (case m_12 => refine' Fg.mtAt ?a ?i ?l ?c ?k; (case a => k_is); (case i => k_is); (case l => k_is); (case c => k_is); (case k => k_is))
    (case m_13 => refine' Fg.mtAt ?a ?i ?l ?c ?k; (case a => k_is); (case i => k_is); (case l => k_is); (case c => k_is); (case k => k_is))
  case S =>
    intro K H xs a hO hwi hask hx
    cases hx with
    | cons h1 h2 =>
      cases h2
      cases h1 with
      | lst hs ha =>
        have e := L2.ints_dw a.1 _ ha
        subst e
        have q : ((Codec.inLen 0 16000 a.1 && a.1.all (Codec.inInt (-2147483648) 18446744073709551615)) && true) = true := hwi
        rw [Bool.and_eq_true, Bool.and_eq_true] at q
        exact ⟨_, a.1, rfl, hs, (Codec.inNat_iff.mp q.1.1).2, hask, fun H' p hp => .lst (L2.SqL.of hp) (L2.dw_ints _)⟩
#print axioms PySem.Challenge.cw_friendgraph_s01_answers_holds
