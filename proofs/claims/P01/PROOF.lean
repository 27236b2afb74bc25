import PyProof.Rows.All
import Wide.All
import OpenK.AllK
import Wide.FinOn
import PyProof.EqAt
import PyProof.EqKinds
import PyProof.TupleCall
import KE.BitLaws
import Open.SpecLaws
import KE.OsHead
import KE.OsGo
import PyProof.Rows.RuleM_int
import PyKqm5
import PySem.Challenge.RW_beatall_s01_answers
section
set_option Elab.async false
set_option linter.all false
set_option maxRecDepth 100000
/-! THE HAND LAYER, for ints, bools, texts, own classes, lists, tuples, dicts, comprehensions, walks over dicts, enumerate, zip, reversed, texts, calls, loops. Paste it whole ahead of your own text; what your proof does not reach may be deleted. -/
namespace L2
open PySem PySem.Spec PyProof.Rows

/-- a key: an int or a str -/
abbrev Key := Sum Int Str
def keyIs : Key → Value → Bool
  | .inl k, v => Value.isInt k v
  | .inr x, v => Value.isStrOf x v
def keyH (w : World) : Key → Int
  | .inl k => hashInt k
  | .inr x => hashStr w x
theorem keyIs_shape : ∀ {k : Key} {v : Value}, keyIs k v = true → (∃ i t, k = Sum.inl i ∧ v = Value.int i t) ∨ (∃ x t, k = Sum.inr x ∧ v = Value.str x t)
  | .inl i, v, h => by
    obtain ⟨t, e⟩ := Value.isInt_shape (k := i) (v := v) h
    exact .inl ⟨i, t, rfl, e⟩
  | .inr x, v, h => by
    obtain ⟨t, e⟩ := Value.isStrOf_shape (x := x) (v := v) h
    exact .inr ⟨x, t, rfl, e⟩
theorem key_ll (a b : Int) : decide ((Sum.inl a : Key) = Sum.inl b) = (a == b) := by
  by_cases e : a = b
  · subst e; simp
  · have h : ¬ (Sum.inl a : Key) = Sum.inl b := fun q => e (Sum.inl.inj q)
    rw [decide_eq_false h]
    exact (beq_eq_false_iff_ne.mpr e).symm
theorem key_rr (a b : Str) : decide ((Sum.inr a : Key) = Sum.inr b) = decide (a = b) := by
  by_cases e : a = b
  · subst e; simp
  · have h : ¬ (Sum.inr a : Key) = Sum.inr b := fun q => e (Sum.inr.inj q)
    rw [decide_eq_false h, decide_eq_false e]
theorem key_lr (a : Int) (b : Str) : decide ((Sum.inl a : Key) = Sum.inr b) = false := decide_eq_false (fun q => nomatch q)
theorem key_rl (a : Str) (b : Int) : decide ((Sum.inr a : Key) = Sum.inl b) = false := decide_eq_false (fun q => nomatch q)

def mixKind (prog : Program) (w : World) : PySem.KeyKind prog w Key where
  is := keyIs
  hash := keyH w
  inj := fun v a b ha hb => by
    rcases keyIs_shape ha with ⟨i, t, rfl, rfl⟩ | ⟨x, t, rfl, rfl⟩
    · rcases keyIs_shape hb with ⟨j, u, rfl, e⟩ | ⟨y, u, rfl, e⟩
      · injection e with e1 _; rw [e1]
      · exact nomatch e
    · rcases keyIs_shape hb with ⟨j, u, rfl, e⟩ | ⟨y, u, rfl, e⟩
      · exact nomatch e
      · injection e with e1 _; rw [e1]
  byValue := fun k v h => by
    rcases keyIs_shape h with ⟨i, t, rfl, rfl⟩ | ⟨x, t, rfl, rfl⟩ <;> rfl
  pyHash := fun hv h => by
    rcases keyIs_shape hv with ⟨i, t, rfl, rfl⟩ | ⟨x, t, rfl, rfl⟩
    · exact wpAny_pyHash_int h
    · exact wpAny_pyHash_str h
  eqBool := fun hu hv h => by
    rcases keyIs_shape hu with ⟨i, t, rfl, rfl⟩ | ⟨x, t, rfl, rfl⟩
    · rcases keyIs_shape hv with ⟨j, u, rfl, rfl⟩ | ⟨y, u, rfl, rfl⟩
      · rw [key_ll] at h; exact wpAny_eqBool_int h
      · rw [key_lr] at h; exact SeqAt.EqAt.int_str i t y u _ _ _ _ h
    · rcases keyIs_shape hv with ⟨j, u, rfl, rfl⟩ | ⟨y, u, rfl, rfl⟩
      · rw [key_rl] at h; exact SeqAt.EqAt.str_int x t j u _ _ _ _ h
      · rw [key_rr] at h; exact wpAny_eqBool_str h
  «strs» := fun k x t v h => by
    rcases keyIs_shape h with ⟨i, u, rfl, e⟩ | ⟨y, u, rfl, e⟩
    · exact nomatch e
    · injection e with e1 _
      subst e1
      cases v <;> rfl

end L2

namespace L2
open PySem PySem.Spec PyProof.Rows

/-- a value, without the heap -/
inductive V where
  | non | bl (b : Bool) | int (i : Int) | str (x : Str) | byt (b : Array UInt8) | flt (b : UInt64) | ref (a : Addr) | ty (n : String)
  deriving DecidableEq

def RelV : V → Value → Prop
  | .non, u => u = Value.none
  | .bl b, u => u = Value.bool b
  | .int i, u => ∃ t, u = Value.int i t
  | .str x, u => ∃ t, u = Value.str x t
  | .byt b, u => ∃ t, u = Value.bytes b t
  | .flt b, u => ∃ t, u = Value.float b t
  | .ref a, u => u = Value.ref a
  | .ty n, u => u = Value.type n

abbrev Vals : List V → List Value → Prop := Paired RelV
theorem Vals.length {xs : List V} {us : List Value} (r : Vals xs us) : xs.length = us.length := Paired.length r
theorem Vals.get : ∀ {xs : List V} {us : List Value} {i : Nat} {x : V}, Vals xs us → xs[i]? = some x → ∃ u, us[i]? = some u ∧ RelV x u
  | _, _, _, _, .nil, e => by simp at e
  | _, _, 0, _, .cons r _, e => by simp at e; subst e; exact ⟨_, rfl, r⟩
  | _, _, i + 1, x, .cons _ t, e => by
    obtain ⟨u, h1, h2⟩ := Vals.get (i := i) (x := x) t (by simpa using e)
    exact ⟨u, by simpa using h1, h2⟩
theorem Vals.append : ∀ {xs ys : List V} {us ws : List Value}, Vals xs us → Vals ys ws → Vals (xs ++ ys) (us ++ ws)
  | _, _, _, _, .nil, s => s
  | _, _, _, _, .cons r t, s => .cons r (Vals.append t s)
theorem Vals.take : ∀ {xs : List V} {us : List Value} (n : Nat), Vals xs us → Vals (xs.take n) (us.take n)
  | _, _, 0, _ => .nil
  | _, _, _ + 1, .nil => .nil
  | _, _, n + 1, .cons r t => .cons r (Vals.take n t)
theorem Vals.drop : ∀ {xs : List V} {us : List Value} (n : Nat), Vals xs us → Vals (xs.drop n) (us.drop n)
  | _, _, 0, r => r
  | _, _, _ + 1, .nil => .nil
  | _, _, n + 1, .cons _ t => Vals.drop n t

def RelO : Option V → Option Value → Prop
  | some v, some u => RelV v u
  | none, none => True
  | _, _ => False
def KV {κ : Type} : List (κ × V) → List (κ × Value) → Prop := Paired fun (p : κ × V) (q : κ × Value) => p.1 = q.1 ∧ RelV p.2 q.2

/-- a key of a dict (00_mix): an int or a text -/
def kV : Key → V
  | .inl i => .int i
  | .inr x => .str x

/-- what stands at a tracked address -/
inductive HO where
  /-- a list -/
  | lst (xs : List V)
  /-- a tuple (never changes) -/
  | tup (xs : List V)
  /-- a dict whose keys are ints and texts; one whose keys are tuples of ints and texts (the empty one is both) -/
  | dK (kvs : List (Key × V)) | dT (kvs : List (List Key × V))
  /-- a set of ints: its members, its size -/
  | set (S : Int → Bool) (n : Nat)
  /-- an instance of the class at C, its dict at dx, its attributes -/
  | ins (C dx : Addr) (fs : List (Str × V))
  /-- the dict of the instance at x -/
  | own (x : Addr)
  /-- the dict of an exception -/
  | xd (fs : List (Str × V))
  /-- a bound method, f of x -/
  | met (f x : Addr)
  /-- a range object lo, lo + 1, .. below hi -/
  | rng (lo hi : Int)
  /-- a thing that is known to the object (the script; a dict while a loop walks it): read, never written while it is so -/
  | frz (o : Obj) (u : HO)
  /-- a code object's table -/
  | tbl (ps : Array Value)
  /-- any other thing, by what is true of its one object (a def of one's own: SetO a S n := HO.ext fun h => ..) -/
  | ext (φ : Heap → Prop)

abbrev Hp := Addr → Option HO
def upd (H : Hp) (a : Addr) (o : HO) : Hp := fun b => if b = a then some o else H b
theorem upd_same {H : Hp} {a : Addr} {o : HO} : upd H a o a = some o := by unfold upd; rw [if_pos rfl]
theorem upd_ne {H : Hp} {a b : Addr} {o : HO} (h : b ≠ a) : upd H a o b = H b := by unfold upd; rw [if_neg h]
theorem ne_of_none {H : Hp} {a b : Addr} {o : HO} (h : H a = some o) (h' : H b = none) : a ≠ b := by
  intro e; subst e; rw [h] at h'; cases h'

section
variable (P : Program) (w : World)
def ObjOk (H : Hp) (h : Heap) (a : Addr) : HO → Prop
  | .lst xs => xs.length ≤ sizeLine ∧ ∃ (its : List Value) (n : Nat), Vals xs its ∧ h.get? a = some { cls := .type "list", data := .seq its.toArray n }
  | .tup xs => xs.length ≤ sizeLine ∧ ∃ its : List Value, Vals xs its ∧ IsTup h a its.toArray
  | .dK kvs => kvs.length ≤ sizeLine ∧ (a == sysModules) = false ∧ ∃ vs, KV kvs vs ∧ h.DictOf (mixKind P w) a vs
  | .dT kvs => kvs.length ≤ sizeLine ∧ (a == sysModules) = false ∧ ∃ xs : List (List Key × Addr × Value),
      Paired (fun (p : List Key × V) (q : List Key × Addr × Value) => p.1 = q.1 ∧ H q.2.1 = some (.tup (p.1.map kV)) ∧ RelV p.2 q.2.2) kvs xs ∧
      ∃ o es ep, h.get? a = some o ∧ o.ExactDict ∧ o.data = .dict es ep ∧ es.toList = xs.map (entryOfKey (tupleKind (mixKind P w))) ∧ (xs.map (·.1)).Nodup
  | .set S n => h.SetOf (intKind P w) a S n
  | .ins C dx fs => H dx = some (.own a) ∧ fs.length ≤ 1000 ∧ dx ≠ a ∧ h.get? a = some (PySem.W.instObj C dx) ∧
      ∃ mA, h.Ns1 dx mA ∧ (∀ f, RelO (fs.lookup f) (mA f)) ∧ PySem.Within mA (fs.map (·.1))
  | .own _ => ∃ o, h.get? a = some o
  | .xd fs => ∃ mA, h.Ns1 a mA ∧ ∀ f, RelO (fs.lookup f) (mA f)
  | .rng lo hi => ∃ t u v, h.get? a = some { cls := .type "range", data := .fields #[.int lo t, .int hi u, .int 1 v] }
  | .frz o u => h.get? a = some o ∧ ObjOk H h a u
  | .tbl ps => h.get? a = some { cls := .none, data := .fields ps }
  | .met f x => h.get? a = some (PySem.W.methodObj (.ref f) (.ref x))
  | .ext φ => φ h ∧ (∃ o, h.get? a = some o) ∧ ∀ h1 h2 : Heap, φ h1 → (∀ o, h1.get? a = some o → h2.get? a = some o) → φ h2
/-- the abstract heap is held -/
def HOk (H : Hp) (h : Heap) : Prop := ∀ a o, H a = some o → ObjOk P w H h a o
end

section
variable {P : Program} {w : World} {H H' : Hp} {h h' : Heap} {a : Addr} {o : HO}
theorem ObjOk.lt (x : ObjOk P w H h a o) : a < h.objs.size := by
  cases o with
  | lst xs => obtain ⟨_, _, _, _, e⟩ := x; exact Heap.lt_size e
  | tup xs => obtain ⟨_, _, _, p⟩ := x; exact p.lt
  | dK kvs => obtain ⟨_, _, _, _, o, _, _, e, _⟩ := x; exact Heap.lt_size e
  | dT kvs => obtain ⟨_, _, _, _, o, _, _, e, _⟩ := x; exact Heap.lt_size e
  | set S n => obtain ⟨o, _, _, _, e, _⟩ := x; exact Heap.lt_size e
  | ins C dx fs => obtain ⟨_, _, _, e, _⟩ := x; exact Heap.lt_size e
  | own y => obtain ⟨_, e⟩ := x; exact Heap.lt_size e
  | xd fs => obtain ⟨_, ⟨_, _, _, e, _⟩, _⟩ := x; exact Heap.lt_size e
  | rng lo hi => obtain ⟨_, _, _, e⟩ := x; exact Heap.lt_size e
  | frz ob u => obtain ⟨e, _⟩ := x; exact Heap.lt_size e
  | tbl ps => exact Heap.lt_size (show h.get? a = some _ from x)
  | met f y => exact Heap.lt_size (show h.get? a = some _ from x)
  | ext φ => obtain ⟨_, ⟨_, e⟩, _⟩ := x; exact Heap.lt_size e
theorem Paired.mapP {α β : Type} {F G : α → β → Prop} : ∀ {l₁ : List α} {l₂ : List β}, Paired F l₁ l₂ → (∀ a b, F a b → G a b) → Paired G l₁ l₂
  | _, _, .nil, _ => .nil
  | _, _, .cons r t, f => .cons (f _ _ r) (Paired.mapP t f)
/-- what an object's description leans on: its own object, its own dict, the tuples -/
theorem ObjOk.stay (x : ObjOk P w H h a o) (k : ∀ b u, (b = a ∨ H b = some (.own a)) → h.get? b = some u → h'.get? b = some u)
    (ho : ∀ b, H b = some (.own a) → H' b = some (.own a)) (ht : ∀ b xs, H b = some (.tup xs) → H' b = some (.tup xs)) : ObjOk P w H' h' a o := by
  induction o with
  | lst xs => obtain ⟨z, its, n, r, e⟩ := x; exact ⟨z, its, n, r, k _ _ (.inl rfl) e⟩
  | tup xs => obtain ⟨z, its, r, ob, e, c⟩ := x; exact ⟨z, its, r, ob, k _ _ (.inl rfl) e, c⟩
  | dK kvs => obtain ⟨z, y, vs, r, ob, es, ep, e, c⟩ := x; exact ⟨z, y, vs, r, ob, es, ep, k _ _ (.inl rfl) e, c⟩
  | dT kvs =>
    obtain ⟨z, y, xs, r, ob, es, ep, e, c⟩ := x
    exact ⟨z, y, xs, Paired.mapP r fun p q z => ⟨z.1, ht _ _ z.2.1, z.2.2⟩, ob, es, ep, k _ _ (.inl rfl) e, c⟩
  | set S n => obtain ⟨ob, es, ep, t, e, c⟩ := x; exact ⟨ob, es, ep, t, k _ _ (.inl rfl) e, c⟩
  | ins C dx fs =>
    obtain ⟨d, z, ne, e, mA, ⟨od, es, ep, e2, c⟩, r⟩ := x
    exact ⟨ho _ d, z, ne, k _ _ (.inl rfl) e, mA, ⟨od, es, ep, k _ _ (.inr d) e2, c⟩, r⟩
  | own y => obtain ⟨ob, e⟩ := x; exact ⟨ob, k _ _ (.inl rfl) e⟩
  | xd fs => obtain ⟨mA, ⟨od, es, ep, e, c⟩, r⟩ := x; exact ⟨mA, ⟨od, es, ep, k _ _ (.inl rfl) e, c⟩, r⟩
  | rng lo hi => obtain ⟨t, u, v, e⟩ := x; exact ⟨t, u, v, k _ _ (.inl rfl) e⟩
  | frz ob u ih => obtain ⟨e, q⟩ := x; exact ⟨k _ _ (.inl rfl) e, ih q⟩
  | tbl ps =>
    have e : h.get? a = some { cls := .none, data := .fields ps } := x
    show h'.get? a = some { cls := .none, data := .fields ps }
    exact k a _ (.inl rfl) e
  | met f y =>
    have e : h.get? a = some (PySem.W.methodObj (.ref f) (.ref y)) := x
    show h'.get? a = some (PySem.W.methodObj (.ref f) (.ref y))
    exact k a _ (.inl rfl) e
  | ext φ => obtain ⟨p, ⟨o, e⟩, st⟩ := x; exact ⟨st _ _ p fun o q => k _ _ (.inl rfl) q, ⟨o, k _ _ (.inl rfl) e⟩, st⟩
theorem HOk.lt (x : HOk P w H h) (e : H a = some o) : a < h.objs.size := (x a o e).lt
theorem HOk.fresh (x : HOk P w H h) (e : h.objs.size ≤ a) : H a = none := by
  cases q : H a with
  | none => rfl
  | some u => exact absurd (Nat.lt_of_lt_of_le (x.lt q) e) (Nat.lt_irrefl _)
/-- every object of the heap is kept -/
theorem HOk.kept (x : HOk P w H h) (k : ∀ b u, h.get? b = some u → h'.get? b = some u) : HOk P w H h' := fun a o e =>
  (x a o e).stay (fun b u _ q => k b u q) (fun _ q => q) fun _ _ q => q
/-- a new object is laid and tracked -/
theorem HOk.laid (x : HOk P w H h) (k : ∀ b u, h.get? b = some u → h'.get? b = some u) (hp : h.objs.size ≤ a) (new : ObjOk P w (upd H a o) h' a o) : HOk P w (upd H a o) h' := fun b u e => by
  have hn := x.fresh hp
  by_cases hb : b = a
  · subst hb; rw [upd_same] at e; cases e; exact new
  · rw [upd_ne hb] at e
    exact (x b u e).stay (fun c v _ q => k c v q) (fun c q => by rw [upd_ne (ne_of_none q hn)]; exact q) fun c xs q => by rw [upd_ne (ne_of_none q hn)]; exact q
end

/-- what may be read as u: it is u, or a known u -/
def Rd (H : Hp) (a : Addr) (u : HO) : Prop := H a = some u ∨ ∃ o, H a = some (.frz o u)
theorem Rd.ok {P : Program} {w : World} {H : Hp} {h : Heap} {a : Addr} {u : HO} (r : Rd H a u) (x : HOk P w H h) : ObjOk P w H h a u := by
  rcases r with r | ⟨o, r⟩
  · exact x a u r
  · obtain ⟨_, q⟩ := x a _ r
    exact q
/-- what may be written -/
def Mut : Option HO → Prop
  | some (.lst _) => True
  | some (.dK _) => True
  | some (.dT _) => True
  | some (.set _ _) => True
  | some (.ins _ _ _) => True
  | some (.ext _) => True
  | _ => False
section
variable {P : Program} {w : World} {H : Hp} {h h' : Heap} {x e : Addr} {o' : HO}
/-- the object at e is changed: x itself, or the dict of the instance x -/
theorem HOk.write (ok : HOk P w H h) (mu : Mut (H x)) (he : e = x ∨ H e = some (.own x)) (k : ∀ b u, b ≠ e → h.get? b = some u → h'.get? b = some u) (heo : ∃ u, h'.get? e = some u)
    (new : ObjOk P w (upd H x o') h' x o') : HOk P w (upd H x o') h' := fun b u q => by
  have nown : ∀ c y, H c = some (.own y) → c ≠ x := fun c y r z => by subst z; rw [r] at mu; exact mu
  have ntup : ∀ c xs, H c = some (.tup xs) → c ≠ x := fun c xs r z => by subst z; rw [r] at mu; exact mu
  by_cases hb : b = x
  · subst hb; rw [upd_same] at q; cases q; exact new
  · rw [upd_ne hb] at q
    by_cases hbe : b = e
    · have q' : H b = some (.own x) := by
        rcases he with z | z
        · exact absurd (hbe.trans z) hb
        · rw [hbe]; exact z
      rw [q] at q'; cases q'
      obtain ⟨v, hv⟩ := heo
      exact ⟨v, by rw [hbe]; exact hv⟩
    · refine (ok b u q).stay (fun c v hc r => k c v ?_ r) (fun c r => by rw [upd_ne (nown c b r)]; exact r) fun c xs r => by rw [upd_ne (ntup c xs r)]; exact r
      rcases hc with rfl | hc
      · exact hbe
      · rintro rfl
        rcases he with z | z
        · exact nown c b hc z
        · rw [hc] at z; cases z; exact hb rfl
end

/-! ### kept unless tracked; of the frames at fs (the callers') the slots may change (an exception that passes writes there); of the records at ex (iterators) nothing is said -/
structure Un (fs ex : List Addr) (H H' : Hp) (h h' : Heap) : Prop where
  keep : ∀ b o, h.get? b = some o → H b = none → b ∉ fs → b ∉ ex → h'.get? b = some o
  slot : ∀ b o, h.get? b = some o → H b = none → b ∈ fs → b ∉ ex → ∃ sl, h'.get? b = some { o with slots := sl }
  free : ∀ b o, h.get? b = some o → H b = none → b ∉ ex → H' b = none
  there : ∀ b o, h.get? b = some o → b ∉ ex → ∃ o', h'.get? b = some o'
  tups : ∀ b xs, H b = some (.tup xs) → H' b = some (.tup xs)
  frzs : ∀ b o u, H b = some (.frz o u) → H' b = some (.frz o u)
  tbls : ∀ b ps, H b = some (.tbl ps) → ∃ more, H' b = some (.tbl (ps ++ more))
section
variable {fs fs' ex ex' : List Addr} {H H1 H2 : Hp} {h h1 h2 h' : Heap} {a x e : Addr} {o : HO}
theorem Un.any (u : Un fs ex H H1 h h1) {b : Addr} {ob : Obj} (q : h.get? b = some ob) (n : H b = none) (hx : b ∉ ex) : ∃ sl, h1.get? b = some { ob with slots := sl } := by
  by_cases hb : b ∈ fs
  · exact u.slot b ob q n hb hx
  · exact ⟨ob.slots, u.keep b ob q n hb hx⟩
theorem Un.kept (k : ∀ b u, h.get? b = some u → h'.get? b = some u) : Un fs ex H H h h' :=
  ⟨fun b ob q _ _ _ => k b ob q, fun b ob q _ _ _ => ⟨ob.slots, k b ob q⟩, fun _ _ _ n _ => n, fun b ob q _ => ⟨ob, k b ob q⟩, fun _ _ q => q, fun _ _ _ q => q, fun _ ps q => ⟨#[], by rw [q]; simp⟩⟩
theorem Un.refl : Un fs ex H H h h := Un.kept fun _ _ q => q
theorem Un.laid (k : ∀ b u, h.get? b = some u → h'.get? b = some u) (hp : h.objs.size ≤ a) (hn : H a = none) : Un fs ex H (upd H a o) h h' where
  keep := fun b u q _ _ _ => k b u q
  slot := fun b u q _ _ _ => ⟨u.slots, k b u q⟩
  free := fun b u q n _ => by rw [upd_ne (Nat.ne_of_lt (Nat.lt_of_lt_of_le (Heap.lt_size q) hp))]; exact n
  there := fun b u q _ => ⟨u, k b u q⟩
  tups := fun b xs q => by rw [upd_ne (ne_of_none q hn)]; exact q
  frzs := fun b u xs q => by rw [upd_ne (ne_of_none q hn)]; exact q
  tbls := fun b ps q => ⟨#[], by rw [upd_ne (ne_of_none q hn), q]; simp⟩
theorem Un.write (mu : Mut (H x)) (he : e = x ∨ H e = some (.own x)) (k : ∀ b u, b ≠ e → h.get? b = some u → h'.get? b = some u) (heo : ∃ u, h'.get? e = some u) : Un fs ex H (upd H x o) h h' := by
  have hx : ∀ b, H b = none → b ≠ x := fun b n z => by subst z; rw [n] at mu; exact mu
  have hb : ∀ b, H b = none → b ≠ e := fun b n z => by
    subst z
    rcases he with r | r
    · exact hx b n r
    · rw [n] at r; cases r
  have hm : ∀ b u, H b = some u → ¬ Mut (some u) → b ≠ x := fun b u q nm z => by subst z; rw [q] at mu; exact nm mu
  refine ⟨fun b u q n _ _ => k b u (hb b n) q, fun b u q n _ _ => ⟨u.slots, k b u (hb b n) q⟩, fun b u q n _ => by rw [upd_ne (hx b n)]; exact n, fun b u q _ => ?_,
    fun b xs q => by rw [upd_ne (hm b _ q fun z => z)]; exact q, fun b u xs q => by rw [upd_ne (hm b _ q fun z => z)]; exact q, fun b ps q => ⟨#[], by rw [upd_ne (hm b _ q fun z => z), q]; simp⟩⟩
  by_cases hbe : b = e
  · subst hbe; exact heo
  · exact ⟨u, k b u hbe q⟩
end

/-! ### the heap without what is tracked -/
def trk (h : Heap) (H : Hp) : List Addr := (List.range h.objs.size).filter fun a => (H a).isSome
def hidT (h : Heap) (H : Hp) : Heap := PySem.W.hideAll h (trk h H)
theorem hidT_size (h : Heap) (H : Hp) : (hidT h H).objs.size = h.objs.size := PySem.W.hideAll_size _ _
theorem hidT_get {h : Heap} {H : Hp} {b : Addr} {o : Obj} (e : h.get? b = some o) (n : H b = none) : (hidT h H).get? b = some o :=
  PySem.W.hideAll_get _ e fun hm => by
    have q : (H b).isSome = true := (List.mem_filter.mp hm).2
    rw [n] at q; simp at q
theorem of_hidT {h : Heap} {H : Hp} {b : Addr} {o : Obj} (e : (hidT h H).get? b = some o) : h.get? b = some o ∧ H b = none := by
  have e' : h.get? b = some o := PySem.W.of_hideAll (trk h H) e
  refine ⟨e', ?_⟩
  cases q : H b with
  | none => rfl
  | some x =>
    have hm : b ∈ trk h H := List.mem_filter.mpr ⟨List.mem_range.mpr (Heap.lt_size e'), by simp [q]⟩
    have z : (hidT h H).get? b = none := PySem.W.hideAll_none (trk h H) hm
    rw [z] at e; cases e

/-! ### OpenK's ledger, filled with every new object but one -/
def allNews (g h : Heap) (L : Addr) : List (Addr × Obj) := (List.range h.objs.size).filterMap fun a => if a = L ∨ (g.get? a).isSome = true then none else (h.get? a).map fun o => (a, o)
def rest (g h : Heap) (L d : Addr) : List (Addr × Obj) := (allNews g h L).filter fun p => decide (p.1 ≠ d)
end L2

namespace L2
open PySem PySem.Spec PyProof.Rows

/-- the module's facts, over the base: the heap at the law's entry without what is tracked there -/
structure Mod (K : PySem.W.Frag) (mg : Str → Option Value) (base : Heap) : Prop where
  kin : K.In base
  glob : base.Ns mainGlobals mg
  blt : ∃ mb, base.Ns builtinsNs mb ∧ ∀ x : Str, x ≠ "__name__" → mb x = bootBuiltins x
  nolimit : base.NoLimit

/-- the context: a def's body (or a comprehension's block) running. base: fixed through the whole law; s₀, H₀: the entry; outer: the frames whose slots others may change (a def's callers); stack: all frames that run;
   ex: iterators that were made ahead of the entry and are walked here (a comprehension's); fn: the names whose cells were made at the entry (a def: all; a comprehension's block: its own); calm: not within an except suite; pn: pins that every state bears; xe: what is wanted of an exception that leaves the code -/
structure Cx where
  prog : Program
  w : World
  K : PySem.W.Frag
  mg : Str → Option Value
  base : Heap
  A : Around
  N : List Str
  s_0 : Shared
  H_0 : Hp
  env : Env
  outer : List Env
  stack : List Env
  ex : List Addr
  fn : Str → Bool
  calm : Bool
  pn : List (Addr × Obj)
  xe : Value → Shared → Prop
/-- the callers' frames -/
def frs (l : List Env) : List Addr := l.filterMap (·.frame)
abbrev Cx.fs (X : Cx) : List Addr := frs X.outer

def Vis (sc : Scope) (x : Str) : Prop := sc.names.lookup x = some .local ∨ sc.names.lookup x = some .cell ∨ sc.names.lookup x = some .free
def Loc (sc : Scope) (x : Str) : Prop := sc.names.lookup x = some .local ∨ sc.names.lookup x = some .cell
def Look (env : Env) (h : Heap) (m : Str → Option Value) (x : Str) (u : Value) : Prop :=
  (env.kindOf x = some .local ∧ m x = some u) ∨ ((env.kindOf x = some .cell ∨ env.kindOf x = some .free) ∧ ∃ c, env.cells.lookup x = some c ∧ h.IsCell c (some u))

structure Cx.Ok (X : Cx) : Prop where
  mod : Mod X.K X.mg X.base
  kind : X.env.scope.kind = .function
  glob : X.env.globals = mainGlobals
  blt : X.env.builtins = builtinsNs
  above : X.s_0.heap.objs.size ≤ X.env.locals
  inj : ∀ x y c, X.env.cells.lookup x = some c → X.env.cells.lookup y = some c → x = y
  has : ∀ x, (X.env.kindOf x = some .cell ∨ X.env.kindOf x = some .free) → ∃ c, X.env.cells.lookup x = some c
  cab : ∀ x c, X.fn x = true → X.env.cells.lookup x = some c → X.s_0.heap.objs.size ≤ c
  hd : X.calm = true → X.A.handled = none
  frames : X.A.frames = some X.stack
  stk : X.stack = X.outer ∨ (X.stack = X.env :: X.outer ∧ X.env.frame = some X.env.locals)
  exf : ∀ b ∈ X.ex, b ≠ X.env.locals ∧ ∀ x c, X.env.cells.lookup x = some c → c ≠ b
  bs : ∀ b o, X.base.get? b = some o → X.s_0.heap.get? b = some o ∧ X.H_0 b = none
  bsz : X.base.objs.size ≤ X.s_0.heap.objs.size
  noex : ∀ b o, X.base.get? b = some o → b ∉ X.ex
  exfs : ∀ b ∈ X.ex, b ∉ X.fs
  funs : X.s_0.heap.FunFrames X.base X.outer
  frf : ∀ b ∈ X.fs, X.H_0 b = none

structure Inv (X : Cx) (pins : List (Addr × Obj)) (σ : List (Option V)) (H : Hp) (s : Shared) : Prop where
  ok : X.Ok
  os : s.os = X.s_0.os
  bare : AllBare s.gens
  base : Un X.fs X.ex X.H_0 H X.s_0.heap s.heap
  loc : ∃ m, s.heap.Ns X.env.locals m ∧ ∀ (i : Nat) (x : Str) (v : V), X.N[i]? = some x → σ[i]? = some (some v) → Vis X.env.scope x → ∃ u, RelV v u ∧ Look X.env s.heap m x u
  cell : ∀ x c, X.env.cells.lookup x = some c → ∃ v, s.heap.IsCell c v
  free : H X.env.locals = none
  freeC : ∀ x c, X.env.cells.lookup x = some c → H c = none
  pin : ∀ p ∈ X.pn ++ pins, s.heap.get? p.1 = some p.2 ∧ H p.1 = none ∧ p.1 ≠ X.env.locals ∧ p.1 ∉ X.fs ∧ ∀ v, p.2.data ≠ .cell v
  hok : HOk X.prog X.w H s.heap
  len : σ.length = X.N.length

section
variable {X : Cx} {pins : List (Addr × Obj)} {σ : List (Option V)} {H H' : Hp} {s : Shared} {h' : Heap}

theorem Cx.Ok.nofr (ok : X.Ok) {b : Addr} {o : Obj} (e : X.base.get? b = some o) : b ∉ X.fs := fun hb => by
  have := (ok.funs.mem hb).1
  rw [e] at this; cases this
theorem Inv.bs (I : Inv X pins σ H s) : ∀ b o, X.base.get? b = some o → s.heap.get? b = some o ∧ H b = none := fun b o e =>
  ⟨I.base.keep b o (I.ok.bs b o e).1 (I.ok.bs b o e).2 (I.ok.nofr e) (I.ok.noex b o e), I.base.free b o (I.ok.bs b o e).1 (I.ok.bs b o e).2 (I.ok.noex b o e)⟩
theorem Inv.bk (I : Inv X pins σ H s) : ∀ b o, X.base.get? b = some o → s.heap.get? b = some o := fun b o e => (I.bs b o e).1
theorem Inv.mod (I : Inv X pins σ H s) : Mod X.K X.mg X.base := I.ok.mod
theorem Inv.kIn (I : Inv X pins σ H s) : X.K.In s.heap := I.ok.mod.kin.keeps I.bk
theorem Inv.lt (I : Inv X pins σ H s) : X.env.locals < s.heap.objs.size := let ⟨_, hn, _⟩ := I.loc; hn.lt
theorem Inv.sz (I : Inv X pins σ H s) : X.s_0.heap.objs.size ≤ s.heap.objs.size := Nat.le_trans I.ok.above (Nat.le_of_lt I.lt)
theorem Inv.nofs (I : Inv X pins σ H s) {a : Addr} (h : s.heap.objs.size ≤ a) : a ∉ X.fs := fun hb => by
  obtain ⟨_, o, ho, _⟩ := I.ok.funs.mem hb
  exact absurd (Nat.lt_of_lt_of_le (Heap.lt_size ho) (Nat.le_trans I.sz h)) (Nat.lt_irrefl _)
theorem Inv.cne (I : Inv X pins σ H s) : ∀ x c, X.env.cells.lookup x = some c → c ≠ X.env.locals := fun x c e z => by
  obtain ⟨v, o, ho, hd⟩ := I.cell x c e
  obtain ⟨m, ⟨o', es, ep, ho', hd', _⟩, _⟩ := I.loc
  rw [z, ho'] at ho; cases ho; rw [hd'] at hd; cases hd
theorem Inv.funs (I : Inv X pins σ H s) : s.heap.FunFrames X.base X.outer := by
  have all : ∀ (l : List Env), (∀ b ∈ frs l, b ∈ X.fs) → X.s_0.heap.FunFrames X.base l → s.heap.FunFrames X.base l := by
    intro l
    induction l with
    | nil => intro _ _; trivial
    | cons env r ih =>
      intro hs hl
      obtain ⟨hk, ⟨L, o, hf, hn, ho, hd⟩, hr⟩ := hl
      have hL : L ∈ X.fs := hs L (by unfold frs; rw [List.filterMap_cons, hf]; exact List.mem_cons_self)
      obtain ⟨sl, e⟩ := I.base.slot L o ho (I.ok.frf L hL) hL fun z => I.ok.exfs L z hL
      exact ⟨hk, ⟨L, _, hf, hn, e, hd⟩, ih (fun b hb => hs b (by unfold frs; rw [List.filterMap_cons, hf]; exact List.mem_cons_of_mem _ hb)) hr⟩
  exact all X.outer (fun _ hb => hb) I.ok.funs

/-- the frames that run, for a call -/
theorem Inv.stack (I : Inv X pins σ H s) : s.heap.FunFrames X.base X.stack := by
  rcases I.ok.stk with e | ⟨e, hf⟩
  · rw [e]; exact I.funs
  · rw [e]
    obtain ⟨m, hn, _⟩ := I.loc
    refine .cons (by rw [I.ok.kind]; decide) hf hn ?_ I.funs
    exact Heap.get?_none_of_le (Nat.le_trans I.ok.bsz I.ok.above)
theorem Inv.stkSub (I : Inv X pins σ H s) : ∀ b ∈ frs X.stack, b ∈ X.env.locals :: X.fs := fun b hb => by
  rcases I.ok.stk with e | ⟨e, hf⟩
  · rw [e] at hb; exact List.mem_cons_of_mem _ hb
  · rw [e] at hb
    unfold frs at hb
    rw [List.filterMap_cons, hf] at hb
    exact hb
theorem Inv.stkFree (I : Inv X pins σ H s) : ∀ b ∈ frs X.stack, H b = none := fun b hb => by
  rcases List.mem_cons.mp (I.stkSub b hb) with e | hb
  · rw [e]; exact I.free
  · obtain ⟨_, o, ho, _⟩ := I.ok.funs.mem hb
    exact I.base.free b o ho (I.ok.frf b hb) fun z => I.ok.exfs b z hb

/-- THE STEP: the untracked objects but the frame and the records at ch are kept (the callers' frames up to slots), the frame's map is kept, the new abstract heap is held -/
theorem Inv.step {g' : Array GenState} {t' : Nat} {d' : Drawn} {ch : List Addr} (I : Inv X pins σ H s)
    (hch : ∀ b ∈ ch, (b ∈ X.ex ∨ X.s_0.heap.objs.size ≤ b) ∧ b ≠ X.env.locals ∧ (∀ x c, X.env.cells.lookup x = some c → c ≠ b) ∧ ∀ p ∈ X.pn ++ pins, p.1 ≠ b)
    (keep : ∀ b o, b ≠ X.env.locals → b ∉ X.fs → b ∉ ch → s.heap.get? b = some o → H b = none → h'.get? b = some o)
    (slot : ∀ b o, b ≠ X.env.locals → b ∈ X.fs → b ∉ ch → s.heap.get? b = some o → H b = none → ∃ sl, h'.get? b = some { o with slots := sl }) (free : ∀ b o, b ∉ ch → s.heap.get? b = some o → H b = none → H' b = none)
    (there : ∀ b o, b ∉ ch → s.heap.get? b = some o → ∃ o', h'.get? b = some o')
    (tups : ∀ b xs, H b = some (.tup xs) → H' b = some (.tup xs)) (frzs : ∀ b o u, H b = some (.frz o u) → H' b = some (.frz o u)) (tbls : ∀ b ps, H b = some (.tbl ps) → ∃ more, H' b = some (.tbl (ps ++ more)))
    (ns : ∀ m, s.heap.Ns X.env.locals m → h'.Ns X.env.locals m) (hok : HOk X.prog X.w H' h') (hg : AllBare g') :
    Inv X pins σ H' { s with heap := h', gens := g', drawn := d', toks := t' } := by
  have neL : ∀ b o, X.s_0.heap.get? b = some o → b ≠ X.env.locals := fun b o e => Nat.ne_of_lt (Nat.lt_of_lt_of_le (Heap.lt_size e) I.ok.above)
  have neC : ∀ b o, X.s_0.heap.get? b = some o → b ∉ X.ex → b ∉ ch := fun b o e hx hb => by
    rcases (hch b hb).1 with z | z
    · exact hx z
    · exact absurd (Nat.lt_of_lt_of_le (Heap.lt_size e) z) (Nat.lt_irrefl _)
  have cellK : ∀ x c, X.env.cells.lookup x = some c → ∀ v, s.heap.IsCell c v → h'.IsCell c v := fun x c e v ⟨o, ho, hd⟩ => by
    have nch : c ∉ ch := fun z => (hch c z).2.2.1 x c e rfl
    by_cases hc : c ∈ X.fs
    · obtain ⟨sl, q⟩ := slot c o (I.cne x c e) hc nch ho (I.freeC x c e)
      exact ⟨_, q, hd⟩
    · exact ⟨o, keep c o (I.cne x c e) hc nch ho (I.freeC x c e), hd⟩
  refine ⟨I.ok, I.os, hg, ⟨fun b o e n hb hx => ?_, fun b o e n hb hx => ?_, fun b o e n hx => ?_, fun b o e hx => ?_, fun b xs e => tups b xs (I.base.tups b xs e), fun b o xs e => frzs b o xs (I.base.frzs b o xs e), fun b ps e => ?_⟩, ?_, fun x c e => ?_, ?_, fun x c e => ?_, fun p hp => ?_, hok, I.len⟩
  · exact keep b o (neL b o e) hb (neC b o e hx) (I.base.keep b o e n hb hx) (I.base.free b o e n hx)
  · obtain ⟨sl, e1⟩ := I.base.slot b o e n hb hx
    obtain ⟨sl', e2⟩ := slot b _ (neL b o e) hb (neC b o e hx) e1 (I.base.free b o e n hx)
    exact ⟨sl', e2⟩
  · obtain ⟨o', e1⟩ := I.base.there b o e hx
    exact free b o' (neC b o e hx) e1 (I.base.free b o e n hx)
  · obtain ⟨o', e1⟩ := I.base.there b o e hx
    exact there b o' (neC b o e hx) e1
  · obtain ⟨m1, e1⟩ := I.base.tbls b ps e
    obtain ⟨m2, e2⟩ := tbls b _ e1
    exact ⟨m1 ++ m2, by rw [e2, Array.append_assoc]⟩
  · obtain ⟨m, hn, hl⟩ := I.loc
    refine ⟨m, ns m hn, fun i x v e1 e2 e3 => ?_⟩
    obtain ⟨u, r, l⟩ := hl i x v e1 e2 e3
    refine ⟨u, r, ?_⟩
    rcases l with l | ⟨k, c, e, z⟩
    · exact .inl l
    · exact .inr ⟨k, c, e, cellK x c e _ z⟩
  · obtain ⟨v, z⟩ := I.cell x c e
    exact ⟨v, cellK x c e v z⟩
  · obtain ⟨m, ⟨o, _, _, ho, _⟩, _⟩ := I.loc
    exact free _ o (fun z => (hch _ z).2.1 rfl) ho I.free
  · obtain ⟨v, o, ho, hd⟩ := I.cell x c e
    exact free c o (fun z => (hch c z).2.2.1 x c e rfl) ho (I.freeC x c e)
  · obtain ⟨e, n, ne, nf, d⟩ := I.pin p hp
    have nch : p.1 ∉ ch := fun z => (hch p.1 z).2.2.2 p hp rfl
    exact ⟨keep p.1 p.2 ne nf nch e n, free p.1 p.2 nch e n, ne, nf, d⟩
/-- .. where the frame's own object is kept too -/
theorem Inv.un {t' : Nat} (I : Inv X pins σ H s) (u : Un X.fs [] H H' s.heap h') (hok : HOk X.prog X.w H' h') : Inv X pins σ H' { s with heap := h', toks := t' } := by
  obtain ⟨m, ⟨o, es, ep, ho, r⟩, _⟩ := id I.loc
  obtain ⟨sl, hL⟩ := u.any ho I.free (by simp)
  exact I.step (g' := s.gens) (d' := s.drawn) (ch := []) (fun _ z => nomatch z) (fun b o _ hb _ e n => u.keep b o e n hb (by simp)) (fun b o _ hb _ e n => u.slot b o e n hb (by simp)) (fun b o _ e n => u.free b o e n (by simp)) (fun b o _ e => u.there b o e (by simp)) u.tups u.frzs u.tbls (fun m' hm => by
    obtain ⟨o', es', ep', ho', r'⟩ := hm
    rw [ho] at ho'; cases ho'
    exact ⟨_, es', ep', hL, r'⟩) hok I.bare
/-- behind a call (or a comprehension's block): the slots of this frame may have changed too, the records at ch may have turned -/
theorem Inv.call {g' : Array GenState} {t' : Nat} {d' : Drawn} {ch : List Addr} (I : Inv X pins σ H s) (u : Un (frs X.stack) ch H H' s.heap h') (hok : HOk X.prog X.w H' h') (hg : AllBare g')
    (hch : ∀ b ∈ ch, (b ∈ X.ex ∨ X.s_0.heap.objs.size ≤ b) ∧ b ≠ X.env.locals ∧ (∀ x c, X.env.cells.lookup x = some c → c ≠ b) ∧ ∀ p ∈ X.pn ++ pins, p.1 ≠ b) :
    Inv X pins σ H' { s with heap := h', gens := g', drawn := d', toks := t' } := by
  obtain ⟨m, ⟨o, es, ep, ho, r⟩, _⟩ := id I.loc
  obtain ⟨sl, hL⟩ := u.any ho I.free fun z => (hch _ z).2.1 rfl
  exact I.step (ch := ch) hch (fun b o hL hb hc e n => u.keep b o e n (fun z => (List.mem_cons.mp (I.stkSub b z)).elim hL hb) hc) (fun b o _ _ hc e n => u.any e n hc) (fun b o hc e n => u.free b o e n hc) (fun b o hc e => u.there b o e hc) u.tups u.frzs u.tbls (fun m' hm => by
    obtain ⟨o', es', ep', ho', r'⟩ := hm
    rw [ho] at ho'; cases ho'
    exact ⟨_, es', ep', hL, r'⟩) hok hg
/-- an untracked record of ours (an iterator) has turned -/
theorem Inv.turned {t' : Nat} {it : Addr} (I : Inv X pins σ H s) (k : ∀ b o, b ≠ it → s.heap.get? b = some o → h'.get? b = some o) (hn : H it = none) (hL : it ≠ X.env.locals)
    (h1 : it ∈ X.ex ∨ X.s_0.heap.objs.size ≤ it) (h2 : ∀ x c, X.env.cells.lookup x = some c → c ≠ it) (h3 : ∀ p ∈ X.pn ++ pins, p.1 ≠ it) : Inv X pins σ H { s with heap := h', toks := t' } := by
  have nit : ∀ b u, H b = some u → b ≠ it := fun b u e z => by rw [z, hn] at e; cases e
  refine I.step (g' := s.gens) (d' := s.drawn) (ch := [it]) (fun b hb => ?_) (fun b o _ _ hc e _ => k b o (fun z => hc (by simp [z])) e) (fun b o _ _ hc e _ => ⟨o.slots, k b o (fun z => hc (by simp [z])) e⟩) (fun _ _ _ _ n => n)
    (fun b o hc e => ⟨o, k b o (fun z => hc (by simp [z])) e⟩) (fun _ _ e => e) (fun _ _ _ e => e) (fun b ps e => ⟨#[], by rw [e]; simp⟩) (fun m hm => ?_) (fun b u e => ?_) I.bare
  · have e : b = it := by simpa using hb
    subst e
    exact ⟨h1, hL, h2, h3⟩
  · obtain ⟨o, es, ep, ho, r⟩ := hm
    exact ⟨o, es, ep, k _ o (Ne.symm hL) ho, r⟩
  · refine (I.hok b u e).stay (fun c v hc q => k c v ?_ q) (fun _ q => q) fun _ _ q => q
    rcases hc with z | z
    · rw [z]; exact nit b u e
    · exact nit c _ z
theorem Inv.tok (I : Inv X pins σ H s) (t : Nat) : Inv X pins σ H { s with toks := t } := I.un (h' := s.heap) (t' := t) Un.refl I.hok
/-- all objects kept -/
theorem Inv.kept {t' : Nat} (I : Inv X pins σ H s) (k : ∀ b u, s.heap.get? b = some u → h'.get? b = some u) : Inv X pins σ H { s with heap := h', toks := t' } := I.un (Un.kept k) (I.hok.kept k)
/-- a new object laid and tracked -/
theorem Inv.laid {a : Addr} {o : HO} {t' : Nat} (I : Inv X pins σ H s) (k : ∀ b u, s.heap.get? b = some u → h'.get? b = some u) (hp : s.heap.objs.size ≤ a) (new : ObjOk X.prog X.w (upd H a o) h' a o) :
    Inv X pins σ (upd H a o) { s with heap := h', toks := t' } := I.un (Un.laid k hp (I.hok.fresh hp)) (I.hok.laid k hp new)
/-- an object written -/
theorem Inv.write {x e : Addr} {o : HO} {t' : Nat} (I : Inv X pins σ H s) (mu : Mut (H x)) (he : e = x ∨ H e = some (.own x)) (k : ∀ b u, b ≠ e → s.heap.get? b = some u → h'.get? b = some u) (heo : ∃ u, h'.get? e = some u)
    (new : ObjOk X.prog X.w (upd H x o) h' x o) : Inv X pins σ (upd H x o) { s with heap := h', toks := t' } := I.un (Un.write mu he k heo) (I.hok.write mu he k heo new)
/-- forgetting slots, pins -/
theorem Inv.weak {σ' : List (Option V)} (I : Inv X pins σ H s) (hl : σ'.length = σ.length) (w : ∀ (i : Nat) v, σ'[i]? = some (some v) → σ[i]? = some (some v)) : Inv X pins σ' H s :=
  ⟨I.ok, I.os, I.bare, I.base, let ⟨m, hn, hl'⟩ := I.loc; ⟨m, hn, fun i x v e1 e2 e3 => hl' i x v e1 (w i v e2) e3⟩, I.cell, I.free, I.freeC, I.pin, I.hok, hl.trans I.len⟩
theorem Inv.pins_of {pins' : List (Addr × Obj)} (I : Inv X pins σ H s) (h : ∀ p ∈ pins', s.heap.get? p.1 = some p.2 ∧ H p.1 = none ∧ p.1 ≠ X.env.locals ∧ p.1 ∉ X.fs ∧ ∀ v, p.2.data ≠ .cell v) : Inv X pins' σ H s :=
  ⟨I.ok, I.os, I.bare, I.base, I.loc, I.cell, I.free, I.freeC, fun p hp => (List.mem_append.mp hp).elim (fun z => I.pin p (List.mem_append_left _ z)) (h p), I.hok, I.len⟩

theorem nodup_ix {N : List Str} (hN : N.Nodup) {i j : Nat} {x : Str} (a : N[i]? = some x) (b : N[j]? = some x) : i = j := by
  obtain ⟨h1, e1⟩ := List.getElem?_eq_some_iff.mp a
  obtain ⟨h2, e2⟩ := List.getElem?_eq_some_iff.mp b
  exact (List.getElem_inj hN).mp (e1.trans e2.symm)

/-- a name is stored; what changed -/
theorem store_ok2 {M : Model} {A : Around} {E : Value → Shared → Prop} {i : Nat} {x : Str} {v : V} {u : Value} {Q : Unit → Shared → Prop} (I : Inv X pins σ H s) (hN : X.N.Nodup) (hi : X.N[i]? = some x) (hx : Loc X.env.scope x) (r : RelV v u)
    (h : ∀ s', Inv X pins (σ.set i (some v)) H s' → (∃ a, Heap.SameBut a s.heap s'.heap ∧ (a = X.env.locals ∨ X.env.cells.lookup x = some a)) → Q () s') (hf : X.fn x = true ∨ X.env.scope.names.lookup x = some .local := by first | exact .inl rfl | exact .inr rfl | assumption) : wpAny M A (storeName X.env x u) Q E s := by
  obtain ⟨m, hn, hl⟩ := id I.loc
  have hcls : (X.env.scope.kind == .class || (X.env.scope.kind == .module && X.env.locals != X.env.globals)) = false := by rw [I.ok.kind]; rfl
  have hiσ : i < σ.length := by rw [I.len]; exact (List.getElem?_eq_some_iff.mp hi).1
  have cne := I.cne
  have tracked : ∀ {a : Addr} {h' : Heap}, (∃ o, s.heap.get? a = some o ∧ H a = none) → Heap.SameBut a s.heap h' → HOk X.prog X.w H h' := fun {a h'} ha hs b ob e => by
    obtain ⟨_, _, hfree⟩ := ha
    refine (I.hok b ob e).stay (fun c w' hc q => (hs.2 c ?_).trans q) (fun _ q => q) fun _ _ q => q
    rintro rfl
    rcases hc with rfl | hc
    · rw [hfree] at e; cases e
    · rw [hfree] at hc; cases hc
  rcases hx with hk | hk
  · refine wpAny_storeName_local hk hn (fun h' hn' hs => ?_) hcls
    obtain ⟨oL, _, _, hoL, _⟩ := id hn
    refine h _ ⟨I.ok, I.os, I.bare, ⟨fun b o e n hb hx => ?_, fun b o e n hb hx => ?_, I.base.free, fun b o e hx => ?_, I.base.tups, I.base.frzs, I.base.tbls⟩, ⟨_, hn', fun j y v' e1 e2 e3 => ?_⟩, fun y c e => ?_, I.free, I.freeC, fun p hp => ?_, tracked ⟨oL, hoL, I.free⟩ hs, by simpa using I.len⟩ ⟨_, hs, .inl rfl⟩
    · exact (hs.2 b (Nat.ne_of_lt (Nat.lt_of_lt_of_le (Heap.lt_size e) I.ok.above))).trans (I.base.keep b o e n hb hx)
    · obtain ⟨sl, e1⟩ := I.base.slot b o e n hb hx
      exact ⟨sl, (hs.2 b (Nat.ne_of_lt (Nat.lt_of_lt_of_le (Heap.lt_size e) I.ok.above))).trans e1⟩
    · obtain ⟨o', e1⟩ := I.base.there b o e hx
      exact ⟨o', (hs.2 b (Nat.ne_of_lt (Nat.lt_of_lt_of_le (Heap.lt_size e) I.ok.above))).trans e1⟩
    · by_cases hj : j = i
      · subst hj
        rw [hi] at e1; cases e1
        rw [List.getElem?_set_self hiσ] at e2
        cases e2
        exact ⟨u, r, .inl ⟨hk, by simp⟩⟩
      · rw [List.getElem?_set_ne (Ne.symm hj)] at e2
        obtain ⟨u', r', q⟩ := hl j y v' e1 e2 e3
        refine ⟨u', r', ?_⟩
        rcases q with ⟨k, e⟩ | ⟨k, c, e, z⟩
        · refine .inl ⟨k, ?_⟩
          have : y ≠ x := fun e => hj (nodup_ix hN e1 (e ▸ hi))
          simp [this, e]
        · exact .inr ⟨k, c, e, z.sameBut hs (cne y c e)⟩
    · obtain ⟨w', z⟩ := I.cell y c e
      exact ⟨w', z.sameBut hs (cne y c e)⟩
    · obtain ⟨e, n, ne, nf, d⟩ := I.pin p hp
      exact ⟨(hs.2 p.1 ne).trans e, n, ne, nf, d⟩
  · have hfn : X.fn x = true := by
      rcases hf with z | z
      · exact z
      · rw [z] at hk; cases hk
    obtain ⟨c, hc⟩ := I.ok.has x (.inl hk)
    obtain ⟨w', z⟩ := I.cell x c hc
    refine wpAny_storeName_cell I.ok.kind hk hc z (fun h' hc' hs => ?_)
    obtain ⟨oc, hoc, hocd⟩ := id z
    refine h { s with heap := h' } ⟨I.ok, I.os, I.bare, ⟨fun b o e n hb hx => ?_, fun b o e n hb hx => ?_, I.base.free, fun b o e hx => ?_, I.base.tups, I.base.frzs, I.base.tbls⟩, ⟨m, hn.sameBut hs (Ne.symm (cne x c hc)), fun j y v' e1 e2 e3 => ?_⟩, fun y c' e => ?_, I.free, I.freeC, fun p hp => ?_, tracked ⟨oc, hoc, I.freeC x c hc⟩ hs, by simpa using I.len⟩ ⟨c, hs, .inr hc⟩
    · exact (hs.2 b (Nat.ne_of_lt (Nat.lt_of_lt_of_le (Heap.lt_size e) (I.ok.cab x c hfn hc)))).trans (I.base.keep b o e n hb hx)
    · obtain ⟨sl, e1⟩ := I.base.slot b o e n hb hx
      exact ⟨sl, (hs.2 b (Nat.ne_of_lt (Nat.lt_of_lt_of_le (Heap.lt_size e) (I.ok.cab x c hfn hc)))).trans e1⟩
    · obtain ⟨o', e1⟩ := I.base.there b o e hx
      exact ⟨o', (hs.2 b (Nat.ne_of_lt (Nat.lt_of_lt_of_le (Heap.lt_size e) (I.ok.cab x c hfn hc)))).trans e1⟩
    · by_cases hj : j = i
      · subst hj
        rw [hi] at e1; cases e1
        rw [List.getElem?_set_self hiσ] at e2
        cases e2
        exact ⟨u, r, .inr ⟨.inl hk, c, hc, hc'⟩⟩
      · rw [List.getElem?_set_ne (Ne.symm hj)] at e2
        obtain ⟨u', r', q⟩ := hl j y v' e1 e2 e3
        refine ⟨u', r', ?_⟩
        rcases q with q | ⟨k, c', e, z'⟩
        · exact .inl q
        · refine .inr ⟨k, c', e, z'.sameBut hs ?_⟩
          rintro rfl
          exact hj (nodup_ix hN e1 (I.ok.inj _ _ _ e hc ▸ hi))
    · by_cases hcc : c' = c
      · subst hcc; exact ⟨_, hc'⟩
      · obtain ⟨w2, z2⟩ := I.cell y c' e
        exact ⟨w2, z2.sameBut hs hcc⟩
    · obtain ⟨e, n, ne, nf, d⟩ := I.pin p hp
      refine ⟨(hs.2 p.1 ?_).trans e, n, ne, nf, d⟩
      intro q
      rw [q, hoc] at e
      have q' : oc = p.2 := Option.some.inj e
      exact d w' (by rw [← q']; exact hocd)
theorem store_ok {M : Model} {A : Around} {E : Value → Shared → Prop} {i : Nat} {x : Str} {v : V} {u : Value} {Q : Unit → Shared → Prop} (I : Inv X pins σ H s) (hN : X.N.Nodup) (hi : X.N[i]? = some x) (hx : Loc X.env.scope x) (r : RelV v u)
    (h : ∀ s', Inv X pins (σ.set i (some v)) H s' → Q () s') (hf : X.fn x = true ∨ X.env.scope.names.lookup x = some .local := by first | exact .inl rfl | exact .inr rfl | assumption) : wpAny M A (storeName X.env x u) Q E s :=
  store_ok2 I hN hi hx r (fun s' I' _ => h s' I') hf
/-- behind a call or a block, the state as it is -/
theorem Inv.call' {s' : Shared} {ch : List Addr} (I : Inv X pins σ H s) (ho : s'.os = s.os) (u : Un (frs X.stack) ch H H' s.heap s'.heap) (hok : HOk X.prog X.w H' s'.heap) (hg : AllBare s'.gens)
    (hch : ∀ b ∈ ch, (b ∈ X.ex ∨ X.s_0.heap.objs.size ≤ b) ∧ b ≠ X.env.locals ∧ (∀ x c, X.env.cells.lookup x = some c → c ≠ b) ∧ ∀ p ∈ X.pn ++ pins, p.1 ≠ b) : Inv X pins σ H' s' := by
  obtain ⟨h', g', d', t', o'⟩ := s'
  have e : o' = s.os := ho
  subst e
  exact I.call (g' := g') (t' := t') (d' := d') u hok hg hch
end

/-! ### the judgements -/
/-- an exception: its class, its own dict's address (where it has one), the abstract heap behind it -/
abbrev XK := Value → Option Addr → Hp → Prop
abbrev St := List (Option V)
abbrev VK := V → Hp → Prop
/-- an expression's reading; a test's; an argument list's -/
abbrev TE := St → Hp → VK → Prop
abbrev TT := St → Hp → (Bool → Hp → Prop) → Prop
abbrev TA := St → Hp → (List V → Hp → Prop) → Prop
/-- what is wanted behind a statement -/
structure Ends where
  nx : St → Hp → Prop
  rt : VK
  bk : St → Hp → Prop := fun _ _ => False
  ct : St → Hp → Prop := fun _ _ => False
abbrev TS := Ends → St → Hp → Prop

def EP (X : Cx) (pins : List (Addr × Obj)) (σ : St) (Q : VK) (u : Value) (s' : Shared) : Prop := ∃ v H', Inv X pins σ H' s' ∧ RelV v u ∧ Q v H'
def TP (X : Cx) (pins : List (Addr × Obj)) (σ : St) (Q : Bool → Hp → Prop) (b : Bool) (s' : Shared) : Prop := ∃ H', Inv X pins σ H' s' ∧ Q b H'
def AP (X : Cx) (pins : List (Addr × Obj)) (σ : St) (Q : List V → Hp → Prop) (us : List Value) (s' : Shared) : Prop := ∃ vs H', Inv X pins σ H' s' ∧ Vals vs us ∧ Q vs H'
def SP (X : Cx) (pins : List (Addr × Obj)) (D : Ends) (f : Flow) (s' : Shared) : Prop :=
  match f with
  | .next => ∃ σ' H', Inv X pins σ' H' s' ∧ D.nx σ' H'
  | .brk => ∃ σ' H', Inv X pins σ' H' s' ∧ D.bk σ' H'
  | .cont => ∃ σ' H', Inv X pins σ' H' s' ∧ D.ct σ' H'
  | .ret u => ∃ v σ' H', Inv X pins σ' H' s' ∧ RelV v u ∧ D.rt v H'

def PE (X : Cx) (e : Expr) (t : TE) : Prop :=
  ∀ (pins : List (Addr × Obj)) (s : Shared) (σ : St) (H : Hp) (Q : VK), Inv X pins σ H s → t σ H Q → wpAny (model X.prog X.w) X.A (eval e X.env) (EP X pins σ Q) X.xe s
def PT (X : Cx) (e : Expr) (t : TT) : Prop :=
  ∀ (pins : List (Addr × Obj)) (s : Shared) (σ : St) (H : Hp) (Q : Bool → Hp → Prop), Inv X pins σ H s → t σ H Q → wpAny (model X.prog X.w) X.A (isTrue e X.env (eval e X.env)) (TP X pins σ Q) X.xe s
/-- a test whatever its 'whole' is (and, or) -/
def PW (X : Cx) (e : Expr) (t : TT) : Prop :=
  ∀ (whole : Sem Value) (pins : List (Addr × Obj)) (s : Shared) (σ : St) (H : Hp) (Q : Bool → Hp → Prop), Inv X pins σ H s → t σ H Q → wpAny (model X.prog X.w) X.A (isTrue e X.env whole) (TP X pins σ Q) X.xe s
theorem PW.pt {X : Cx} {e : Expr} {t : TT} (h : PW X e t) : PT X e t := h _
/-- an argument list (no star), from the left -/
def PA (X : Cx) (es : List Expr) (t : TA) : Prop :=
  ∀ (pos : Pos) (pins : List (Addr × Obj)) (s : Shared) (σ : St) (H : Hp) (Q : List V → Hp → Prop), Inv X pins σ H s → t σ H Q → wpAny (model X.prog X.w) X.A (spliced (backTo pos (starEach es X.env))) (AP X pins σ Q) X.xe s
def PS (X : Cx) (st : Stmt) (t : TS) : Prop :=
  ∀ (pins : List (Addr × Obj)) (s : Shared) (σ : St) (H : Hp) (D : Ends), Inv X pins σ H s → t D σ H → wpAny (model X.prog X.w) X.A (exec st X.env) (SP X pins D) X.xe s
def PSs (X : Cx) (st : List Stmt) (t : TS) : Prop :=
  ∀ (pins : List (Addr × Obj)) (s : Shared) (σ : St) (H : Hp) (D : Ends), Inv X pins σ H s → t D σ H → wpAny (model X.prog X.w) X.A (execs st X.env) (SP X pins D) X.xe s
/-- weaken the end -/
theorem thn {α : Type} {t : Sem α} {Q Q' : α → Shared → Prop} {M : Model} {A : Around} {E : Value → Shared → Prop} {s : Shared} (h : wpAny M A t Q E s) (hQ : ∀ a s, Q a s → Q' a s) : wpAny M A t Q' E s := wpAny_mono h hQ fun _ _ x => x
end L2

namespace L2
open PySem PySem.Spec PyProof.Rows
section
variable {X : Cx}


/-! ### names and constants -/
def tVar (i : Nat) : TE := fun σ H Q => ∃ v, σ[i]? = some (some v) ∧ Q v H
def tC (v : V) : TE := fun _ H Q => Q v H
theorem pe_var {i : Nat} {x : Str} {pos : Pos} (hN : X.N[i]? = some x) (hv : Vis X.env.scope x) (hd : (x == ("__debug__" : Str)) = false := by decide) (hcd : (x == ("__classdict__" : Str)) = false := by decide) : PE X (.Name x pos) (tVar i) := by
  intro pins s σ H Q I h
  obtain ⟨v, e, h⟩ := h
  obtain ⟨m, hn, hl⟩ := I.loc
  obtain ⟨u, r, l⟩ := hl i x v hN e hv
  have fin : EP X pins σ Q u s := ⟨v, H, I, r, h⟩
  rcases l with ⟨hk, hm⟩ | ⟨hk, c, hc, hcell⟩
  · exact wpAny_Name (wpAny_loadName_local I.ok.kind hk hn hm fin) hd
  · rcases hk with hk | hk
    · exact wpAny_Name (wpAny_loadName_cell I.ok.kind hk hc hcell fin) hd
    · exact wpAny_Name (wpAny_loadName_free I.ok.kind hk hc hcell fin hcd) hd
theorem pe_int {i j pos} : PE X (.Constant (.int i) j pos) (tC (.int i)) := fun _ _ _ H _ I h => wpAny_Constant_int ⟨.int i, H, I.tok _, ⟨_, rfl⟩, h⟩
theorem pe_bl {b j pos} : PE X (.Constant (.bool b) j pos) (tC (.bl b)) := fun _ _ _ H _ I h => Constant_bool ⟨.bl b, H, I, rfl, h⟩

/-- a global name of the def -/
def Gl (X : Cx) (x : Str) : Prop := X.env.kindOf x = some .globalImplicit
theorem ld_glob {E : Value → Shared → Prop} {pins : List (Addr × Obj)} {s : Shared} {σ : St} {H : Hp} {x : Str} {u : Value} {pos : Pos} {Q : Value → Shared → Prop} (I : Inv X pins σ H s) (hg : Gl X x) (hm : X.mg x = some u) (h : Q u s)
    (hd : (x == ("__debug__" : Str)) = false := by decide) : wpAny (model X.prog X.w) X.A (eval (.Name x pos) X.env) Q E s :=
  Calls.Name_function_global I.ok.kind hg (Calls.loadGlobal_global (by rw [I.ok.glob]; exact I.mod.glob.keeps I.bk) hm h) hd
theorem ld_blt {E : Value → Shared → Prop} {pins : List (Addr × Obj)} {s : Shared} {σ : St} {H : Hp} {x : Str} {u : Value} {pos : Pos} {Q : Value → Shared → Prop} (I : Inv X pins σ H s) (hg : Gl X x) (hm : X.mg x = none) (hv : bootBuiltins x = some u) (h : Q u s)
    (hn : x ≠ "__name__" := by decide) (hd : (x == ("__debug__" : Str)) = false := by decide) : wpAny (model X.prog X.w) X.A (eval (.Name x pos) X.env) Q E s := by
  obtain ⟨mb, h1, h2⟩ := I.mod.blt
  exact Calls.Name_function_global I.ok.kind hg (Calls.loadGlobal_builtin (by rw [I.ok.glob]; exact I.mod.glob.keeps I.bk) hm (by rw [I.ok.blt]; exact h1.keeps I.bk) ((h2 x hn).trans hv) h) hd
/-- a module's constant, a class, a function, as a value -/
theorem pe_glob {x : Str} {v : V} {u : Value} {pos : Pos} (hg : Gl X x) (hm : X.mg x = some u) (r : RelV v u) (hd : (x == ("__debug__" : Str)) = false := by decide) : PE X (.Name x pos) (tC v) :=
  fun _ _ _ H _ I h => ld_glob I hg hm ⟨v, H, I, r, h⟩ hd

/-! ### arithmetic -/
/-- two ints -/
def t2I (ta tb : TE) (k : Int → Int → Hp → Prop) : St → Hp → Prop := fun σ H => ta σ H fun x H1 => tb σ H1 fun y H2 => ∃ i j, x = .int i ∧ y = .int j ∧ k i j H2
def tAdd (ta tb : TE) : TE := fun σ H Q => t2I ta tb (fun i j H2 => Q (.int (i + j)) H2) σ H
def tSub (ta tb : TE) : TE := fun σ H Q => t2I ta tb (fun i j H2 => Q (.int (i - j)) H2) σ H
/-- the left factor below 2^64 -/
def tMul (ta tb : TE) : TE := fun σ H Q => t2I ta tb (fun i j H2 => (-(2 ^ 64) < i ∧ i < 2 ^ 64) ∧ Q (.int (i * j)) H2) σ H
variable {a b : Expr} {ta tb : TE} {pos : Pos}

/-! ### comparisons -/
def PC (X : Cx) (op : CmpOp) (a b : Expr) (t : TE) : Prop :=
  ∀ (pins : List (Addr × Obj)) (s : Shared) (σ : St) (H : Hp) (Q : VK), Inv X pins σ H s → t σ H Q →
    wpAny (model X.prog X.w) X.A (eval a X.env) (fun v s₁ => wpAny (model X.prog X.w) X.A (eval b X.env) (fun u s₂ => wpAny (model X.prog X.w) X.A (compareOp op v u) (EP X pins σ Q) X.xe s₂) X.xe s₁) X.xe s
def tCmp (p : Int → Int → Bool) (ta tb : TE) : TE := fun σ H Q => t2I ta tb (fun i j H2 => Q (.bl (p i j)) H2) σ H
abbrev tLt : TE → TE → TE := tCmp fun i j => decide (i < j)
abbrev tLe : TE → TE → TE := tCmp fun i j => decide (i ≤ j)
abbrev tGt : TE → TE → TE := tCmp fun i j => decide (j < i)
abbrev tGe : TE → TE → TE := tCmp fun i j => decide (j ≤ i)
abbrev tEqI : TE → TE → TE := tCmp fun i j => decide (i = j)
abbrev tNeI : TE → TE → TE := tCmp fun i j => !decide (i = j)
/-- is None -/
def tIsN (ta : TE) : TE := fun σ H Q => ta σ H fun x H1 => Q (.bl (decide (x = .non))) H1
def tNotN (ta : TE) : TE := fun σ H Q => ta σ H fun x H1 => Q (.bl (!decide (x = .non))) H1
/-- a comparison as a value, as a test -/
def tB (t : TE) : TT := fun σ H Q => t σ H fun x H1 => ∃ c, x = .bl c ∧ Q c H1
/-- an expression whose value is a bool, as a test -/
theorem pt_val {e : Expr} {t : TE} (h : PE X e t) (he : ∀ whole, isTrue e X.env whole = (do let v ← whole; standAt e.pos; holding [v] (truthy v)) := by intro _; rfl) : PT X e (tB t) := by
  intro pins s σ H Q I hw
  refine isTrue_plain (thn (h pins s σ H _ I hw) fun v s1 ⟨x, H1, I1, r1, q1⟩ => ?_) (he _)
  obtain ⟨d, rfl, q⟩ := q1
  cases r1
  exact wpAny_truthy_bool ⟨H1, I1, q⟩

/-! ### and, or, not -/
variable {tA tB' : TT} {rest : List Expr}
def tAnd (t u : TT) : TT := fun σ H Q => t σ H fun c H1 => if c = true then u σ H1 Q else Q false H1
def tOr (t u : TT) : TT := fun σ H Q => t σ H fun c H1 => if c = true then Q true H1 else u σ H1 Q
def tNot (t : TT) : TT := fun σ H Q => t σ H fun c H1 => Q (!c) H1
theorem pw_and1 (ha : PT X a tA) : PW X (.BoolOp .And [a] pos) tA := by
  intro wh pins s σ H Q I h
  refine isTrue_and (thn (ha pins s σ H Q I h) fun c s1 e => ?_)
  cases c with
  | true => exact isTrue_and_nil e
  | false => exact e
theorem pw_or1 (ha : PT X a tA) : PW X (.BoolOp .Or [a] pos) tA := by
  intro wh pins s σ H Q I h
  refine isTrue_or (thn (ha pins s σ H Q I h) fun c s1 e => ?_)
  cases c with
  | false => exact isTrue_or_nil e
  | true => exact e
theorem pw_and (ha : PT X a tA) (hb : PW X (.BoolOp .And (b :: rest) pos) tB') : PW X (.BoolOp .And (a :: b :: rest) pos) (tAnd tA tB') := by
  intro wh pins s σ H Q I h
  refine isTrue_and (thn (ha pins s σ H _ I h) fun c s1 ⟨H1, I1, q1⟩ => ?_)
  cases c with
  | true => exact hb wh pins s1 σ H1 Q I1 q1
  | false => exact ⟨H1, I1, q1⟩
theorem pw_or (ha : PT X a tA) (hb : PW X (.BoolOp .Or (b :: rest) pos) tB') : PW X (.BoolOp .Or (a :: b :: rest) pos) (tOr tA tB') := by
  intro wh pins s σ H Q I h
  refine isTrue_or (thn (ha pins s σ H _ I h) fun c s1 ⟨H1, I1, q1⟩ => ?_)
  cases c with
  | true => exact ⟨H1, I1, q1⟩
  | false => exact hb wh pins s1 σ H1 Q I1 q1
/-- .. as values (bools) -/
def tAndV (ta tb : TE) : TE := fun σ H Q => ta σ H fun x H1 => ∃ c, x = .bl c ∧ if c = true then tb σ H1 Q else Q (.bl false) H1
def tOrV (ta tb : TE) : TE := fun σ H Q => ta σ H fun x H1 => ∃ c, x = .bl c ∧ if c = true then Q (.bl true) H1 else tb σ H1 Q
def tNotV (ta : TE) : TE := fun σ H Q => ta σ H fun x H1 => ∃ c, x = .bl c ∧ Q (.bl (!c)) H1
/-- a if t else b -/
def tIf (t : TT) (ta tb : TE) : TE := fun σ H Q => t σ H fun c H1 => if c = true then ta σ H1 Q else tb σ H1 Q
theorem pe_ifExp {c : Expr} (hc : PT X c tA) (ha : PE X a ta) (hb : PE X b tb) : PE X (.IfExp c a b pos) (tIf tA ta tb) := by
  intro pins s σ H Q I h
  refine wpAny_IfExp (thn (hc pins s σ H _ I h) fun d s1 ⟨H1, I1, q1⟩ => ?_)
  cases d with
  | true => exact ha pins s1 σ H1 Q I1 q1
  | false => exact hb pins s1 σ H1 Q I1 q1
end
end L2

namespace L2
open PySem PySem.Spec PyProof.Rows

/-! ### a list, a tuple that is read: tracked, frozen, or an object of the module -/
def SqL (K : PySem.W.Frag) (H : Hp) (a : Addr) (xs : List V) : Prop :=
  Rd H a (.lst xs) ∨
    ∃ (o : Obj) (its : Array Value) (n : Nat), K.lookup a = some o ∧ o.cls = .type "list" ∧ o.dict = none ∧ o.data = .seq its n ∧ its.size ≤ sizeLine ∧ Vals xs its.toList
def SqT (K : PySem.W.Frag) (H : Hp) (a : Addr) (xs : List V) : Prop :=
  Rd H a (.tup xs) ∨
    ∃ (o : Obj) (its : Array Value) (n : Nat), K.lookup a = some o ∧ o.cls = .type "tuple" ∧ o.data = .seq its n ∧ its.size ≤ sizeLine ∧ Vals xs its.toList
def absV : Value → Option V
  | .none => some .non
  | .bool b => some (.bl b)
  | .int i _ => some (.int i)
  | .str x _ => some (.str x)
  | .bytes b _ => some (.byt b)
  | .float b _ => some (.flt b)
  | .ref a => some (.ref a)
  | .type n => some (.ty n)
  | _ => none
theorem RelV.abs {x : V} {u : Value} (r : RelV x u) : absV u = some x := by
  cases x with
  | non => cases r; rfl
  | bl _ => cases r; rfl
  | int _ => obtain ⟨t, rfl⟩ := r; rfl
  | str _ => obtain ⟨t, rfl⟩ := r; rfl
  | byt _ => obtain ⟨t, rfl⟩ := r; rfl
  | flt _ => obtain ⟨t, rfl⟩ := r; rfl
  | ref _ => cases r; rfl
  | ty _ => cases r; rfl
theorem RelV.inj {x y : V} {u : Value} (r : RelV x u) (q : RelV y u) : x = y := Option.some.inj (r.abs.symm.trans q.abs)
theorem Vals.inj : ∀ {xs ys : List V} {us : List Value}, Vals xs us → Vals ys us → xs = ys
  | _, _, _, .nil, .nil => rfl
  | _, _, _, .cons r t, .cons r' t' => by rw [r.inj r', Vals.inj t t']
section
variable {X : Cx} {pins : List (Addr × Obj)} {σ : St} {H : Hp} {s : Shared} {a : Addr} {xs ys : List V}
theorem SqL.of {K : PySem.W.Frag} (h : H a = some (.lst xs)) : SqL K H a xs := .inl (.inl h)
theorem SqT.of {K : PySem.W.Frag} (h : H a = some (.tup xs)) : SqT K H a xs := .inl (.inl h)
theorem Inv.list (I : Inv X pins σ H s) (h : SqL X.K H a xs) : ∃ its : List Value, Vals xs its ∧ PlainL s.heap a its.toArray ∧ xs.length ≤ sizeLine := by
  rcases h with h | ⟨o, its, n, hk, hc, hd, hs, hz, r⟩
  · obtain ⟨z, its, n, r, e⟩ := h.ok I.hok
    exact ⟨its, r, ⟨_, n, e, rfl, rfl, rfl⟩, z⟩
  · refine ⟨its.toList, r, ⟨o, n, I.kIn a o hk, hc, hd, by simpa using hs⟩, ?_⟩
    have e := r.length
    simp only [Array.length_toList] at e
    omega
theorem Inv.tuple (I : Inv X pins σ H s) (h : SqT X.K H a xs) : ∃ its : List Value, Vals xs its ∧ IsTup s.heap a its.toArray ∧ xs.length ≤ sizeLine := by
  rcases h with h | ⟨o, its, n, hk, hc, hs, hz, r⟩
  · obtain ⟨z, its, r, p⟩ := h.ok I.hok
    exact ⟨its, r, p, z⟩
  · refine ⟨its.toList, r, ⟨o, I.kIn a o hk, hc, n, by simpa using hs⟩, ?_⟩
    have e := r.length
    simp only [Array.length_toList] at e
    omega
theorem Inv.list_inj (I : Inv X pins σ H s) (h : SqL X.K H a xs) (h' : SqL X.K H a ys) : xs = ys := by
  obtain ⟨its, r, ⟨o, n, e, _, _, d⟩, _⟩ := I.list h
  obtain ⟨its', r', ⟨o', n', e', _, _, d'⟩, _⟩ := I.list h'
  rw [e] at e'; cases e'
  rw [d] at d'
  injection d' with d1 _
  have : its = its' := by simpa using congrArg Array.toList d1
  subst this
  exact r.inj r'
end

/-! ### another wish about exceptions -/
abbrev Cx.wish (X : Cx) (E : Value → Shared → Prop) : Cx := { X with xe := E }
/-- no exception leaves -/
abbrev Cx.nox (X : Cx) : Cx := X.wish fun _ _ => False
theorem Cx.Ok.wish {X : Cx} (ok : X.Ok) (E : Value → Shared → Prop) : (X.wish E).Ok :=
  ⟨ok.mod, ok.kind, ok.glob, ok.blt, ok.above, ok.inj, ok.has, ok.cab, ok.hd, ok.frames, ok.stk, ok.exf, ok.bs, ok.bsz, ok.noex, ok.exfs, ok.funs, ok.frf⟩
theorem Cx.Ok.unwish {X : Cx} {E : Value → Shared → Prop} (ok : (X.wish E).Ok) : X.Ok :=
  ⟨ok.mod, ok.kind, ok.glob, ok.blt, ok.above, ok.inj, ok.has, ok.cab, ok.hd, ok.frames, ok.stk, ok.exf, ok.bs, ok.bsz, ok.noex, ok.exfs, ok.funs, ok.frf⟩
section
variable {X : Cx} {pins : List (Addr × Obj)} {σ : St} {H : Hp} {s : Shared} {E : Value → Shared → Prop}
theorem Inv.wish (I : Inv X pins σ H s) (E : Value → Shared → Prop) : Inv (X.wish E) pins σ H s := ⟨I.ok.wish E, I.os, I.bare, I.base, I.loc, I.cell, I.free, I.freeC, I.pin, I.hok, I.len⟩
theorem Inv.unwish (I : Inv (X.wish E) pins σ H s) : Inv X pins σ H s := ⟨I.ok.unwish, I.os, I.bare, I.base, I.loc, I.cell, I.free, I.freeC, I.pin, I.hok, I.len⟩
theorem SP.unwish {D : Ends} {f : Flow} {s' : Shared} (h : SP (X.wish E) pins D f s') : SP X pins D f s' := by
  cases f with
  | next => obtain ⟨σ', H', I, q⟩ := h; exact ⟨σ', H', I.unwish, q⟩
  | brk => obtain ⟨σ', H', I, q⟩ := h; exact ⟨σ', H', I.unwish, q⟩
  | cont => obtain ⟨σ', H', I, q⟩ := h; exact ⟨σ', H', I.unwish, q⟩
  | ret u => obtain ⟨v, σ', H', I, r, q⟩ := h; exact ⟨v, σ', H', I.unwish, r, q⟩
theorem PSs.nox {st : List Stmt} {t : TS} (h : PSs X.nox st t) : PSs X st t := fun pins s σ H D I hw =>
  wpAny_mono (h pins s σ H D (I.wish _) hw) (fun _ _ q => q.unwish) fun _ _ z => False.elim z
end

/-! ### blocks and small statements -/
section
variable {X : Cx} {st : Stmt} {rest : List Stmt} {t u : TS} {e : Expr} {te : TE} {pos : Pos}
def tNext : TS := fun D σ H => D.nx σ H
def tSeq (t u : TS) : TS := fun D σ H => t { D with nx := u D } σ H
theorem pss_nil : PSs X [] tNext := fun _ _ σ H _ I h => wpAny_execs_nil ⟨σ, H, I, h⟩
theorem pss_cons (h1 : PS X st t) (h2 : PSs X rest u) : PSs X (st :: rest) (tSeq t u) := by
  intro pins s σ H D I h
  refine wpAny_execs_cons (thn (h1 pins s σ H { D with nx := u D } I h) fun f s1 q => ?_)
  cases f with
  | next =>
    obtain ⟨σ', H', I', q⟩ := q
    exact h2 pins s1 σ' H' D I' q
  | ret v => exact q
  | brk => exact q
  | cont => exact q
theorem pss_one (h1 : PS X st t) : PSs X [st] t := by
  intro pins s σ H D I h
  refine wpAny_execs_cons (thn (h1 pins s σ H D I h) fun f s1 q => ?_)
  cases f with
  | next => exact wpAny_execs_nil q
  | ret v => exact q
  | brk => exact q
  | cont => exact q
def tBreak : TS := fun D σ H => D.bk σ H
def tCont : TS := fun D σ H => D.ct σ H
/-- in a def's body nothing is shown -/
theorem Inv.quiet {pins : List (Addr × Obj)} {σ : St} {H : Hp} {s : Shared} (I : Inv X pins σ H s) : interactive X.env = false := by simp [interactive, I.ok.kind]
/-- an expression whose value is dropped -/
def tDrop (te : TE) : TS := fun D σ H => te σ H fun _ H1 => D.nx σ H1
theorem ps_expr (he : PE X e te) (hs : swapsWith e none pos.line X.env = pure false := by rfl) : PS X (.Expr e pos) (tDrop te) := by
  intro pins s σ H D I h
  exact wpAny_Expr_any (thn (he pins s σ H _ I h) fun v s1 ⟨x, H1, I1, r1, q1⟩ => ⟨σ, H1, I1, q1⟩) I.quiet hs
def tRet (te : TE) : TS := fun D σ H => te σ H D.rt
theorem ps_ret (he : PE X e te) : PS X (.Return (some e) pos) (tRet te) := by
  intro pins s σ H D I h
  exact wpAny_Return_some (thn (he pins s σ H _ I h) fun v s1 ⟨x, H1, I1, r1, q1⟩ => ⟨x, σ, H1, I1, r1, q1⟩)
def tRetN : TS := fun D _ H => D.rt .non H
def tIfS (c : TT) (t u : TS) : TS := fun D σ H => c σ H fun b H1 => if b = true then t D σ H1 else u D σ H1
theorem ps_if {c : Expr} {a b : List Stmt} {tc : TT} (hc : PT X c tc) (ha : PSs X a t) (hb : PSs X b u) : PS X (.If c a b pos) (tIfS tc t u) := by
  intro pins s σ H D I h
  refine wpAny_If (thn (hc pins s σ H _ I h) fun d s1 ⟨H1, I1, q1⟩ => ?_)
  cases d with
  | true => exact ha pins s1 σ H1 D I1 q1
  | false => exact hb pins s1 σ H1 D I1 q1
/-- code that the proof never comes to -/
def tNever : TS := fun _ _ _ => False
end

/-! ### targets -/
abbrev TG := V → St → Hp → (St → Hp → Prop) → Prop
abbrev TGs := List V → St → Hp → (St → Hp → Prop) → Prop
def PG (X : Cx) (target : Expr) (t : TG) : Prop :=
  ∀ (pins : List (Addr × Obj)) (s : Shared) (σ : St) (H : Hp) (v : V) (u : Value) (Q : St → Hp → Prop), Inv X pins σ H s → RelV v u → t v σ H Q →
    wpAny (model X.prog X.w) X.A (assign target X.env u) (fun _ s' => ∃ σ' H', Inv X pins σ' H' s' ∧ Q σ' H') X.xe s
/-- several targets, one after another -/
def PGs (X : Cx) (ts : List Expr) (t : TGs) : Prop :=
  ∀ (pins : List (Addr × Obj)) (s : Shared) (σ : St) (H : Hp) (vs : List V) (us : List Value) (Q : St → Hp → Prop), Inv X pins σ H s → Vals vs us → t vs σ H Q →
    wpAny (model X.prog X.w) X.A (assignInOrder ((assignEach ts X.env).map (·.2)) us) (fun _ s' => ∃ σ' H', Inv X pins σ' H' s' ∧ Q σ' H') X.xe s
/-- o[i] = v, by values -/
abbrev TSet := V → V → V → Hp → (Hp → Prop) → Prop
def PSet (X : Cx) (t : TSet) : Prop :=
  ∀ (pins : List (Addr × Obj)) (s : Shared) (σ : St) (H : Hp) (o i v : V) (ov iv u : Value) (Q : Hp → Prop), Inv X pins σ H s → RelV o ov → RelV i iv → RelV v u → t o i v H Q →
    wpAny (model X.prog X.w) X.A (setItem ov iv u) (fun _ s' => ∃ H', Inv X pins σ H' s' ∧ Q H') X.xe s
/-- a op= b, by values -/
abbrev TIp := V → V → Hp → VK → Prop
def PIp (X : Cx) (op : Operator) (t : TIp) : Prop :=
  ∀ (pins : List (Addr × Obj)) (s : Shared) (σ : St) (H : Hp) (x y : V) (v u : Value) (Q : VK), Inv X pins σ H s → RelV x v → RelV y u → t x y H Q →
    wpAny (model X.prog X.w) X.A (inplaceOp op v u) (EP X pins σ Q) X.xe s
section
variable {X : Cx} {pos : Pos}
def gName (i : Nat) : TG := fun v σ H Q => Q (σ.set i (some v)) H
theorem pg_name {i : Nat} {x : Str} (hN : X.N.Nodup) (hi : X.N[i]? = some x) (hx : Loc X.env.scope x) (hf : X.fn x = true ∨ X.env.scope.names.lookup x = some .local := by first | exact .inl rfl | exact .inr rfl | assumption) : PG X (.Name x pos) (gName i) := by
  intro pins s σ H v u Q I r h
  exact wpAny_assign_Name (store_ok I hN hi hx r (fun s' I' => ⟨_, H, I', h⟩) hf)
def gNil : TGs := fun vs σ H Q => vs = [] ∧ Q σ H
def gCons (t : TG) (u : TGs) : TGs := fun vs σ H Q => ∃ v r, vs = v :: r ∧ t v σ H fun σ' H' => u r σ' H' Q
theorem pgs_nil : PGs X [] gNil := by
  intro pins s σ H vs us Q I r h
  obtain ⟨e, h⟩ := h
  subst e
  cases r
  exact assignInOrder_nil ⟨σ, H, I, h⟩
theorem pgs_cons {e : Expr} {es : List Expr} {t : TG} {u : TGs} (h1 : PG X e t) (h2 : PGs X es u)
    (hs : (assignEach (e :: es) X.env).map (·.2) = assign e X.env :: (assignEach es X.env).map (·.2) := by rfl) : PGs X (e :: es) (gCons t u) := by
  intro pins s σ H vs us Q I r h
  obtain ⟨v, vr, e1, h⟩ := h
  subst e1
  cases r with
  | cons r rr =>
    rw [hs]
    refine assignInOrder_cons (thn (h1 pins s σ H _ _ _ I r h) fun _ s1 ⟨σ1, H1, I1, q1⟩ => ?_)
    exact h2 pins s1 σ1 H1 _ _ Q I1 rr q1
/-- (a, b, ..) = a tuple of that length -/
def gTup (K : PySem.W.Frag) (n : Nat) (t : TGs) : TG := fun v σ H Q => ∃ a xs, v = .ref a ∧ SqT K H a xs ∧ xs.length = n ∧ t xs σ H Q
theorem pg_tup {es : List Expr} {k : Nat} {t : TGs} {n : Nat} (hc : X.calm = true) (h : PGs X es t)
    (hn : (assignEach es X.env).length = n := by rfl) (hst : (assignEach es X.env).findIdx? (·.1) = none := by rfl) : PG X (.Tuple es k pos) (gTup X.K n t) := by
  intro pins s σ H v u Q I r hw
  obtain ⟨a, xs, e1, hq, hl, hw⟩ := hw
  subst e1
  cases r
  obtain ⟨its, rv, ht, hz⟩ := I.tuple hq
  refine assign_Tuple_tuple (I.ok.hd hc) ht (by simp [hn, ← hl, rv.length]) hst fun h' hx => ?_
  have I1 : Inv X pins σ H { s with heap := h' } := I.kept (t' := s.toks) fun b o e => hx b o (Nat.ne_of_lt (Heap.lt_size e)) e
  exact h pins _ σ H xs _ Q I1 (by simpa using rv) hw
/-- o[i] = .. -/
def gSub (to ti : TE) (t : TSet) : TG := fun v σ H Q => to σ H fun o H1 => ti σ H1 fun i H2 => t o i v H2 fun H3 => Q σ H3
/-- target = value -/
def tAsg (te : TE) (g : TG) : TS := fun D σ H => te σ H fun x H1 => g x σ H1 D.nx
/-- name = value -/
theorem ps_set {i : Nat} {x : Str} {e : Expr} {te : TE} {pos' : Pos} (hN : X.N.Nodup) (hi : X.N[i]? = some x) (hx : Loc X.env.scope x) (he : PE X e te) (hs : swapsWith e (some (.Name x pos')) pos.line X.env = pure false := by rfl) (hf : X.fn x = true ∨ X.env.scope.names.lookup x = some .local := by first | exact .inl rfl | exact .inr rfl | assumption) :
    PS X (.Assign [.Name x pos'] e pos) (tAsg te (gName i)) := by
  intro pins s σ H D I h
  refine wpAny_Assign_Name (thn (he pins s σ H _ I h) fun v s1 ⟨y, H1, I1, r1, q1⟩ => ?_) hs
  exact store_ok I1 hN hi hx r1 (fun s2 I2 => ⟨_, H1, I2, q1⟩) hf
/-- a, b = x, y with plain local names: stored from the right; the pair itself is not tracked (the opening rows as in PyProof/Rows/TupAssign.lean:23) -/
def tPar (i j : Nat) (ta : TA) : TS := fun D σ H => ta σ H fun vs H1 => ∃ v w, vs = [v, w] ∧ D.nx ((σ.set i (some v)).set j (some w)) H1
/-- name op= e -/
def tAug (i : Nat) (te : TE) (ti : TIp) : TS := fun D σ H => ∃ x, σ[i]? = some (some x) ∧ te σ H fun y H1 => ti x y H1 fun z H2 => D.nx (σ.set i (some z)) H2
/-- o[i] op= e -/
def tAugS (to ti te : TE) (tget : V → V → Hp → VK → Prop) (tip : TIp) (tset : TSet) : TS := fun D σ H => to σ H fun o H1 => ti σ H1 fun i H2 => tget o i H2 fun x H3 => te σ H3 fun y H4 => tip x y H4 fun z H5 => tset o i z H5 fun H6 => D.nx σ H6
/-- o[i], by values -/
def PGet (X : Cx) (t : V → V → Hp → VK → Prop) : Prop :=
  ∀ (pins : List (Addr × Obj)) (s : Shared) (σ : St) (H : Hp) (o i : V) (ov iv : Value) (Q : VK), Inv X pins σ H s → RelV o ov → RelV i iv → t o i H Q →
    wpAny (model X.prog X.w) X.A (getItem ov iv) (EP X pins σ Q) X.xe s
/-- ints -/
def ipI (f : Int → Int → Int) : TIp := fun x y H Q => ∃ i j, x = .int i ∧ y = .int j ∧ Q (.int (f i j)) H
end

/-! ### while -/
section
variable {X : Cx} {pos : Pos}
/-- the invariant W with its measure -/
def tWhile (c : TT) (tb : TS) : TS := fun D σ H => ∃ W : Nat → St → Hp → Prop, (∃ m, W m σ H) ∧ ∀ m σ H, W m σ H →
  c σ H fun b H1 => if b = true then ∃ N : St → Hp → Prop, (∀ σ' H', N σ' H' → ∃ m', m' < m ∧ W m' σ' H') ∧ tb { D with nx := N, ct := N, bk := D.nx } σ H1 else D.nx σ H1
theorem ps_while {c : Expr} {body : List Stmt} {tc : TT} {tb : TS} (hp : PassesOwn (model X.prog X.w) X.A X.env X.xe) (hc : PT X c tc) (hb : PSs X body tb) : PS X (.While c body [] pos) (tWhile tc tb) := by
  intro pins s σ H D I h
  obtain ⟨W, ⟨m0, w0⟩, turn⟩ := h
  refine wpAny_While (codeAny_whileLoop (fun n s' => ∃ σ' H', Inv X pins σ' H' s' ∧ W n σ' H') ?_ m0 ⟨σ, H, I, w0⟩)
  rintro n s1 ⟨σ1, H1, I1, w1⟩
  refine wpAny_passesOwn hp (thn (hc pins s1 σ1 H1 _ I1 (turn n σ1 H1 w1)) fun b s2 ⟨H2, I2, q2⟩ => ?_)
  cases b with
  | true =>
    obtain ⟨N, hN, q2⟩ := q2
    rw [if_pos rfl]
    refine wpAny_passesOwn hp (thn (hb pins s2 σ1 H2 _ I2 q2) fun f s3 q3 => ?_)
    cases f with
    | next =>
      obtain ⟨σ3, H3, I3, n3⟩ := q3
      obtain ⟨m', hm, w3⟩ := hN σ3 H3 n3
      exact ⟨m', hm, σ3, H3, I3, w3⟩
    | cont =>
      obtain ⟨σ3, H3, I3, n3⟩ := q3
      obtain ⟨m', hm, w3⟩ := hN σ3 H3 n3
      exact ⟨m', hm, σ3, H3, I3, w3⟩
    | brk => exact q3
    | ret v => exact q3
  | false =>
    rw [if_neg Bool.false_ne_true]
    exact wpAny_execs_nil ⟨σ1, H2, I2, q2⟩
end

/-! ### what a loop or a comprehension walks -/
/-- at turn i: it yields x (the heap may grow), or it stops -/
structure It where
  go : Nat → Hp → Prop
  yld : Nat → Hp → V → Hp → Prop
  stop : Nat → Hp → Prop
/-- the iterator's own objects may turn: they are not the frame's, not pinned, younger than the entry (or a comprehension's own) -/
def FpOk (X : Cx) (pins : List (Addr × Obj)) (H : Hp) (b : Addr) : Prop :=
  H b = none ∧ b ≠ X.env.locals ∧ b ∉ X.fs ∧ (b ∈ X.ex ∨ X.s_0.heap.objs.size ≤ b) ∧ (∀ x c, X.env.cells.lookup x = some c → c ≠ b) ∧ ∀ p ∈ X.pn ++ pins, p.1 ≠ b
theorem Inv.fpOk {X : Cx} {pins : List (Addr × Obj)} {σ : St} {H H' : Hp} {s : Shared} {b : Addr} (I : Inv X pins σ H s) (hb : s.heap.objs.size ≤ b) (hn : H' b = none) : FpOk X pins H' b := by
  refine ⟨hn, Nat.ne_of_gt (Nat.lt_of_lt_of_le I.lt hb), I.nofs hb, .inr (Nat.le_trans I.sz hb), fun x c e z => ?_, fun p hp z => ?_⟩
  · obtain ⟨v, q⟩ := I.cell x c e
    exact absurd (Nat.lt_of_lt_of_le q.lt (by rw [z]; exact hb)) (Nat.lt_irrefl _)
  · exact absurd (Nat.lt_of_lt_of_le (Heap.lt_size (I.pin p hp).1) (by rw [z]; exact hb)) (Nat.lt_irrefl _)
structure Turn (P : Program) (w : World) (K : PySem.W.Frag) (tg : Expr) (J : It) (fp : List Addr) (it : Addr) (tn : Nat → Heap → Prop) : Prop where
  mem : it ∈ fp
  obj : ∀ i h, tn i h → ∀ b ∈ fp, ∃ o, h.get? b = some o ∧ ∀ v, o.data ≠ .cell v
  keep : ∀ i h h', tn i h → (∀ b ∈ fp, ∀ o, h.get? b = some o → h'.get? b = some o) → tn i h'
  item : ∀ (X : Cx), X.prog = P → X.w = w → X.K = K → X.calm = true → ∀ (i : Nat) (pins : List (Addr × Obj)) (s : Shared) (σ : St) (H : Hp) (E : Value → Shared → Prop), Inv X pins σ H s → (∀ b ∈ fp, FpOk X pins H b) → tn i s.heap → J.go i H →
    wpAny (model P w) X.A (pyNext (.ref it)) (fun r s1 => ∃ u, r = some u ∧
      wpAny (model P w) X.A (letOwnedTupleGo tg (.ref it) u) (fun _ s2 => ∃ x H', Inv X pins σ H' s2 ∧ RelV x u ∧ J.yld i H x H' ∧ tn (i + 1) s2.heap ∧ ∀ b ∈ fp, H' b = none) E s1) E s
  done : ∀ (X : Cx), X.prog = P → X.w = w → X.K = K → X.calm = true → ∀ (i : Nat) (pins : List (Addr × Obj)) (s : Shared) (σ : St) (H : Hp) (E : Value → Shared → Prop), Inv X pins σ H s → (∀ b ∈ fp, FpOk X pins H b) → tn i s.heap → J.stop i H →
    wpAny (model P w) X.A (pyNext (.ref it)) (fun r s1 => r = none ∧ Inv X pins σ H s1) E s
  self : ∀ (A : Around) (i : Nat) (s : Shared) (Q : Value → Shared → Prop) (E : Value → Shared → Prop), tn i s.heap → Q (.ref it) s → wpAny (model P w) A (pyIter (.ref it)) Q E s
abbrev TI := St → Hp → (It → Hp → Prop) → Prop
/-- an iterator has come -/
def PIE (X : Cx) (pins : List (Addr × Obj)) (σ : St) (tg : Expr) (R : It → Hp → Prop) (itv : Value) (s2 : Shared) : Prop :=
  ∃ (it : Addr) (fp : List Addr) (tn : Nat → Heap → Prop) (J : It) (H' : Hp), itv = .ref it ∧ Inv X pins σ H' s2 ∧ Turn X.prog X.w X.K tg J fp it tn ∧ tn 0 s2.heap ∧ (∀ b ∈ fp, FpOk X pins H' b) ∧ R J H'
def PI (X : Cx) (tg iter : Expr) (wi : TI) : Prop :=
  ∀ (pins : List (Addr × Obj)) (s : Shared) (σ : St) (H : Hp) (R : It → Hp → Prop), Inv X pins σ H s → wi σ H R →
    wpAny (model X.prog X.w) X.A (eval iter X.env) (fun v s1 => wpAny (model X.prog X.w) X.A (pyIter v) (PIE X pins σ tg R) X.xe s1) X.xe s

/-- the step ahead of the store is nothing for an iterator that keeps no tuple -/
theorem go_of {M : Model} {A : Around} {E : Value → Shared → Prop} {s : Shared} {tg : Expr} {it : Addr} {u : Value} {o : Obj} {n : String} {vs : Array Value} {Q : Unit → Shared → Prop} (ho : s.heap.get? it = some o) (hc : o.cls = .type n) (hd : o.data = .fields vs)
    (hn : ["enumerate", "zip", "dict_itemiterator", "dict_reverseitemiterator", "odict_iterator", "itertools.zip_longest", "itertools.pairwise"].contains n = false) (hQ : Q () s) : wpAny M A (letOwnedTupleGo tg (.ref it) u) Q E s := by
  unfold letOwnedTupleGo
  cases tg <;> first
    | exact wpAny_pure hQ
    | (cases u <;> first
        | exact wpAny_pure hQ
        | (refine wpAny_bind (wpAny_load ho ?_)
           rw [hc, hd]
           show wpAny M A (if (["enumerate", "zip", "dict_itemiterator", "dict_reverseitemiterator", "odict_iterator", "itertools.zip_longest", "itertools.pairwise"].contains n && vs[0]? == some (rawInt _)) = true then _ else _) Q E s
           rw [if_neg (by intro h; rw [hn, Bool.false_and] at h; cases h)]
           exact wpAny_pure hQ))

/-- the list at a, as it stands at each turn (a loop may append to it) -/
def Itl (K : PySem.W.Frag) (a : Addr) : It :=
  ⟨fun i H => ∃ xs x, SqL K H a xs ∧ xs[i]? = some x, fun i H x H' => H' = H ∧ ∀ xs, SqL K H a xs → xs[i]? = some x, fun i H => ∃ xs, SqL K H a xs ∧ xs.length ≤ i⟩
def Itt (K : PySem.W.Frag) (a : Addr) : It :=
  ⟨fun i H => ∃ xs x, SqT K H a xs ∧ xs[i]? = some x, fun i H x H' => H' = H ∧ ∀ xs, SqT K H a xs → xs[i]? = some x, fun i H => ∃ xs, SqT K H a xs ∧ xs.length ≤ i⟩
/-- lo, lo + 1, .. (n of them) -/
def Itr (lo : Int) (n : Nat) : It := ⟨fun i _ => i < n, fun i H x H' => H' = H ∧ x = .int (lo + i), fun i _ => n ≤ i⟩
theorem turn_list {P : Program} {w : World} {K : PySem.W.Frag} {tg : Expr} (a it : Addr) : Turn P w K tg (Itl K a) [it] it (fun i h => h.IsListIter it a i) where
  mem := by simp
  obj := fun i h st b hb => by
    have e : b = it := by simpa using hb
    subst e
    obtain ⟨o, e, c, d⟩ := st
    exact ⟨o, e, fun v z => by rw [d] at z; cases z⟩
  keep := fun i h h' st k => st.at fun o e => k it (by simp) o e
  item := by
    intro X hP hw hK hc i pins s σ H E I hf st hg
    subst hP hw hK
    obtain ⟨xs, x, hq, hx⟩ := hg
    obtain ⟨its, rv, p, hz⟩ := I.list hq
    obtain ⟨u, hu, ru⟩ := rv.get hx
    obtain ⟨f0, f1, f2, f3, f4, f5⟩ := hf it (by simp)
    refine wpAny_pyNext_list_item st p.isList (x := u) (by simpa using hu) fun h' st' sb => ?_
    have I1 : Inv X pins σ H { s with heap := h' } := I.turned (t' := s.toks) (fun b o hb e => (sb.2 b hb).trans e) f0 f1 f3 f4 f5
    obtain ⟨o, e, c, d⟩ := id st'
    exact ⟨u, rfl, go_of (s := { s with heap := h' }) e c d (by decide) ⟨x, H, I1, ru, ⟨rfl, fun ys hy => by rw [I.list_inj hy hq]; exact hx⟩, st', fun b hb => (hf b hb).1⟩⟩
  done := by
    intro X hP hw hK hc i pins s σ H E I hf st hg
    subst hP hw hK
    obtain ⟨xs, hq, hx⟩ := hg
    obtain ⟨its, rv, p, hz⟩ := I.list hq
    obtain ⟨f0, f1, f2, f3, f4, f5⟩ := hf it (by simp)
    have hl := rv.length
    exact wpAny_pyNext_list_end (I.ok.hd hc) st p.isList (by simp; omega) fun h' eb => ⟨rfl, I.turned (t' := s.toks) (fun b o hb e => eb b o hb e) f0 f1 f3 f4 f5⟩
  self := fun _ _ _ _ _ st h => wpAny_pyIter_listiter st h
theorem turn_range {P : Program} {w : World} {K : PySem.W.Frag} {tg : Expr} (it : Addr) (lo : Int) (n : Nat) : Turn P w K tg (Itr lo n) [it] it (fun i h => IsRangeIter h it (lo + (i : Nat) * 1) ((n : Int) - (i : Nat)) 1) where
  mem := by simp
  obj := fun i h st b hb => by
    have e : b = it := by simpa using hb
    subst e
    exact ⟨_, st, fun v z => by
      have z' : Data.fields _ = Data.cell v := z
      cases z'⟩
  keep := fun i h h' st k => k it (by simp) _ st
  item := by
    intro X hP hw hK hc i pins s σ H E I hf st hg
    subst hP hw hK
    obtain ⟨f0, f1, f2, f3, f4, f5⟩ := hf it (by simp)
    have W := Walks.range (prog := X.prog) (w := X.w) (I.ok.hd hc) it lo 1 n
    refine W.item i s _ _ hg st fun v h' tk hv st' kk => ?_
    obtain ⟨t, rfl⟩ := hv
    have I1 : Inv X pins σ H { s with heap := h', toks := tk } := I.turned (fun b o hb e => kk b o (by simpa using hb) e) f0 f1 f3 f4 f5
    refine ⟨_, rfl, go_of (s := { s with heap := h', toks := tk }) (n := "range_iterator") st' rfl rfl (by decide) ⟨.int (lo + i), H, I1, ⟨t, ?_⟩, ⟨rfl, rfl⟩, st', fun b hb => (hf b hb).1⟩⟩
    rw [Int.mul_one]
  done := by
    intro X hP hw hK hc i pins s σ H E I hf st hg
    subst hP hw hK
    obtain ⟨f0, f1, f2, f3, f4, f5⟩ := hf it (by simp)
    exact wpAny_pyNext_range_end (I.ok.hd hc) st (by have : n ≤ i := hg; omega) fun h' eb => ⟨rfl, I.turned (t' := s.toks) (fun b o hb e => eb b o hb e) f0 f1 f3 f4 f5⟩
  self := fun _ _ _ _ _ st h => wpAny_pyIter_rangeiter st h
end L2

namespace L2
open PySem PySem.Spec PyProof.Rows
section
variable {X : Cx} {tg : Expr}
def iList (K : PySem.W.Frag) (tl : TE) : TI := fun σ H R => tl σ H fun x H1 => ∃ a, x = .ref a ∧ (∃ xs, SqL K H1 a xs) ∧ R (Itl K a) H1
def iTup (K : PySem.W.Frag) (tl : TE) : TI := fun σ H R => tl σ H fun x H1 => ∃ a, x = .ref a ∧ (∃ xs, SqT K H1 a xs) ∧ R (Itt K a) H1
theorem pi_list {l : Expr} {tl : TE} (hl : PE X l tl) : PI X tg l (iList X.K tl) := by
  intro pins s σ H R I h
  refine thn (hl pins s σ H _ I h) fun v s1 ⟨x, H1, I1, r1, q1⟩ => ?_
  obtain ⟨a, e, ⟨xs, hq⟩, q⟩ := q1
  subst e
  cases r1
  obtain ⟨its, rv, p, hz⟩ := I1.list hq
  refine wpAny_pyIter_list p.isList ?_
  refine ⟨s1.heap.objs.size, [s1.heap.objs.size], _, _, H1, rfl, I1.kept (t' := s1.toks) fun b o e => Heap.get?_push_of_some _ e, turn_list a _, ⟨_, Heap.get?_push_size _ rfl, rfl, rfl⟩, fun b hb => ?_, q⟩
  have e : b = s1.heap.objs.size := by simpa using hb
  subst e
  exact I1.fpOk (Nat.le_refl _) (I1.hok.fresh (Nat.le_refl _))
/-- a range object just made, walked -/
theorem range_it {pins : List (Addr × Obj)} {σ : St} {H : Hp} {s : Shared} {R : It → Hp → Prop} {E : Value → Shared → Prop} {lo hi : Int} {t u v : Tok} {tk : Nat} (I : Inv X pins σ H s) (h1 : -(2 ^ 62) ≤ lo) (h2 : lo < 2 ^ 62) (h3 : -(2 ^ 62) ≤ hi) (h4 : hi < 2 ^ 62)
    (q : R (Itr lo (hi - lo).toNat) H) : wpAny (model X.prog X.w) X.A (pyIter (.ref s.heap.objs.size)) (PIE X pins σ tg R) E { s with heap := s.heap.push { cls := .type "range", data := .fields #[.int lo t, .int hi u, .int 1 v] }, toks := tk } := by
  refine wpAny_pyIter_range (IsRange.new ..) (small_one h1 h2 h3 h4) ?_
  have I1 : Inv X pins σ H { s with heap := s.heap.push { cls := .type "range", data := .fields #[.int lo t, .int hi u, .int 1 v] }, toks := tk } := I.kept fun b o e => Heap.get?_push_of_some _ e
  refine ⟨(s.heap.push { cls := .type "range", data := .fields #[.int lo t, .int hi u, .int 1 v] }).objs.size, [(s.heap.push { cls := .type "range", data := .fields #[.int lo t, .int hi u, .int 1 v] }).objs.size], _, _, H, rfl,
    I1.kept (t' := tk) fun b o e => Heap.get?_push_of_some _ e, turn_range _ lo (hi - lo).toNat, ?_, fun b hb => ?_, q⟩
  · have e1 : lo + ((0 : Nat) : Int) * 1 = lo := by simp
    have e2 : (((hi - lo).toNat : Nat) : Int) - ((0 : Nat) : Int) = Builtin.Range.rangeSize lo hi 1 := by rw [rangeSize_one]; split <;> omega
    show IsRangeIter _ _ (lo + ((0 : Nat) : Int) * 1) ((((hi - lo).toNat : Nat) : Int) - ((0 : Nat) : Int)) 1
    rw [e1, e2]
    exact Heap.get?_push_size _ rfl
  · have e : b = (s.heap.push { cls := .type "range", data := .fields #[.int lo t, .int hi u, .int 1 v] }).objs.size := by simpa using hb
    subst e
    exact I1.fpOk (Nat.le_refl _) (I1.hok.fresh (Nat.le_refl _))
def iRng1 (ta : TA) : TI := fun σ H R => ta σ H fun vs H1 => ∃ j : Int, vs = [.int j] ∧ -(2 ^ 62) ≤ j ∧ j < 2 ^ 62 ∧ R (Itr 0 j.toNat) H1
def iRng2 (ta : TA) : TI := fun σ H R => ta σ H fun vs H1 => ∃ i j : Int, vs = [.int i, .int j] ∧ (-(2 ^ 62) ≤ i ∧ i < 2 ^ 62 ∧ -(2 ^ 62) ≤ j ∧ j < 2 ^ 62) ∧ R (Itr i (j - i).toNat) H1
theorem pi_range1 {a : Expr} {ta : TA} {p pos : Pos} (hg : Gl X "range") (hm : X.mg "range" = none) (ha : PA X [a] ta) (hs : starEach [a] X.env = [(false, eval a X.env)] := by rfl) : PI X tg (.Call (.Name "range" p) [a] [] pos) (iRng1 ta) := by
  intro pins s σ H R I h
  refine Call_ (ld_blt I hg hm boot_range (PyProof.Rows.callWith_type1 (thn (ha pos pins s σ H _ I h) fun us s1 ⟨vs, H1, I1, r1, q1⟩ => ?_) hs rfl))
  obtain ⟨j, e, q1, q2, q⟩ := q1
  subst e
  cases r1 with
  | cons r rr =>
    cases rr
    obtain ⟨t, rfl⟩ := r
    exact call_range_1 (range_it I1 (by omega) (by omega) q1 q2 (by simpa using q))
theorem pi_range2 {a b : Expr} {ta : TA} {p pos : Pos} (hg : Gl X "range") (hm : X.mg "range" = none) (ha : PA X [a, b] ta) (hs : starEach [a, b] X.env = [(false, eval a X.env), (false, eval b X.env)] := by rfl) (hs2 : starEach [b] X.env = [(false, eval b X.env)] := by rfl) :
    PI X tg (.Call (.Name "range" p) [a, b] [] pos) (iRng2 ta) := by
  intro pins s σ H R I h
  refine Call_ (ld_blt I hg hm boot_range (PyProof.Rows.callWith_type1 (thn (ha pos pins s σ H _ I h) fun us s1 ⟨vs, H1, I1, r1, q1⟩ => ?_) (by rw [hs, hs2]) (by rw [hs2]; rfl)))
  obtain ⟨i, j, e, ⟨q1, q2, q3, q4⟩, q⟩ := q1
  subst e
  cases r1 with
  | cons r rr =>
    cases rr with
    | cons r' rr =>
      cases rr
      obtain ⟨t, rfl⟩ := r
      obtain ⟨t', rfl⟩ := r'
      exact call_range_2 (range_it I1 q1 q2 q3 q4 q)

/-! ### for -/
/-- W: the invariant by the turn and a measure; N: what the body is to reach -/
def tFor (wi : TI) (g : TG) (tb : TS) : TS := fun D σ H => wi σ H fun J H1 => ∃ W : Nat → Nat → St → Hp → Prop, (∃ m, W 0 m σ H1) ∧ ∀ i m σ H, W i m σ H →
  (J.stop i H ∧ D.nx σ H) ∨ (J.go i H ∧ ∃ N : St → Hp → Prop, (∀ σ' H', N σ' H' → ∃ m', m' < m ∧ W (i + 1) m' σ' H') ∧ ∀ x H', J.yld i H x H' → g x σ H' fun σ2 H2 => tb { D with nx := N, ct := N, bk := D.nx } σ2 H2)
/-- the records at fp as they stand -/
def pinsAt (fp : List Addr) (h : Heap) : List (Addr × Obj) := fp.filterMap fun b => (h.get? b).map fun o => (b, o)
theorem mem_pinsAt {fp : List Addr} {h : Heap} {b : Addr} {o : Obj} (hb : b ∈ fp) (e : h.get? b = some o) : (b, o) ∈ pinsAt fp h := List.mem_filterMap.mpr ⟨b, hb, by rw [e]; rfl⟩
theorem of_pinsAt {fp : List Addr} {h : Heap} {p : Addr × Obj} (hp : p ∈ pinsAt fp h) : p.1 ∈ fp ∧ h.get? p.1 = some p.2 := by
  obtain ⟨b, hb, e⟩ := List.mem_filterMap.mp hp
  cases q : h.get? b with
  | none => rw [q] at e; cases e
  | some o =>
    rw [q] at e
    have e' : (b, o) = p := Option.some.inj e
    subst e'
    exact ⟨hb, q⟩
theorem Inv.pinned {pins : List (Addr × Obj)} {σ : St} {H : Hp} {s : Shared} {fp : List Addr} (I : Inv X pins σ H s) (hf : ∀ b ∈ fp, FpOk X pins H b) (ho : ∀ b ∈ fp, ∃ o, s.heap.get? b = some o ∧ ∀ v, o.data ≠ .cell v) : Inv X (pins ++ pinsAt fp s.heap) σ H s :=
  I.pins_of fun p hp => (List.mem_append.mp hp).elim (fun z => I.pin p (List.mem_append_right _ z)) fun z => by
    obtain ⟨hb, e⟩ := of_pinsAt z
    obtain ⟨f0, f1, f2, _⟩ := hf p.1 hb
    obtain ⟨o, e', d⟩ := ho p.1 hb
    rw [e] at e'; cases e'
    exact ⟨e, f0, f1, f2, d⟩
theorem Inv.unpinned {pins pl : List (Addr × Obj)} {σ : St} {H : Hp} {s : Shared} (I : Inv X (pins ++ pl) σ H s) : Inv X pins σ H s := I.pins_of fun p hp => I.pin p (List.mem_append_right _ (List.mem_append_left _ hp))
theorem ps_for {iter : Expr} {body : List Stmt} {wi : TI} {g : TG} {tb : TS} {pos : Pos} (hp : PassesOwn (model X.prog X.w) X.A X.env X.xe) (hc : X.calm = true) (hi : PI X tg iter wi) (hg : PG X tg g) (hb : PSs X body tb)
    (hs : ∀ x, foldedSetIterable iter X.env x = pure x := by intro _; rfl) : PS X (.For tg iter body [] pos) (tFor wi g tb) := by
  intro pins s σ H D I h
  refine wpAny_For (thn (hi pins s σ H _ I h) fun v s1 h1 => thn h1 fun itv s2 h2 => ?_) hs
  obtain ⟨it, fp, tn, J, H2, e, I2, T, st2, f2, W, ⟨m0, w0⟩, turn⟩ := h2
  subst e
  -- what stays true of the iterator's objects through the loop
  have stat : ∀ {H' : Hp}, (∀ b ∈ fp, H' b = none) → ∀ b ∈ fp, FpOk X pins H' b := fun hn b hb => ⟨hn b hb, (f2 b hb).2⟩
  refine codeAny_forLoop_any (fun n s' => ∃ i σ' H', Inv X pins σ' H' s' ∧ tn i s'.heap ∧ (∀ b ∈ fp, H' b = none) ∧ W i n σ' H') ?_ m0 ⟨0, σ, H2, I2, st2, fun b hb => (f2 b hb).1, w0⟩
  rintro n s3 ⟨i, σ3, H3, I3, st3, fr3, w3⟩
  rcases turn i n σ3 H3 w3 with ⟨stop, qn⟩ | ⟨go, N, hN, step⟩
  · refine wpAny_passesOwn hp (thn (T.done X rfl rfl rfl hc i pins s3 σ3 H3 X.xe I3 (stat fr3) st3 stop) fun r s4 ⟨hr, I4⟩ => ?_)
    subst hr
    exact wpAny_execs_nil ⟨σ3, H3, I4, qn⟩
  · refine wpAny_passesOwn hp (thn (T.item X rfl rfl rfl hc i pins s3 σ3 H3 X.xe I3 (stat fr3) st3 go) fun r s4 ⟨u, hr, h4⟩ => ?_)
    subst hr
    refine wpAny_passesOwn hp (thn h4 fun _ s5 ⟨x, H5, I5, r5, y5, st5, fr5⟩ => ?_)
    have I5' := I5.pinned (stat fr5) (T.obj _ _ st5)
    refine wpAny_passesOwn hp (thn (hg _ s5 σ3 H5 x u _ I5' r5 (step x H5 y5)) fun _ s6 ⟨σ6, H6, I6, q6⟩ => ?_)
    refine wpAny_passesOwn hp (thn (hb _ s6 σ6 H6 _ I6 q6) fun f s7 q7 => ?_)
    have again : ∀ {σ7 : St} {H7 : Hp}, Inv X (pins ++ pinsAt fp s5.heap) σ7 H7 s7 → N σ7 H7 → ∃ m, m < n ∧ ∃ i σ' H', Inv X pins σ' H' s7 ∧ tn i s7.heap ∧ (∀ b ∈ fp, H' b = none) ∧ W i m σ' H' := fun {σ7 H7} I7 n7 => by
      obtain ⟨m', hm, w7⟩ := hN σ7 H7 n7
      refine ⟨m', hm, i + 1, σ7, H7, I7.unpinned, T.keep _ _ _ st5 fun b hb o e => (I7.pin (b, o) (List.mem_append_right _ (List.mem_append_right _ (mem_pinsAt hb e)))).1, fun b hb => ?_, w7⟩
      obtain ⟨o, e, d⟩ := T.obj _ _ st5 b hb
      exact (I7.pin (b, o) (List.mem_append_right _ (List.mem_append_right _ (mem_pinsAt hb e)))).2.1
    cases f with
    | next => obtain ⟨σ7, H7, I7, n7⟩ := q7; exact again I7 n7
    | cont => obtain ⟨σ7, H7, I7, n7⟩ := q7; exact again I7 n7
    | brk => obtain ⟨σ7, H7, I7, q7⟩ := q7; exact ⟨σ7, H7, I7.unpinned, q7⟩
    | ret v => obtain ⟨x7, σ7, H7, I7, r7, q7⟩ := q7; exact ⟨x7, σ7, H7, I7.unpinned, r7, q7⟩
end

/-! ### the forms one uses -/
/-- over a list that the body leaves as it is -/
theorem for_list {K : PySem.W.Frag} {a : Addr} {xs : List V} {g : TG} {tb : TS} {D : Ends} {σ : St} {H : Hp} (Pv : Nat → St → Hp → Prop) (h0 : Pv 0 σ H) (hl : ∀ i σ H, i ≤ xs.length → Pv i σ H → SqL K H a xs)
    (hs : ∀ i x σ H, xs[i]? = some x → Pv i σ H → g x σ H fun σ2 H2 => tb { D with nx := Pv (i + 1), ct := Pv (i + 1), bk := D.nx } σ2 H2) (hd : ∀ σ H, Pv xs.length σ H → D.nx σ H) :
    ∃ W : Nat → Nat → St → Hp → Prop, (∃ m, W 0 m σ H) ∧ ∀ i m σ H, W i m σ H →
      ((Itl K a).stop i H ∧ D.nx σ H) ∨ ((Itl K a).go i H ∧ ∃ N : St → Hp → Prop, (∀ σ' H', N σ' H' → ∃ m', m' < m ∧ W (i + 1) m' σ' H') ∧ ∀ x H', (Itl K a).yld i H x H' → g x σ H' fun σ2 H2 => tb { D with nx := N, ct := N, bk := D.nx } σ2 H2) := by
  refine ⟨fun i m σ H => m = xs.length - i ∧ i ≤ xs.length ∧ Pv i σ H, ⟨xs.length, by simp, Nat.zero_le _, h0⟩, ?_⟩
  rintro i m σ H ⟨rfl, hi, p⟩
  have q := hl i σ H hi p
  by_cases hlt : i < xs.length
  · refine .inr ⟨⟨xs, xs[i], q, by simp [hlt]⟩, Pv (i + 1), fun σ' H' p' => ⟨xs.length - (i + 1), by omega, rfl, hlt, p'⟩, fun x H' y => ?_⟩
    obtain ⟨e, y⟩ := y
    subst e
    exact hs i x σ _ (y xs q) p
  · have e : i = xs.length := by omega
    subst e
    exact .inl ⟨⟨xs, q, Nat.le_refl _⟩, hd σ H p⟩
theorem for_range {lo : Int} {n : Nat} {g : TG} {tb : TS} {D : Ends} {σ : St} {H : Hp} (Pv : Nat → St → Hp → Prop) (h0 : Pv 0 σ H)
    (hs : ∀ i σ H, i < n → Pv i σ H → g (.int (lo + i)) σ H fun σ2 H2 => tb { D with nx := Pv (i + 1), ct := Pv (i + 1), bk := D.nx } σ2 H2) (hd : ∀ σ H, Pv n σ H → D.nx σ H) :
    ∃ W : Nat → Nat → St → Hp → Prop, (∃ m, W 0 m σ H) ∧ ∀ i m σ H, W i m σ H →
      ((Itr lo n).stop i H ∧ D.nx σ H) ∨ ((Itr lo n).go i H ∧ ∃ N : St → Hp → Prop, (∀ σ' H', N σ' H' → ∃ m', m' < m ∧ W (i + 1) m' σ' H') ∧ ∀ x H', (Itr lo n).yld i H x H' → g x σ H' fun σ2 H2 => tb { D with nx := N, ct := N, bk := D.nx } σ2 H2) := by
  refine ⟨fun i m σ H => m = n - i ∧ i ≤ n ∧ Pv i σ H, ⟨n, by simp, Nat.zero_le _, h0⟩, ?_⟩
  rintro i m σ H ⟨rfl, hi, p⟩
  by_cases hlt : i < n
  · refine .inr ⟨hlt, Pv (i + 1), fun σ' H' p' => ⟨n - (i + 1), by omega, rfl, hlt, p'⟩, fun x H' y => ?_⟩
    obtain ⟨e, y⟩ := y
    subst e y
    exact hs i σ _ hlt p
  · have e : i = n := by omega
    subst e
    exact .inl ⟨Nat.le_refl _, hd σ H p⟩
/-- while, by a word and a measure of the state -/
theorem while_by {c : TT} {tb : TS} {D : Ends} {σ : St} {H : Hp} (Pv : St → Hp → Prop) (μ : St → Hp → Nat) (h0 : Pv σ H)
    (hs : ∀ σ H, Pv σ H → c σ H fun b H1 => if b = true then tb { D with nx := fun σ' H' => Pv σ' H' ∧ μ σ' H' < μ σ H, ct := fun σ' H' => Pv σ' H' ∧ μ σ' H' < μ σ H, bk := D.nx } σ H1 else D.nx σ H1)
    (mono : ∀ σ H Q Q', (∀ b H1, Q b H1 → Q' b H1) → c σ H Q → c σ H Q') : tWhile c tb D σ H := by
  refine ⟨fun m σ H => m = μ σ H ∧ Pv σ H, ⟨_, rfl, h0⟩, ?_⟩
  rintro m σ H ⟨rfl, p⟩
  refine mono σ H _ _ (fun b H1 q => ?_) (hs σ H p)
  cases b with
  | true => exact ⟨_, fun σ' H' ⟨p', l⟩ => ⟨_, l, rfl, p'⟩, q⟩
  | false => exact q
end L2

namespace L2
open PySem PySem.Spec PyProof.Rows

abbrev R2 := V → V → Hp → VK → Prop
/-- a two-place operation on values: f is binaryOp op, inplaceOp op or compareOp op -/
def OpR (X : Cx) (f : Value → Value → Sem Value) (r : R2) : Prop :=
  ∀ (pins : List (Addr × Obj)) (s : Shared) (σ : St) (H : Hp) (x y : V) (v u : Value) (Q : VK), Inv X pins σ H s → RelV x v → RelV y u → r x y H Q →
    wpAny (model X.prog X.w) X.A (f v u) (EP X pins σ Q) X.xe s
/-- a one-place operation -/
def UnR (X : Cx) (f : Value → Sem Value) (r : V → Hp → VK → Prop) : Prop :=
  ∀ (pins : List (Addr × Obj)) (s : Shared) (σ : St) (H : Hp) (x : V) (v : Value) (Q : VK), Inv X pins σ H s → RelV x v → r x H Q →
    wpAny (model X.prog X.w) X.A (f v) (EP X pins σ Q) X.xe s
/-- a call of a value that is known (a builtin, a type) with values -/
def CallR (X : Cx) (f : Value) (r : List V → Hp → VK → Prop) : Prop :=
  ∀ (pins : List (Addr × Obj)) (s : Shared) (σ : St) (H : Hp) (xs : List V) (us : List Value) (Q : VK), Inv X pins σ H s → Vals xs us → r xs H Q →
    wpAny (model X.prog X.w) X.A (call f us) (EP X pins σ Q) X.xe s
/-- a value's truth -/
def TruR (X : Cx) (r : V → Hp → (Bool → Hp → Prop) → Prop) : Prop :=
  ∀ (pins : List (Addr × Obj)) (s : Shared) (σ : St) (H : Hp) (x : V) (v : Value) (Q : Bool → Hp → Prop), Inv X pins σ H s → RelV x v → r x H Q →
    wpAny (model X.prog X.w) X.A (truthy v) (TP X pins σ Q) X.xe s

def tOp (r : R2) (ta tb : TE) : TE := fun σ H Q => ta σ H fun x H1 => tb σ H1 fun y H2 => r x y H2 Q
def tUn (r : V → Hp → VK → Prop) (ta : TE) : TE := fun σ H Q => ta σ H fun x H1 => r x H1 Q
/-- ints in, under C, and a value out -/
def rI (C : Int → Int → Prop) (g : Int → Int → V) : R2 := fun x y H Q => ∃ i j, x = .int i ∧ y = .int j ∧ C i j ∧ Q (g i j) H
def rI0 (g : Int → Int → V) : R2 := fun x y H Q => ∃ i j, x = .int i ∧ y = .int j ∧ Q (g i j) H
def rU (g : Int → V) : V → Hp → VK → Prop := fun x H Q => ∃ i, x = .int i ∧ Q (g i) H

section
variable {X : Cx} {a b c : Expr} {ta tb tc : TE} {pos : Pos}

theorem binT (ha : PE X a ta) (hb : PE X b tb) {pins : List (Addr × Obj)} {s : Shared} {σ : St} {H : Hp} {R : V → V → Hp → Prop} (I : Inv X pins σ H s)
    (h : ta σ H fun x H1 => tb σ H1 fun y H2 => R x y H2) {Q : Value → Shared → Prop} {f : Value → Value → Sem Value}
    (hf : ∀ v u s2 x y H2, Inv X pins σ H2 s2 → RelV x v → RelV y u → R x y H2 → wpAny (model X.prog X.w) X.A (f v u) Q X.xe s2) :
    wpAny (model X.prog X.w) X.A (eval a X.env) (fun v s₁ => wpAny (model X.prog X.w) X.A (eval b X.env) (fun u s₂ => wpAny (model X.prog X.w) X.A (f v u) Q X.xe s₂) X.xe s₁) X.xe s := by
  refine thn (ha pins s σ H _ I h) fun v s1 ⟨x, H1, I1, r1, q1⟩ => ?_
  refine thn (hb pins s1 σ H1 _ I1 q1) fun u s2 ⟨y, H2, I2, r2, q2⟩ => ?_
  exact hf v u s2 x y H2 I2 r1 r2 q2

theorem pe_op {op : Operator} {r : R2} (ho : OpR X (binaryOp op) r) (ha : PE X a ta) (hb : PE X b tb) : PE X (.BinOp a op b pos) (tOp r ta tb) := by
  intro pins s σ H Q I h
  exact wpAny_BinOp (binT ha hb I h fun v u s2 x y H2 I2 rx ry q => ho pins s2 σ H2 x y v u Q I2 rx ry q)
theorem pe_un {op : UnaryOp} {r : V → Hp → VK → Prop} (ho : UnR X (unaryOp op) r) (ha : PE X a ta) : PE X (.UnaryOp op a pos) (tUn r ta) := by
  intro pins s σ H Q I h
  exact UnaryOp_ (thn (ha pins s σ H _ I h) fun v s1 ⟨x, H1, I1, r1, q1⟩ => ho pins s1 σ H1 x v Q I1 r1 q1)

/-! ### ints -/
theorem opI {f : Value → Value → Sem Value} {C : Int → Int → Prop} {g : Int → Int → Int}
    (rule : ∀ (i j : Int) (t u : Tok) (s : Shared) (Q : Value → Shared → Prop) (E : Value → Shared → Prop), C i j → Q (.int (g i j) s.toks) { s with toks := s.toks + 1 } → wpAny (model X.prog X.w) X.A (f (.int i t) (.int j u)) Q E s) :
    OpR X f (rI C fun i j => .int (g i j)) := by
  intro pins s σ H x y v u Q I rx ry h
  obtain ⟨i, j, rfl, rfl, hc, q⟩ := h
  obtain ⟨t, rfl⟩ := rx
  obtain ⟨t', rfl⟩ := ry
  exact rule i j t t' s _ _ hc ⟨.int (g i j), H, I.tok _, ⟨_, rfl⟩, q⟩
theorem opI0 {f : Value → Value → Sem Value} {g : Int → Int → Int}
    (rule : ∀ (i j : Int) (t u : Tok) (s : Shared) (Q : Value → Shared → Prop) (E : Value → Shared → Prop), Q (.int (g i j) s.toks) { s with toks := s.toks + 1 } → wpAny (model X.prog X.w) X.A (f (.int i t) (.int j u)) Q E s) :
    OpR X f (rI0 fun i j => .int (g i j)) := by
  intro pins s σ H x y v u Q I rx ry h
  obtain ⟨i, j, rfl, rfl, q⟩ := h
  obtain ⟨t, rfl⟩ := rx
  obtain ⟨t', rfl⟩ := ry
  exact rule i j t t' s _ _ ⟨.int (g i j), H, I.tok _, ⟨_, rfl⟩, q⟩
theorem opB0 {f : Value → Value → Sem Value} {g : Int → Int → Bool}
    (rule : ∀ (i j : Int) (t u : Tok) (s : Shared) (Q : Value → Shared → Prop) (E : Value → Shared → Prop), Q (.bool (g i j)) s → wpAny (model X.prog X.w) X.A (f (.int i t) (.int j u)) Q E s) :
    OpR X f (rI0 fun i j => .bl (g i j)) := by
  intro pins s σ H x y v u Q I rx ry h
  obtain ⟨i, j, rfl, rfl, q⟩ := h
  obtain ⟨t, rfl⟩ := rx
  obtain ⟨t', rfl⟩ := ry
  exact rule i j t t' s _ _ ⟨.bl (g i j), H, I, rfl, q⟩

def CDiv (i j : Int) : Prop := 0 < j ∧ j < 1073741824
def CDivN (i j : Int) : Prop := j ≠ 0 ∧ j.natAbs < 1073741824
def CPow (i j : Int) : Prop := 0 ≤ j ∧ j ≤ 1000000 ∧ i.natAbs < 2 ^ 64
def CMul (i j : Int) : Prop := (-(2 ^ 64) < i ∧ i < 2 ^ 64) ∨ (-(2 ^ 64) < j ∧ j < 2 ^ 64)
theorem CMul.ok {i j : Int} (h : CMul i j) : IntMulOk i j := by
  rcases h with ⟨h1, h2⟩ | ⟨h1, h2⟩
  · exact .of_left (intBits_le_64 h1 h2)
  · exact .of_right (intBits_le_64 h1 h2)
theorem two_pow_nn (k : Nat) : (0 : Int) ≤ 2 ^ k := by
  rw [two_pow_cast]
  exact Int.natCast_nonneg _

theorem op_add : OpR X (binaryOp .Add) (rI0 fun i j => .int (i + j)) := opI0 fun _ _ _ _ _ _ _ q => add_int q
theorem op_sub : OpR X (binaryOp .Sub) (rI0 fun i j => .int (i - j)) := opI0 fun _ _ _ _ _ _ _ q => sub_int q
theorem op_mul : OpR X (binaryOp .Mult) (rI CMul fun i j => .int (i * j)) := opI fun _ _ _ _ _ _ _ hc q => mul_int q hc.ok
/-- // by a positive divisor -/
theorem op_fdiv : OpR X (binaryOp .FloorDiv) (rI CDiv fun i j => .int (i / j)) := opI fun i j _ _ _ _ _ hc q => by
  have h1 : (0 : Int) < j := hc.1
  have h2 : j < 1073741824 := hc.2
  exact floordiv_int (by omega) (by rw [Int.fdiv_eq_ediv_of_nonneg i (by omega)]; exact q) (.inl (PyProof.noPylong_small (by omega)))
/-- % by a positive divisor of any size -/
theorem op_mod : OpR X (binaryOp .Mod) (rI (fun _ j => 0 < j) fun i j => .int (i % j)) := opI fun i j _ _ _ _ _ hc q => by
  have h1 : (0 : Int) < j := hc
  exact mod_int' (by omega) (by rw [Int.fmod_eq_emod_of_nonneg i (by omega)]; exact q)
theorem op_shl : OpR X (binaryOp .LShift) (rI CPow fun i j => .int (i * 2 ^ j.toNat)) := opI fun _ _ _ _ _ _ _ hc q => lshift_int_small hc.1 hc.2.1 hc.2.2 q
theorem op_shr : OpR X (binaryOp .RShift) (rI (fun _ j => 0 ≤ j) fun i j => .int (i / 2 ^ j.toNat)) := opI fun i j _ _ _ _ _ hc q =>
  rshift_int hc (by rw [Int.fdiv_eq_ediv_of_nonneg i (two_pow_nn _)]; exact q)
theorem op_and : OpR X (binaryOp .BitAnd) (rI0 fun i j => .int (Builtin.bitAnd i j)) := opI0 fun _ _ _ _ _ _ _ q => and_int q
theorem op_or : OpR X (binaryOp .BitOr) (rI0 fun i j => .int (Builtin.bitOr i j)) := opI0 fun _ _ _ _ _ _ _ q => or_int q
theorem op_xor : OpR X (binaryOp .BitXor) (rI0 fun i j => .int (Builtin.bitXor i j)) := opI0 fun _ _ _ _ _ _ _ q => xor_int q


theorem unI {f : Value → Sem Value} {g : Int → Int}
    (rule : ∀ (i : Int) (t : Tok) (s : Shared) (Q : Value → Shared → Prop) (E : Value → Shared → Prop), Q (.int (g i) s.toks) { s with toks := s.toks + 1 } → wpAny (model X.prog X.w) X.A (f (.int i t)) Q E s) :
    UnR X f (rU fun i => .int (g i)) := by
  intro pins s σ H x v Q I rx h
  obtain ⟨i, rfl, q⟩ := h
  obtain ⟨t, rfl⟩ := rx
  exact rule i t s _ _ ⟨.int (g i), H, I.tok _, ⟨_, rfl⟩, q⟩
theorem un_inv : UnR X (unaryOp .Invert) (rU fun i => .int (Builtin.bitNot i)) := unI fun _ _ _ _ _ q => invert_int q

/-! ### bools among ints: n += (a < b) -/
end

/-! ### comparisons -/
/-- the scalars that == tells apart as data does -/
def scal : V → V → Bool
  | .non, .non => true | .non, .int _ => true | .int _, .non => true | .non, .bl _ => true | .bl _, .non => true | .non, .str _ => true | .str _, .non => true
  | .int _, .int _ => true | .bl _, .bl _ => true | .str _, .str _ => true | .byt _, .byt _ => true
  | .int _, .str _ => true | .str _, .int _ => true | .bl _, .str _ => true | .str _, .bl _ => true
  | _, _ => false
def rEq : R2 := fun x y H Q => scal x y = true ∧ Q (.bl (decide (x = y))) H
def rNe : R2 := fun x y H Q => scal x y = true ∧ Q (.bl (!decide (x = y))) H

theorem dec_int {i j : Int} : decide (V.int i = V.int j) = (i == j) := by
  rw [Bool.eq_iff_iff]
  simp
theorem dec_bl {i j : Bool} : decide (V.bl i = V.bl j) = (i == j) := by
  rw [Bool.eq_iff_iff]
  simp
theorem dec_str {i j : Str} : decide (V.str i = V.str j) = (i == j) := by
  rw [Bool.eq_iff_iff]
  simp
theorem dec_byt {i j : Array UInt8} : decide (V.byt i = V.byt j) = (i.toList == j.toList) := by
  rw [Bool.eq_iff_iff]
  cases i
  cases j
  simp

section
variable {X : Cx} {a b c : Expr} {ta tb tc : TE} {pos : Pos}
theorem fin_bl {pins : List (Addr × Obj)} {σ : St} {H : Hp} {s : Shared} {Q : VK} {k k' : Bool} (I : Inv X pins σ H s) (q : Q (.bl k) H) (e : k = k') : EP X pins σ Q (.bool k') s := by
  subst e
  exact ⟨.bl k, H, I, rfl, q⟩
theorem op_eq : OpR X (compareOp .Eq) rEq := by
  intro pins s σ H x y v u Q I rx ry h
  obtain ⟨hs, q⟩ := h
  cases x with
  | non =>
    cases rx
    cases y with
    | non => cases ry; exact PySem.EqNone.eq_none_none (fin_bl I q (by simp))
    | bl j => cases ry; exact PySem.EqNone.eq_none_bool (fin_bl I q (by simp))
    | int j => obtain ⟨t', rfl⟩ := ry; exact PySem.EqNone.eq_none_int (fin_bl I q (by simp))
    | str j => obtain ⟨t', rfl⟩ := ry; exact PySem.EqNone.eq_none_str (fin_bl I q (by simp))
    | _ => exact absurd (show false = true from hs) Bool.false_ne_true
  | bl i =>
    cases rx
    cases y with
    | non => cases ry; exact PySem.EqNone.eq_bool_none (fin_bl I q (by simp))
    | bl j => cases ry; exact eq_bool (fin_bl I q dec_bl)
    | str j => obtain ⟨t', rfl⟩ := ry; exact PySem.EqMixed.eq_bool_str (fin_bl I q (by simp))
    | _ => exact absurd (show false = true from hs) Bool.false_ne_true
  | int i =>
    obtain ⟨t, rfl⟩ := rx
    cases y with
    | non => cases ry; exact PySem.EqNone.eq_int_none (fin_bl I q (by simp))
    | int j => obtain ⟨t', rfl⟩ := ry; exact eq_int (fin_bl I q dec_int)
    | str j => obtain ⟨t', rfl⟩ := ry; exact PySem.EqMixed.eq_int_str (fin_bl I q (by simp))
    | _ => exact absurd (show false = true from hs) Bool.false_ne_true
  | str i =>
    obtain ⟨t, rfl⟩ := rx
    cases y with
    | non => cases ry; exact PySem.EqNone.eq_str_none (fin_bl I q (by simp))
    | bl j => cases ry; exact PySem.EqMixed.eq_str_bool (fin_bl I q (by simp))
    | int j => obtain ⟨t', rfl⟩ := ry; exact PySem.EqMixed.eq_str_int (fin_bl I q (by simp))
    | str j => obtain ⟨t', rfl⟩ := ry; exact eq_str (fin_bl I q dec_str)
    | _ => exact absurd (show false = true from hs) Bool.false_ne_true
  | byt i =>
    obtain ⟨t, rfl⟩ := rx
    cases y with
    | byt j => obtain ⟨t', rfl⟩ := ry; exact PySem.W.eq_bytes (fin_bl I q dec_byt)
    | _ => exact absurd (show false = true from hs) Bool.false_ne_true
  | _ => cases y <;> exact absurd (show false = true from hs) Bool.false_ne_true
theorem op_ne : OpR X (compareOp .NotEq) rNe := by
  intro pins s σ H x y v u Q I rx ry h
  obtain ⟨hs, q⟩ := h
  cases x with
  | non =>
    cases rx
    cases y with
    | non => cases ry; exact PySem.EqNone.ne_none_none (fin_bl I q (by simp))
    | bl j => cases ry; exact PySem.EqNone.ne_none_bool (fin_bl I q (by simp))
    | int j => obtain ⟨t', rfl⟩ := ry; exact PySem.EqNone.ne_none_int (fin_bl I q (by simp))
    | str j => obtain ⟨t', rfl⟩ := ry; exact PySem.EqNone.ne_none_str (fin_bl I q (by simp))
    | _ => exact absurd (show false = true from hs) Bool.false_ne_true
  | bl i =>
    cases rx
    cases y with
    | non => cases ry; exact PySem.EqNone.ne_bool_none (fin_bl I q (by simp))
    | bl j => cases ry; exact ne_bool (fin_bl I q (congrArg not dec_bl))
    | str j => obtain ⟨t', rfl⟩ := ry; exact PySem.EqMixed.ne_bool_str (fin_bl I q (by simp))
    | _ => exact absurd (show false = true from hs) Bool.false_ne_true
  | int i =>
    obtain ⟨t, rfl⟩ := rx
    cases y with
    | non => cases ry; exact PySem.EqNone.ne_int_none (fin_bl I q (by simp))
    | int j => obtain ⟨t', rfl⟩ := ry; exact ne_int (fin_bl I q (congrArg not dec_int))
    | str j => obtain ⟨t', rfl⟩ := ry; exact PySem.EqMixed.ne_int_str (fin_bl I q (by simp))
    | _ => exact absurd (show false = true from hs) Bool.false_ne_true
  | str i =>
    obtain ⟨t, rfl⟩ := rx
    cases y with
    | non => cases ry; exact PySem.EqNone.ne_str_none (fin_bl I q (by simp))
    | bl j => cases ry; exact PySem.EqMixed.ne_str_bool (fin_bl I q (by simp))
    | int j => obtain ⟨t', rfl⟩ := ry; exact PySem.EqMixed.ne_str_int (fin_bl I q (by simp))
    | str j => obtain ⟨t', rfl⟩ := ry; exact ne_str (fin_bl I q (congrArg not dec_str))
    | _ => exact absurd (show false = true from hs) Bool.false_ne_true
  | byt i =>
    obtain ⟨t, rfl⟩ := rx
    cases y with
    | byt j => obtain ⟨t', rfl⟩ := ry; exact PySem.W.ne_bytes (fin_bl I q (congrArg not dec_byt))
    | _ => exact absurd (show false = true from hs) Bool.false_ne_true
  | _ => cases y <;> exact absurd (show false = true from hs) Bool.false_ne_true

theorem op_lt : OpR X (compareOp .Lt) (rI0 fun i j => .bl (decide (i < j))) := opB0 fun _ _ _ _ _ _ _ q => lt_int q
theorem op_gt : OpR X (compareOp .Gt) (rI0 fun i j => .bl (decide (j < i))) := opB0 fun _ _ _ _ _ _ _ q => gt_int q
theorem op_ge : OpR X (compareOp .GtE) (rI0 fun i j => .bl (decide (j ≤ i))) := opB0 fun _ _ _ _ _ _ _ q => ge_int q


/-- is, is not of two objects that are tracked lists or instances -/
def isObj : HO → Bool
  | .lst _ => true
  | .ins _ _ _ => true
  | _ => false


theorem nomark (b : Expr) {op : CmpOp} (h : op ≠ .In := by decide) (h2 : op ≠ .NotIn := by decide) : behindInMarks op b = false := by
  have e1 : (op == CmpOp.In) = false := by cases op <;> first | rfl | exact absurd rfl h
  have e2 : (op == CmpOp.NotIn) = false := by cases op <;> first | rfl | exact absurd rfl h2
  cases b <;> simp [behindInMarks, e1, e2]
/-- a comparison as a value; hm: nomark b, or (for in, not in) by with_unfolding_all rfl -/
theorem pe_cmpR {op : CmpOp} {r : R2} (ho : OpR X (compareOp op) r) (ha : PE X a ta) (hb : PE X b tb) (hm : behindInMarks op b = false) : PE X (.Compare a [op] [b] pos) (tOp r ta tb) := by
  intro pins s σ H Q I h
  exact wpAny_Compare1 (binT ha hb I h fun v u s2 x y H2 I2 rx ry q => ho pins s2 σ H2 x y v u Q I2 rx ry q) hm
/-- a reading of a value as a test -/
def tTest (t : TE) : TT := fun σ H Q => t σ H fun x H' => ∃ k, x = .bl k ∧ Q k H'
theorem pt_cmpR {op : CmpOp} {r : R2} (ho : OpR X (compareOp op) r) (ha : PE X a ta) (hb : PE X b tb) (hm : behindInMarks op b = false) : PT X (.Compare a [op] [b] pos) (tTest (tOp r ta tb)) := by
  intro pins s σ H Q I h
  refine wpAny_isTrue_Compare1 (thn (ha pins s σ H _ I h) fun v s1 ⟨x, H1, I1, r1, q1⟩ => thn (hb pins s1 σ H1 _ I1 q1) fun u s2 ⟨y, H2, I2, r2, q2⟩ =>
    thn (ho pins s2 σ H2 x y v u _ I2 r1 r2 q2) fun c s3 ⟨z, H3, I3, r3, k, e, q3⟩ => ?_) hm
  subst e
  cases r3
  exact wpAny_truthy_bool ⟨H3, I3, q3⟩
/-- a op1 b op2 c -/
def tChain (r r' : R2) (ta tb tc : TE) : TE := fun σ H Q => ta σ H fun x H1 => tb σ H1 fun y H2 => r x y H2 fun z H3 => ∃ k, z = .bl k ∧
  (if k = true then tc σ H3 fun w' H4 => r' y w' H4 Q else Q (.bl false) H3)

/-! ### truth -/
/-- a value's truth by the abstract heap -/
def TruV (K : PySem.W.Frag) (x : V) (H : Hp) (k : Bool) : Prop :=
  match x with
  | .non => k = false
  | .bl b => k = b
  | .int i => k = (i != 0)
  | .str y => y.length ≤ sizeLine ∧ k = ((y.length : Int) != 0)
  | .byt y => y.size ≤ sizeLine ∧ k = ((y.size : Int) != 0)
  | .ref p => (∃ xs, SqL K H p xs ∧ k = !xs.isEmpty) ∨ (∃ xs, SqT K H p xs ∧ k = !xs.isEmpty) ∨ ∃ kvs, H p = some (.dK kvs) ∧ k = !kvs.isEmpty
  | _ => False
theorem line63 : (sizeLine : Nat) < 2 ^ 63 := by rw [sizeLine_eq]; decide

/-! ### strs and bytes -/

def PlainIxT (b : Expr) : Prop := ∀ o i, subscripted b false o i = operate [o, i] (getItem o i)

/-! ### scalar builtins, by CallR -/
theorem vals1 {x : V} {us : List Value} (r : Vals [x] us) : ∃ u, us = [u] ∧ RelV x u := by
  cases r with
  | cons r1 r2 => cases r2; exact ⟨_, rfl, r1⟩
theorem vals2 {x y : V} {us : List Value} (r : Vals [x, y] us) : ∃ u w', us = [u, w'] ∧ RelV x u ∧ RelV y w' := by
  cases r with
  | cons r1 r2 =>
    cases r2 with
    | cons r3 r4 => cases r4; exact ⟨_, _, rfl, r1, r3⟩
theorem call_max2 (hc : X.calm = true) : CallR X (.builtin "max") (fun xs H Q => ∃ i j, xs = [.int i, .int j] ∧ Q (.int (if j > i then j else i)) H) := by
  intro pins s σ H xs us Q I r h
  obtain ⟨i, j, rfl, q⟩ := h
  obtain ⟨u, w', rfl, ⟨t, rfl⟩, ⟨t', rfl⟩⟩ := vals2 r
  refine max_two_ints (I.ok.hd hc) fun h' tk k => ⟨_, H, I.kept k, ?_, q⟩
  by_cases hj : j > i
  · rw [if_pos hj, if_pos hj]; exact ⟨_, rfl⟩
  · rw [if_neg hj, if_neg hj]; exact ⟨_, rfl⟩
theorem call_min2 (hc : X.calm = true) : CallR X (.builtin "min") (fun xs H Q => ∃ i j, xs = [.int i, .int j] ∧ Q (.int (if j < i then j else i)) H) := by
  intro pins s σ H xs us Q I r h
  obtain ⟨i, j, rfl, q⟩ := h
  obtain ⟨u, w', rfl, ⟨t, rfl⟩, ⟨t', rfl⟩⟩ := vals2 r
  refine min_two_ints (I.ok.hd hc) fun h' tk k => ⟨_, H, I.kept k, ?_, q⟩
  by_cases hj : j < i
  · rw [if_pos hj, if_pos hj]; exact ⟨_, rfl⟩
  · rw [if_neg hj, if_neg hj]; exact ⟨_, rfl⟩
/-- len of a str, a bytes, a list, a tuple -/
def LenV (K : PySem.W.Frag) (x : V) (H : Hp) (n : Nat) : Prop :=
  match x with
  | .str y => y.length ≤ sizeLine ∧ n = y.length
  | .byt y => y.size ≤ sizeLine ∧ n = y.size
  | .ref p => (∃ xs, SqL K H p xs ∧ n = xs.length) ∨ ∃ xs, SqT K H p xs ∧ n = xs.length
  | _ => False
end
end L2

namespace L2
open PySem PySem.Spec PyProof.Rows

/-! ### an instance, its attributes a map -/
structure ObjM (h : Heap) (x dx C : Addr) (mA : Str → Option Value) : Prop where
  obj : h.get? x = some (PySem.W.instObj C dx)
  ns : h.Ns1 dx mA
  ne : dx ≠ x

theorem lookIn_ns {h : Heap} {dx : Addr} {mA : Str → Option Value} (n : h.Ns1 dx mA) : ∃ od, h.get? dx = some od ∧ ∀ name, PySem.W.lookIn name od = some (mA name) := by
  obtain ⟨o, es, ep, ho, hd, hk, _, hm⟩ := n
  refine ⟨o, ho, fun name => ?_⟩
  have e := hm name
  unfold nsFind findBy at e
  rw [← Array.find?_toList] at e
  unfold PySem.W.lookIn
  rw [hd]
  dsimp only
  split
  · rename_i y q
    rw [q] at e
    exact congrArg some e
  · rename_i q
    rw [q] at e
    have a : es.toList.any (·.refKey) = false := by
      rw [List.any_eq_false]
      intro y hy
      obtain ⟨z, t, hkey⟩ := hk y (Array.mem_toList_iff.mp hy)
      simp [DictEntry.refKey, hkey]
    have a' : ¬ es.toList.any (·.refKey) = true := by rw [a]; exact Bool.false_ne_true
    rw [if_neg a']
    exact congrArg some e

theorem ObjM.look {h : Heap} {x dx C : Addr} {mA : Str → Option Value} (I : ObjM h x dx C mA) : ∃ od, PySem.W.InstAt h x (PySem.W.instObj C dx) C (some od) ∧ ∀ name, PySem.W.lookIn name od = some (mA name) :=
  let ⟨od, ho, hl⟩ := lookIn_ns I.ns
  ⟨od, ⟨I.obj, rfl, rfl, ho⟩, hl⟩

section
variable {prog : Program} {w : World} {A : Around} {E : Value → Shared → Prop} {s : Shared} {K : PySem.W.Frag} {x dx C f : Addr} {mA : Str → Option Value} {name : Str} {v : Value}

theorem get_map {expr : Bool} {Q : Value → Shared → Prop} (X : K.In s.heap) (I : ObjM s.heap x dx C mA) (hg : PySem.W.plainGet K C name = true) (hh : PySem.W.hasDictIn K C = true)
    (ha : PySem.W.findIn K (.ref C) name = some none) (hv : mA name = some v) (hv' : PySem.W.handedIn v = true) (h : Q v { s with toks := s.toks + 1 }) :
    wpAny (model prog w) A (getAttr (.ref x) name expr) Q E s := by
  obtain ⟨od, J, hl⟩ := I.look
  exact PySem.W.get_value X J (PySem.W.plainGet_of hg).1 (PySem.W.findObj_own hh ha rfl (by rw [hl, hv])) hv' h



theorem set_map {ns : List Str} {Q : Unit → Shared → Prop} (X : K.In s.heap) (I : ObjM s.heap x dx C mA)
    (hs : PySem.W.findIn K (.ref C) "__setattr__" = some (some (.builtin "object.__setattr__"))) (hp : PySem.W.plainOver K C = true) (ht : PySem.W.takerIn K C name = some none) (hh : PySem.W.hasDictIn K C = true)
    (hw : PySem.Within mA ns) (hsz : ns.length ≤ sizeLine)
    (h : ∀ h', ObjM h' x dx C (fun y => if y = name then some v else mA y) → Heap.SameBut dx s.heap h' → Q () { s with heap := h', toks := s.toks + 2 }) :
    wpAny (model prog w) A (setAttr (.ref x) name v) Q E s := by
  obtain ⟨od, J, hl⟩ := I.look
  refine PySem.W.set_plain X J hs (PySem.W.osa_open (s := { s with toks := s.toks + 1 }) (r := none) X J hp ht fun b => ?_)
  obtain ⟨cd, hc, hd'⟩ := PySem.W.any_some hh
  have hx : s.heap.get? x = some ⟨.ref C, some dx, .plain, #[]⟩ := I.obj
  refine wpAny_bind (wpAny_pure (wpAny_bind (wpAny_bind (wpAny_loadPart hx (wpAny_bind (PySem.W.Looks.here (s := { s with toks := s.toks + 1 }) (PySem.W.looks_clsIn X hc) ?_))))))
  rw [hd']
  refine wpAny_pure (a := some dx) (wpAny_bind (wpAny_pure (wpAny_bind ?_)))
  refine wpAny_nsSet1 (s := { s with toks := s.toks + 1 }) I.ns fun h' hn2 hs2 => ?_
  obtain ⟨oD, esD, epD, hoD, hdD, hcD⟩ := hn2.count (PySem.Within.cons name v hw)
  refine wpAny_bind (wpAny_lookBehind hoD (by rw [hdD]; exact pastItsLine_dict (Nat.le_trans hcD (by rw [List.length_cons]; omega))) ?_)
  exact wpAny_pure (h _ ⟨(hs2.2 _ (Ne.symm I.ne)).trans I.obj, hn2, I.ne⟩ hs2)

/-- C(..): the dict at the heap's end, the instance behind it; then its __init__ -/
theorem make_map {R : Result → Shared → Prop} {vs : List Value} {kw : List (Str × Value)} (X : K.In s.heap) (hm : PySem.W.makesIn K C = true)
    (hi : PySem.W.findIn K (.ref C) "__init__" = some (some (.ref f))) (hf : PySem.W.typeIn K (.ref f) = some (.type "function"))
    (h : codeAny (model prog w) (A.under (.builtin "type.__call__" ⟨.ref C :: vs, kw⟩)) (.call (.ref f) ⟨.ref (s.heap.objs.size + 1) :: vs, kw⟩) (PySem.W.InitBack (s.heap.objs.size + 1) R)
      { s with heap := (s.heap.push PySem.W.emptyDict).push (PySem.W.instObj C s.heap.objs.size) }) :
    codeAny (model prog w) A (.call (.ref C) ⟨vs, kw⟩) R s := by
  obtain ⟨hh, g, d, t, os⟩ := s
  exact PySem.W.make_core (PySem.W.makes_of X hm) (PySem.W.looks_findIn X hi) (fun self => PySem.W.bind_fn X self hf) (.inl rfl) h
end

/-! ### the attributes as a list of pairs -/
def putF (f : Str) (v : V) : List (Str × V) → List (Str × V)
  | [] => [(f, v)]
  | (g, x) :: r => if g = f then (g, v) :: r else (g, x) :: putF f v r
theorem lookup_putF (f g : Str) (v : V) : ∀ fs : List (Str × V), (putF f v fs).lookup g = if g = f then some v else fs.lookup g
  | [] => by
    show List.lookup g [(f, v)] = _
    by_cases h : g = f
    · have hb : (g == f) = true := beq_iff_eq.mpr h
      simp only [List.lookup, hb, if_pos h]
    · have hb : (g == f) = false := beq_eq_false_iff_ne.mpr h
      simp only [List.lookup, hb, if_neg h]
  | (k, x) :: r => by
    have ih := lookup_putF f g v r
    rw [show putF f v ((k, x) :: r) = (if k = f then (k, v) :: r else (k, x) :: putF f v r) from rfl]
    by_cases hk : k = f
    · rw [if_pos hk]
      by_cases h : g = k
      · have hb : (g == k) = true := beq_iff_eq.mpr h
        simp only [List.lookup, hb, if_pos (h.trans hk)]
      · have hb : (g == k) = false := beq_eq_false_iff_ne.mpr h
        simp only [List.lookup, hb, if_neg (fun e : g = f => h (e.trans hk.symm))]
    · rw [if_neg hk]
      by_cases h : g = k
      · have hb : (g == k) = true := beq_iff_eq.mpr h
        simp only [List.lookup, hb, if_neg (fun e : g = f => hk (h.symm.trans e))]
      · have hb : (g == k) = false := beq_eq_false_iff_ne.mpr h
        simp only [List.lookup, hb]
        exact ih
theorem keys_putF (f : Str) (v : V) : ∀ fs : List (Str × V), f ∈ (putF f v fs).map (·.1) ∧ ∀ g, g ∈ fs.map (·.1) → g ∈ (putF f v fs).map (·.1)
  | [] => ⟨by simp [putF], fun g h => by simp at h⟩
  | (k, x) :: r => by
    obtain ⟨i1, i2⟩ := keys_putF f v r
    rw [show putF f v ((k, x) :: r) = (if k = f then (k, v) :: r else (k, x) :: putF f v r) from rfl]
    by_cases hk : k = f
    · rw [if_pos hk]
      subst hk
      exact ⟨by simp, fun g h => by simpa using h⟩
    · rw [if_neg hk]
      refine ⟨?_, fun g h => ?_⟩
      · rw [List.map_cons]
        exact List.mem_cons_of_mem _ i1
      · rw [List.map_cons] at h ⊢
        rcases List.mem_cons.mp h with e | e
        · exact List.mem_cons.mpr (.inl e)
        · exact List.mem_cons_of_mem _ (i2 g e)
theorem length_putF (f : Str) (v : V) : ∀ fs : List (Str × V), (putF f v fs).length ≤ fs.length + 1
  | [] => by simp [putF]
  | (k, x) :: r => by
    have ih := length_putF f v r
    rw [show putF f v ((k, x) :: r) = (if k = f then (k, v) :: r else (k, x) :: putF f v r) from rfl]
    by_cases hk : k = f
    · rw [if_pos hk, List.length_cons, List.length_cons]; omega
    · rw [if_neg hk, List.length_cons, List.length_cons]; omega

theorem RelO.some_of {v : V} {o : Option Value} (r : RelO (some v) o) : ∃ u, o = some u ∧ RelV v u := by
  cases o with
  | none => exact (show False from r).elim
  | some u => exact ⟨u, rfl, r⟩
theorem handed_of {v : V} {u : Value} (r : RelV v u) : PySem.W.handedIn u = true := by
  cases v with
  | non => cases (show u = Value.none from r); rfl
  | bl b => cases (show u = Value.bool b from r); rfl
  | int i => obtain ⟨t, e⟩ := (show ∃ t, u = Value.int i t from r); cases e; rfl
  | str x => obtain ⟨t, e⟩ := (show ∃ t, u = Value.str x t from r); cases e; rfl
  | byt b => obtain ⟨t, e⟩ := (show ∃ t, u = Value.bytes b t from r); cases e; rfl
  | flt b => obtain ⟨t, e⟩ := (show ∃ t, u = Value.float b t from r); cases e; rfl
  | ref a => cases (show u = Value.ref a from r); rfl
  | ty n => cases (show u = Value.type n from r); rfl

section
variable {P : Program} {w : World} {H H' : Hp} {h h' : Heap} {a C dx : Addr} {fs fs' : List (Str × V)}
theorem ins_get (hok : HOk P w H h) (e : H a = some (.ins C dx fs)) : ∃ mA, ObjM h a dx C mA ∧ (∀ f, RelO (fs.lookup f) (mA f)) ∧ PySem.Within mA (fs.map (·.1)) ∧ fs.length ≤ 1000 ∧ H dx = some (.own a) := by
  obtain ⟨d, z, ne, ob, mA, n, r, q⟩ := (show ObjOk P w H h a (.ins C dx fs) from hok a _ e)
  exact ⟨mA, ⟨ob, n, ne⟩, r, q, z, d⟩
end

/-! ### what of the text a class must have -/
structure Cls (K : PySem.W.Frag) (C : Addr) : Prop where
  pg : PySem.W.plainGet K C Str.empty = true
  hd : PySem.W.hasDictIn K C = true
  po : PySem.W.plainOver K C = true
  sa : PySem.W.findIn K (.ref C) "__setattr__" = some (some (.builtin "object.__setattr__"))
theorem Cls.get {K : PySem.W.Frag} {C : Addr} (c : Cls K C) (f : Str) : PySem.W.plainGet K C f = true := c.pg
/-- no class of it has the name -/
def NoAttr (K : PySem.W.Frag) (C : Addr) (f : Str) : Prop := PySem.W.findIn K (.ref C) f = some none
theorem NoAttr.taker {K : PySem.W.Frag} {C : Addr} {f : Str} (n : NoAttr K C f) : PySem.W.takerIn K C f = some none := by
  unfold PySem.W.takerIn
  rw [show PySem.W.findIn K (.ref C) f = some none from n]
  rfl
/-- a constant of the class -/
structure Con (K : PySem.W.Frag) (C : Addr) (f : Str) (v : V) (u : Value) : Prop where
  at_ : PySem.W.findIn K (.ref C) f = some (some u)
  rel : RelV v u
  get : PySem.W.specialIn K u "__get__" = some none
  cp : PySem.W.copiedNames.contains f = false
/-- a method: a plain def of the class or of one above it -/
structure Meth (K : PySem.W.Frag) (C : Addr) (m : Str) (f : Addr) : Prop where
  at_ : PySem.W.findIn K (.ref C) m = some (some (.ref f))
  fn : PySem.W.isFn K (.ref f) = true
  kp : PySem.W.keepIn K (.ref f) = true

section
variable {X : Cx} {pins : List (Addr × Obj)} {σ : St} {H : Hp} {s : Shared} {a C dx : Addr} {fs : List (Str × V)} {f : Str} {v : V} {A : Around} {E : Value → Shared → Prop}

theorem getattr_ok {b : Bool} {Q : Value → Shared → Prop} (I : Inv X pins σ H s) (e : H a = some (.ins C dx fs)) (c : Cls X.K C) (n : NoAttr X.K C f) (l : fs.lookup f = some v)
    (h : ∀ u s', Inv X pins σ H s' → RelV v u → Q u s') : wpAny (model X.prog X.w) A (getAttr (.ref a) f b) Q E s := by
  obtain ⟨mA, O, r, _, _, _⟩ := ins_get I.hok e
  obtain ⟨u, hu, ru⟩ := RelO.some_of (v := v) (o := mA f) (by rw [← l]; exact r f)
  exact get_map I.kIn O (c.get f) c.hd n hu (handed_of ru) (h u _ (I.tok _) ru)



theorem setattr_ok {y : V} {u : Value} {Q : Unit → Shared → Prop} (I : Inv X pins σ H s) (e : H a = some (.ins C dx fs)) (c : Cls X.K C) (n : NoAttr X.K C f) (hl : fs.length < 1000) (ry : RelV y u)
    (h : ∀ s', Inv X pins σ (upd H a (.ins C dx (putF f y fs))) s' → Q () s') : wpAny (model X.prog X.w) A (setAttr (.ref a) f u) Q E s := by
  obtain ⟨mA, O, r, wi, _, ho⟩ := ins_get I.hok e
  have hz : (fs.map (·.1)).length ≤ sizeLine := by rw [List.length_map, sizeLine_eq]; omega
  refine set_map I.kIn O c.sa c.po n.taker c.hd wi hz fun h' O' sb => h _ ?_
  have hd : ∃ o, h'.get? dx = some o := let ⟨o, _, _, e', _⟩ := O'.ns; ⟨o, e'⟩
  refine I.write (x := a) (e := dx) (by rw [e]; exact True.intro) (.inr ho) (fun b q hb z => (sb.2 b hb).trans z) hd ?_
  refine ⟨by rw [upd_ne O.ne]; exact ho, ?_, O.ne, O'.obj, _, O'.ns, fun g => ?_, fun g hg => ?_⟩
  · have := length_putF f y fs; omega
  · show RelO ((putF f y fs).lookup g) (if g = f then some u else mA g)
    rw [lookup_putF]
    by_cases q : g = f
    · rw [if_pos q, if_pos q]; exact ry
    · rw [if_neg q, if_neg q]; exact r g
  · by_cases q : g = f
    · rw [q]; exact (keys_putF f y fs).1
    · refine (keys_putF f y fs).2 g (wi g fun z => hg ?_)
      show (if g = f then some u else mA g) = none
      rw [if_neg q]; exact z

/-- a new instance, tracked, without attributes -/
theorem Inv.made (I : Inv X pins σ H s) : Inv X pins σ (upd (upd H s.heap.objs.size (.own (s.heap.objs.size + 1))) (s.heap.objs.size + 1) (.ins C s.heap.objs.size []))
    { s with heap := (s.heap.push PySem.W.emptyDict).push (PySem.W.instObj C s.heap.objs.size) } := by
  have e1 : (s.heap.push PySem.W.emptyDict).get? s.heap.objs.size = some PySem.W.emptyDict := Heap.get?_push_size s.heap rfl
  have e2 : ((s.heap.push PySem.W.emptyDict).push (PySem.W.instObj C s.heap.objs.size)).get? (s.heap.objs.size + 1) = some (PySem.W.instObj C s.heap.objs.size) := by
    have := Heap.get?_push_size (s.heap.push PySem.W.emptyDict) (o := PySem.W.instObj C s.heap.objs.size) rfl
    rwa [Heap.size_push] at this
  have e3 : (s.heap.push PySem.W.emptyDict).Ns s.heap.objs.size (fun _ => none) := ⟨PySem.W.emptyDict, #[], _, e1, rfl, (fun e he => absurd he (by simp)), fun _ => rfl⟩
  have I1 := I.laid (a := s.heap.objs.size) (o := .own (s.heap.objs.size + 1)) (h' := s.heap.push PySem.W.emptyDict) (t' := s.toks) (fun b u q => Heap.get?_push_of_some _ q) (Nat.le_refl _) ⟨_, e1⟩
  refine I1.laid (a := s.heap.objs.size + 1) (o := .ins C s.heap.objs.size []) (t' := s.toks) (fun b u q => Heap.get?_push_of_some _ q) (Nat.le_of_eq (Heap.size_push _ _)) ?_
  have ne : s.heap.objs.size ≠ s.heap.objs.size + 1 := Nat.ne_of_lt (Nat.lt_succ_self _)
  refine ⟨by rw [upd_ne ne, upd_same], Nat.zero_le _, ne, e2, fun _ => none, (Heap.Ns1.of_empty e3).at fun o q => Heap.get?_push_of_some _ q, fun _ => True.intro, fun y hy => absurd rfl hy⟩

/-- e.f where nothing but the object is asked: through attributeBase (super) and the last hold -/
theorem attr_of {prog : Program} {w : World} {env : Env} {e : Expr} {f : Str} {pos : Pos} {s : Shared} {Q : Value → Shared → Prop} (hb : attributeBase e f env (eval e env) = eval e env)
    (h : wpAny (model prog w) A (eval e env) (fun o s₁ => wpAny (model prog w) A (getAttr o f true) Q E s₁) E s) : wpAny (model prog w) A (eval (.Attribute e f pos) env) Q E s :=
  Attribute_any_ h (by rw [arm_eval_Attribute, hb])
end

/-! ### readings and rules -/
/-- e.f, an attribute of the instance -/
def tFld (K : PySem.W.Frag) (ta : TE) (f : Str) : TE := fun σ H Q => ta σ H fun x H1 => ∃ a C dx fs v, x = .ref a ∧ H1 a = some (.ins C dx fs) ∧ Cls K C ∧ NoAttr K C f ∧ fs.lookup f = some v ∧ Q v H1
/-- e.f, a constant of the class -/
def tCon (K : PySem.W.Frag) (ta : TE) (f : Str) : TE := fun σ H Q => ta σ H fun x H1 => ∃ a C dx fs v u, x = .ref a ∧ H1 a = some (.ins C dx fs) ∧ Cls K C ∧ Con K C f v u ∧ fs.lookup f = none ∧ Q v H1
/-- e.f = value -/
def sFld (K : PySem.W.Frag) (ta tv : TE) (f : Str) : TS := fun D σ H => tv σ H fun y H1 => ta σ H1 fun x H2 => ∃ a C dx fs, x = .ref a ∧ H2 a = some (.ins C dx fs) ∧ Cls K C ∧ NoAttr K C f ∧ fs.length < 1000 ∧
  D.nx σ (upd H2 a (.ins C dx (putF f y fs)))
/-- an augmented operator on two values -/
def InOp (X : Cx) (op : Operator) (rd : V → V → Hp → VK → Prop) : Prop :=
  ∀ (pins : List (Addr × Obj)) (s : Shared) (σ : St) (H : Hp) (x y : V) (u v : Value) (Q : VK), Inv X pins σ H s → RelV x u → RelV y v → rd x y H Q → wpAny (model X.prog X.w) X.A (inplaceOp op u v) (EP X pins σ Q) X.xe s
/-- e.f op= value -/
def sFldAug (K : PySem.W.Frag) (ta tv : TE) (rd : V → V → Hp → VK → Prop) (f : Str) : TS := fun D σ H => ta σ H fun x H1 => ∃ a C dx fs v, x = .ref a ∧ H1 a = some (.ins C dx fs) ∧ Cls K C ∧ NoAttr K C f ∧ fs.lookup f = some v ∧
  tv σ H1 fun y H2 => rd v y H2 fun z H3 => ∃ dx' fs', H3 a = some (.ins C dx' fs') ∧ fs'.length < 1000 ∧ D.nx σ (upd H3 a (.ins C dx' (putF f z fs')))

section
variable {X : Cx} {o e value : Expr} {f : Str} {pos pos' tpos : Pos} {ta tv : TE}
theorem pe_fld (he : PE X e ta) (hb : attributeBase e f X.env (eval e X.env) = eval e X.env) : PE X (.Attribute e f pos) (tFld X.K ta f) := by
  intro pins s σ H Q I h
  refine attr_of hb (thn (he pins s σ H _ I h) fun u s1 ⟨x, H1, I1, rx, a, C, dx, fs, v, ex, ea, c, n, l, q⟩ => ?_)
  subst ex
  obtain rfl : u = Value.ref a := rx
  exact getattr_ok I1 ea c n l fun u' s2 I2 ru => ⟨v, H1, I2, ru, q⟩
theorem ps_fld (ha : PE X o ta) (hv : PE X value tv) (hs : swapsWith value (some (.Attribute o f pos')) pos.line X.env = pure false) : PS X (.Assign [.Attribute o f pos'] value pos) (sFld X.K ta tv f) := by
  intro pins s σ H D I h
  refine plainObj_wpAny_Assign_Attribute (thn (hv pins s σ H _ I h) fun u s1 ⟨y, H1, I1, ry, q⟩ => thn (ha pins s1 σ H1 _ I1 q) fun ov s2 ⟨x, H2, I2, rx, a, C, dx, fs, ex, ea, c, n, l, q2⟩ => ?_) hs
  subst ex
  obtain rfl : ov = Value.ref a := rx
  exact setattr_ok I2 ea c n l ry fun s3 I3 => ⟨σ, _, I3, q2⟩
def rAdd : V → V → Hp → VK → Prop := fun x y H Q => ∃ i j, x = .int i ∧ y = .int j ∧ Q (.int (i + j)) H
def rSub : V → V → Hp → VK → Prop := fun x y H Q => ∃ i j, x = .int i ∧ y = .int j ∧ Q (.int (i - j)) H

end

/-! ### isinstance -/
section
variable {X : Cx} {pins : List (Addr × Obj)} {σ : St} {H : Hp} {s : Shared} {A : Around} {E : Value → Shared → Prop} {Q : Value → Shared → Prop} {c : Value} {b : Bool}
/-- the type of a value, as the fragment's deciders take it; for an instance its class -/
inductive TyOf (K : PySem.W.Frag) (H : Hp) : V → Value → Prop where
  | non : TyOf K H .non (.type "NoneType")
  | bl (x : Bool) : TyOf K H (.bl x) (.type "bool")
  | int (i : Int) : TyOf K H (.int i) (.type "int")
  | str (x : Str) : TyOf K H (.str x) (.type "str")
  | flt (x : UInt64) : TyOf K H (.flt x) (.type "float")
  | lst {a : Addr} {xs : List V} (e : H a = some (.lst xs)) : TyOf K H (.ref a) (.type "list")
  | frz {a : Addr} {o : Obj} {xs : List V} (e : H a = some (.frz o (.lst xs))) : TyOf K H (.ref a) (.type "list")
  | tup {a : Addr} {xs : List V} (e : H a = some (.tup xs)) : TyOf K H (.ref a) (.type "tuple")
  | dK {a : Addr} {kvs : List (Key × V)} (e : H a = some (.dK kvs)) : TyOf K H (.ref a) (.type "dict")
  | dT {a : Addr} {kvs : List (List Key × V)} (e : H a = some (.dT kvs)) : TyOf K H (.ref a) (.type "dict")
  | ins {a C dx : Addr} {fs : List (Str × V)} (e : H a = some (.ins C dx fs)) (cl : Cls K C) (ha : PySem.W.findIn K (.ref C) "__class__" = some (some (.builtin "object.__class__")))
      (hn : PySem.W.specialIn K (.builtin "object.__class__") "__get__" = some (some (.builtin "getset_descriptor.__get__"))) (htk : PySem.W.takesIn K (.builtin "object.__class__") = some true)
      (hm : PySem.W.mroIn K C (.type "object") = some true) : TyOf K H (.ref a) (.ref C)
end
end L2

namespace L2
open PySem PySem.Spec PyProof.Rows

/-! ### room -/
structure Room (k : Nat) (A : Around) : Prop where
  hd : A.handled = none
  dp : A.depth + 3 * k + 5 < recursionLimit
  un : A.units + 16 * k + 200 < cLine
theorem Room.mono {j k : Nat} {A : Around} (r : Room k A) (h : j ≤ k) : Room j A := ⟨r.hd, by have := r.dp; omega, by have := r.un; omega⟩
theorem Room.deeper {k : Nat} {A : Around} (r : Room (k + 1) A) (env : Env) : Room k (A.deeper env) :=
  ⟨r.hd, by have := r.dp; show A.depth + 1 + 3 * k + 5 < _; omega, by have := r.un; show A.units + 3 + 16 * k + 200 < _; omega⟩
theorem make_depth {A : Around} {C : Addr} {us : List Value} {kw : List (Str × Value)} : (A.under (.builtin "type.__call__" ⟨.ref C :: us, kw⟩)).depth = A.depth + 1 := by
  first | rfl | simp [Around.under, Code.weight, Code.isCreation, Code.isGuard, Code.isCaller, Code.frames, Code.isFrame, guardIds]
theorem make_units {A : Around} {C : Addr} {us : List Value} {kw : List (Str × Value)} : (A.under (.builtin "type.__call__" ⟨.ref C :: us, kw⟩)).units = A.units + 1 := by
  first | rfl | simp [Around.under, Code.cUnits, Code.frames, Code.isFrame]
theorem Room.make {k : Nat} {A : Around} (r : Room (k + 1) A) (C : Addr) (us : List Value) (kw : List (Str × Value)) : Room k (A.under (.builtin "type.__call__" ⟨.ref C :: us, kw⟩)) :=
  ⟨r.hd, by have := r.dp; rw [make_depth]; omega, by have := r.un; rw [make_units]; omega⟩
theorem Room.depth {k : Nat} {A : Around} (r : Room k A) : A.depth < recursionLimit := by have := r.dp; omega

/-! ### argument lists and displays -/
def tNil : TA := fun _ H Q => Q [] H
def tCons (ta : TE) (tr : TA) : TA := fun σ H Q => ta σ H fun x H1 => tr σ H1 fun xs H2 => Q (x :: xs) H2
section
variable {X : Cx} {e : Expr} {es : List Expr} {te : TE} {t : TA} {pos : Pos}
theorem pa_nil : PA X [] tNil := fun _ _ _ _ H Q I h => Calls.spliced_nil ⟨[], H, I, .nil, h⟩
theorem pa_cons (ha : PE X e te) (hr : PA X es t) (hs : starEach (e :: es) X.env = (false, eval e X.env) :: starEach es X.env := by rfl) : PA X (e :: es) (tCons te t) := by
  intro pos pins s σ H Q I h
  rw [hs]
  show wpAny _ _ (spliced ((false, eval e X.env) :: backTo pos (starEach es X.env))) _ _ s
  refine Calls.spliced_cons (thn (ha pins s σ H _ I h) fun u s1 ⟨x, H1, I1, r1, q1⟩ => ?_)
  exact thn (hr pos pins s1 σ H1 _ I1 q1) fun us s2 ⟨xs, H2, I2, r2, q2⟩ => ⟨x :: xs, H2, I2, .cons r1 r2, q2⟩

/-- a tuple, a list of written items -/
def tTup (t : TA) : TE := fun σ H Q => t σ H fun xs H1 => xs.length ≤ sizeLine ∧ ∀ p, H1 p = none → Q (.ref p) (upd H1 p (.tup xs))
def tLst (t : TA) : TE := fun σ H Q => t σ H fun xs H1 => xs.length ≤ sizeLine ∧ ∀ p, H1 p = none → Q (.ref p) (upd H1 p (.lst xs))
theorem pe_lst (h : PA X es t) : PE X (.List es pos) (tLst t) := by
  intro pins s σ H Q I hq
  refine wpAny_List_spliced (thn (h pos pins s σ H _ I hq) fun us s1 ⟨xs, H1, I1, r, z, q⟩ => ⟨by rw [← r.length]; exact z, ?_⟩)
  have hf : H1 s1.heap.objs.size = none := I1.hok.fresh (Nat.le_refl _)
  refine ⟨.ref s1.heap.objs.size, upd H1 s1.heap.objs.size (.lst xs), I1.laid (t' := s1.toks) (fun b u e => Heap.get?_push_of_some _ e) (Nat.le_refl _) ?_, rfl, q _ hf⟩
  exact ⟨z, us, 0, r, Heap.get?_push_size _ rfl⟩
end

/-! ### what a def promises -/
/-- a def's promise: the bound arguments in the parameters' order, the heap, the wanted end, the wanted exception -/
abbrev Sp := List V → Hp → VK → XK → Prop
/-- how an exception lies behind a call (file 08 gives it): the callers' frames, abstract heap and state ahead of the call, the wish, the exception, the state -/
abbrev CXT := List Env → Hp → Shared → XK → Value → Shared → Prop

/-- the state at a call -/
structure Env0 (P : Program) (w : World) (K : PySem.W.Frag) (mg : Str → Option Value) (base : Heap) (A : Around) (outer : List Env) (s : Shared) (H : Hp) : Prop where
  frames : A.frames = some outer
  mod : Mod K mg base
  bs : ∀ b o, base.get? b = some o → s.heap.get? b = some o ∧ H b = none
  bsz : base.objs.size ≤ s.heap.objs.size
  funs : s.heap.FunFrames base outer
  frf : ∀ b ∈ frs outer, H b = none
  hok : HOk P w H s.heap
  bare : AllBare s.gens
/-- a call's end -/
def CE (outer : List Env) (P : Program) (w : World) (H : Hp) (s : Shared) (Q : VK) (u : Value) (s' : Shared) : Prop :=
  ∃ v H', s'.os = s.os ∧ AllBare s'.gens ∧ Un (frs outer) [] H H' s.heap s'.heap ∧ HOk P w H' s'.heap ∧ RelV v u ∧ Q v H'
def CR (CX : CXT) (outer : List Env) (P : Program) (w : World) (H : Hp) (s : Shared) (Q : VK) (E : XK) (r : Result) (s' : Shared) : Prop :=
  match r with
  | .ok (.ret u) => CE outer P w H s Q u s'
  | .ok _ => False
  | .error e => CX outer H s E e s'
structure FnOk (P : Program) (w : World) (K : PySem.W.Frag) (mg : Str → Option Value) (base : Heap) (CX : CXT) (k : Nat) (f : Addr) (fd : FuncData) (ps : List Str) (sp : Sp) : Prop where
  len : ∀ vs H Q E, sp vs H Q E → vs.length = ps.length
  run : ∀ (A : Around) (outer : List Env) (s : Shared) (H : Hp) (args : Args) (us : List Value) (vs : List V) (Q : VK) (E : XK), Room k A → Env0 P w K mg base A outer s H → BindsTo s fd args (ps.zip us) → Vals vs us → sp vs H Q E →
    codeAny (model P w) A (.call (.ref f) args) (CR CX outer P w H s Q E) s
theorem FnOk.mono {P : Program} {w : World} {K : PySem.W.Frag} {mg : Str → Option Value} {base : Heap} {CX : CXT} {j k : Nat} {f : Addr} {fd : FuncData} {ps : List Str} {sp : Sp} (F : FnOk P w K mg base CX j f fd ps sp) (h : j ≤ k) :
    FnOk P w K mg base CX k f fd ps sp := ⟨F.len, fun A outer s H args us vs Q E hr => F.run A outer s H args us vs Q E (hr.mono h)⟩

theorem Env0.make {P : Program} {w : World} {K : PySem.W.Frag} {mg : Str → Option Value} {base : Heap} {A : Around} {outer : List Env} {s : Shared} {H : Hp} (e : Env0 P w K mg base A outer s H) (C : Addr) (us : List Value) (kw : List (Str × Value)) :
    Env0 P w K mg base (A.under (.builtin "type.__call__" ⟨.ref C :: us, kw⟩)) outer s H := ⟨by first | exact e.frames | (simpa [Around.under, Code.envs, Code.isFrame, pushEnvs] using e.frames), e.mod, e.bs, e.bsz, e.funs, e.frf, e.hok, e.bare⟩

section
variable {X : Cx} {pins : List (Addr × Obj)} {σ : St} {H : Hp} {s s' : Shared}
/-- from a body: what a callee wants -/
theorem Inv.env0 (I : Inv X pins σ H s) : Env0 X.prog X.w X.K X.mg X.base X.A X.stack s H :=
  ⟨I.ok.frames, I.ok.mod, I.bs, Nat.le_trans I.ok.bsz I.sz, I.stack, I.stkFree, I.hok, I.bare⟩
/-- behind a call -/
theorem Inv.after {Q : VK} {u : Value} (I : Inv X pins σ H s) (h : CE X.stack X.prog X.w H s Q u s') : EP X pins σ Q u s' := by
  obtain ⟨v, H', os, bare, un, hok, r, q⟩ := h
  obtain ⟨hh, g, d, t, os'⟩ := s'
  obtain rfl : os' = s.os := os
  exact ⟨v, H', I.call (h' := hh) (g' := g) (d' := d) (t' := t) (ch := []) un hok bare (fun b z => absurd z (by simp)), r, q⟩
end

/-! ### calls -/
/-- f(..): the written arguments, then the defaults dvs; E: what is wanted of an exception -/
def tCall (sp : Sp) (dvs : List V) (E : XK) (t : TA) : TE := fun σ H Q => t σ H fun vs H1 => sp (vs ++ dvs) H1 Q E
/-- o.m(..) of an instance of the class at C -/
def tMeth (C : Addr) (m : Str) (sp : Sp) (dvs : List V) (E : XK) (ta : TE) (t : TA) : TE := fun σ H Q => ta σ H fun x H1 => ∃ a dx fs, x = .ref a ∧ H1 a = some (.ins C dx fs) ∧ fs.lookup m = none ∧
  t σ H1 fun vs H2 => sp (x :: (vs ++ dvs)) H2 Q E
/-- C(..): a new instance and its dict, then __init__ -/
def tMake (C : Addr) (sp : Sp) (dvs : List V) (E : XK) (t : TA) : TE := fun σ H Q => t σ H fun vs H1 => ∀ x dx, H1 x = none → H1 dx = none → dx ≠ x →
  sp (.ref x :: (vs ++ dvs)) (upd (upd H1 dx (.own x)) x (.ins C dx [])) (fun v H2 => v = .non ∧ Q (.ref x) H2) E

/-- how the parameters are bound: us the positional arguments, kw the keywords' values by name, ds the defaults that fill up -/
def Binds (K : PySem.W.Frag) (fd : FuncData) (ps : List Str) (ds : List Value) : Prop :=
  ∀ (s : Shared) (us : List Value), K.In s.heap → (us ++ ds).length = ps.length → BindsTo s fd ⟨us, []⟩ (ps.zip (us ++ ds))
/-- every parameter is given -/
theorem Binds.all {K : PySem.W.Frag} {fd : FuncData} {ps : List Str} (h : ∀ us : List Value, us.length = ps.length → bindArgs fd ⟨us, []⟩ = pure (ps.zip us)) : Binds K fd ps [] := fun s us _ hl => by
  rw [List.append_nil] at hl ⊢
  exact .of_eq (h us hl)

/-- an exception of a callee reaches what this body wants of exceptions -/
def Passes (CX : CXT) (X : Cx) (E : XK) : Prop := ∀ (pins : List (Addr × Obj)) (σ : St) (H : Hp) (s : Shared) (e : Value) (s' : Shared), Inv X pins σ H s → CX X.stack H s E e s' → X.xe e s'

section
variable {X : Cx} {CX : CXT} {k : Nat} {f C : Addr} {fd : FuncData} {ps : List Str} {sp : Sp} {dvs : List V} {ds : List Value} {E : XK} {x m : Str} {p pos apos : Pos} {e o : Expr} {es : List Expr} {ta : TE} {t : TA}

/-- the callee runs -/
theorem run_fn {pins : List (Addr × Obj)} {σ : St} {H : Hp} {s : Shared} {Q : VK} {us : List Value} {vs : List V} (F : FnOk X.prog X.w X.K X.mg X.base CX k f fd ps sp) (hr : Room k X.A) (hb : Binds X.K fd ps ds) (hd : Vals dvs ds) (hx : Passes CX X E)
    (I : Inv X pins σ H s) (r : Vals vs us) (h : sp (vs ++ dvs) H Q E) : wpAny (model X.prog X.w) X.A (call (.ref f) us) (EP X pins σ Q) X.xe s := by
  have r2 : Vals (vs ++ dvs) (us ++ ds) := r.append hd
  have hl : (us ++ ds).length = ps.length := by rw [← r2.length]; exact F.len _ _ _ _ h
  refine wpAny_call (codeAny_mono (F.run X.A X.stack s H ⟨us, []⟩ (us ++ ds) (vs ++ dvs) Q E hr I.env0 (hb s us I.kIn hl) r2 h) fun r s' hq => ?_)
  cases r with
  | error e => exact hx pins σ H s e s' I hq
  | ok fl =>
    cases fl with
    | ret u => exact I.after hq
    | next => exact False.elim hq
    | brk => exact False.elim hq
    | cont => exact False.elim hq

theorem pe_call (F : FnOk X.prog X.w X.K X.mg X.base CX k f fd ps sp) (hr : Room k X.A) (hg : Gl X x) (hm : X.mg x = some (.ref f)) (hk : PySem.W.keepIn X.K (.ref f) = true) (hb : Binds X.K fd ps ds) (hd : Vals dvs ds) (hx : Passes CX X E)
    (ha : PA X (e :: es) t) (hdb : (x == ("__debug__" : Str)) = false := by decide) (he : starEach (e :: es) X.env = (false, eval e X.env) :: starEach es X.env := by rfl) (hpl : (backTo pos (starEach es X.env)).any (·.1) = false := by rfl) :
    PE X (.Call (.Name x p) (e :: es) [] pos) (tCall sp dvs E t) := by
  intro pins s σ H Q I h
  refine wpAny_Call_Name_kw (ld_glob I hg hm ?_ hdb)
  refine PySem.W.callWith_K (h₀ := X.base) I.ok.mod.kin hk (thn (ha pos pins s σ H _ I h) fun us s1 ⟨vs, H1, I1, r, q⟩ => ⟨I1.kIn, ?_⟩) he hpl
  exact run_fn F hr hb hd hx I1 r q


/-- what a class must have to be made -/
structure Mk (K : PySem.W.Frag) (C f : Addr) : Prop where
  makes : PySem.W.makesIn K C = true
  init : PySem.W.findIn K (.ref C) "__init__" = some (some (.ref f))
  fn : PySem.W.isFn K (.ref f) = true
  kp : PySem.W.keepIn K (.ref C) = true

theorem run_make {pins : List (Addr × Obj)} {σ : St} {H : Hp} {s : Shared} {Q : VK} {us : List Value} {vs : List V} (M : Mk X.K C f) (F : FnOk X.prog X.w X.K X.mg X.base CX k f fd ps sp) (hr : Room (k + 1) X.A) (hb : Binds X.K fd ps ds) (hd : Vals dvs ds)
    (hx : Passes CX X E) (I : Inv X pins σ H s) (r : Vals vs us)
    (h : ∀ x dx, H x = none → H dx = none → dx ≠ x → sp (.ref x :: (vs ++ dvs)) (upd (upd H dx (.own x)) x (.ins C dx [])) (fun v H2 => v = .non ∧ Q (.ref x) H2) E) :
    wpAny (model X.prog X.w) X.A (call (.ref C) us) (EP X pins σ Q) X.xe s := by
  have hq := h (s.heap.objs.size + 1) s.heap.objs.size (I.hok.fresh (Nat.le_succ _)) (I.hok.fresh (Nat.le_refl _)) (Nat.ne_of_lt (Nat.lt_succ_self _))
  have I2 := Inv.made (C := C) I
  have r2 : Vals (V.ref (s.heap.objs.size + 1) :: (vs ++ dvs)) (Value.ref (s.heap.objs.size + 1) :: (us ++ ds)) := .cons rfl (r.append hd)
  have hl : (Value.ref (s.heap.objs.size + 1) :: us ++ ds).length = ps.length := by
    have e := r2.length
    rw [F.len _ _ _ _ hq] at e
    exact e.symm
  refine wpAny_call (make_map (f := f) I.kIn M.makes M.init (beq_iff_eq.mp M.fn) (codeAny_mono (F.run _ X.stack _ _ ⟨Value.ref (s.heap.objs.size + 1) :: us, []⟩ (Value.ref (s.heap.objs.size + 1) :: (us ++ ds)) _ _ E (hr.make C us [])
    (I2.env0.make C us []) (hb _ (Value.ref (s.heap.objs.size + 1) :: us) I2.kIn hl) r2 hq) fun r s' hq' => ?_))
  cases r with
  | error e => exact hx pins σ _ _ e s' I2 hq'
  | ok fl =>
    cases fl with
    | ret u =>
      obtain ⟨v, H', I3, rv, ev, q3⟩ := I2.after hq'
      subst ev
      exact ⟨rv, ⟨V.ref (s.heap.objs.size + 1), H', I3, rfl, q3⟩⟩
    | next => exact False.elim hq'
    | brk => exact False.elim hq'
    | cont => exact False.elim hq'
theorem pe_make0 (M : Mk X.K C f) (F : FnOk X.prog X.w X.K X.mg X.base CX k f fd ps sp) (hr : Room (k + 1) X.A) (hg : Gl X x) (hm : X.mg x = some (.ref C)) (hb : Binds X.K fd ps ds) (hd : Vals dvs ds) (hx : Passes CX X E)
    (hdb : (x == ("__debug__" : Str)) = false := by decide) : PE X (.Call (.Name x p) [] [] pos) (tMake C sp dvs E tNil) := by
  intro pins s σ H Q I h
  refine wpAny_Call_Name_kw (ld_glob I hg hm ?_ hdb)
  exact PySem.W.callWith_K0 I.kIn M.kp (run_make (us := []) M F hr hb hd hx I .nil h)
end

/-! ### keywords -/
/-- the values of the keywords, from the left -/
def PK (X : Cx) (kws : List Keyword) (t : TA) : Prop :=
  ∀ (pos : Pos) (pins : List (Addr × Obj)) (s : Shared) (σ : St) (H : Hp) (Q : List V → Hp → Prop), Inv X pins σ H s → t σ H Q → wpAny (model X.prog X.w) X.A (evalAll ((backToKw pos (keywordEach kws X.env)).map (·.2))) (AP X pins σ Q) X.xe s
section
variable {X : Cx} {CX : CXT} {k : Nat} {f C : Addr} {fd : FuncData} {ps ks : List Str} {sp : Sp} {E : XK} {x m : Str} {p pos apos kpos : Pos} {e o : Expr} {es : List Expr} {kws : List Keyword} {te ta : TE} {t tk : TA} {nm : Option Str}

/-- how a call with keywords binds: g puts the positional values us and the keywords' values ws (names ks) in the parameters' order, defaults among them -/
structure KBinds (K : PySem.W.Frag) (fd : FuncData) (ps ks : List Str) (g : List Value → List Value → List Value) (gV : List V → List V → List V) : Prop where
  to : ∀ (s : Shared) (us ws : List Value), K.In s.heap → (g us ws).length = ps.length → BindsTo s fd ⟨us, ks.zip ws⟩ (ps.zip (g us ws))
  rel : ∀ {vs : List V} {us : List Value} {zs : List V} {ws : List Value}, Vals vs us → Vals zs ws → Vals (gV vs zs) (g us ws)
def tCallK (sp : Sp) (gV : List V → List V → List V) (E : XK) (t tk : TA) : TE := fun σ H Q => t σ H fun vs H1 => tk σ H1 fun zs H2 => sp (gV vs zs) H2 Q E
variable {g : List Value → List Value → List Value} {gV : List V → List V → List V}
end

/-! ### a def's body keeps its promise -/
/-- names: the parameters first -/
structure FnScope (N P : List Str) (sc : Scope) : Prop where
  kind : sc.kind = .function
  co : sc.isCoroutine = false
  gen : sc.isGenerator = false
  nd : N.Nodup
  pre : N.take P.length = P
  par : ∀ x ∈ P, sc.names.lookup x = some .local ∨ sc.names.lookup x = some .cell
  nofree : ∀ y ∈ sc.names, y.2 ≠ .free

theorem bindL_out {kindOf : Str → Option NameKind} {x : Str} : ∀ {binds : List (Str × Value)} {m : Str → Option Value}, (∀ v, (x, v) ∉ binds) → bindL kindOf binds m x = m x
  | [], _, _ => rfl
  | (n, v) :: r, m, h => by
    unfold bindL
    rw [bindL_out fun w hw => h w (List.mem_cons_of_mem _ hw)]
    split
    · have : x ≠ n := by rintro rfl; exact h v List.mem_cons_self
      simp [this]
    · rfl
theorem bindC_out {kindOf : Str → Option NameKind} {x : Str} : ∀ {binds : List (Str × Value)} {m : Str → Option Value}, (∀ v, (x, v) ∉ binds) → bindC kindOf binds m x = m x
  | [], _, _ => rfl
  | (n, v) :: r, m, h => by
    unfold bindC
    rw [bindC_out fun w hw => h w (List.mem_cons_of_mem _ hw)]
    split
    · rfl
    · have : x ≠ n := by rintro rfl; exact h v List.mem_cons_self
      simp [this]
theorem bindL_get {kindOf : Str → Option NameKind} {x : Str} {v : Value} : ∀ {P : List Str} {vs : List Value} {i : Nat} {m : Str → Option Value}, P.Nodup → P[i]? = some x → vs[i]? = some v → kindOf x = some .local →
    bindL kindOf (P.zip vs) m x = some v
  | [], _, _, _, _, h, _, _ => by simp at h
  | _ :: _, [], _, _, _, _, h, _ => by simp at h
  | p :: P, w :: vs, 0, m, nd, h1, h2, hk => by
    simp at h1 h2; subst h1; subst h2
    show bindL kindOf ((p, w) :: P.zip vs) m p = _
    unfold bindL
    rw [bindL_out fun v hv => (List.nodup_cons.mp nd).1 (List.of_mem_zip hv).1, if_pos hk]
    simp
  | p :: P, w :: vs, i + 1, m, nd, h1, h2, hk => by
    show bindL kindOf ((p, w) :: P.zip vs) m x = _
    unfold bindL
    exact bindL_get (i := i) (List.nodup_cons.mp nd).2 (by simpa using h1) (by simpa using h2) hk
theorem bindC_get {kindOf : Str → Option NameKind} {x : Str} {v : Value} : ∀ {P : List Str} {vs : List Value} {i : Nat} {m : Str → Option Value}, P.Nodup → P[i]? = some x → vs[i]? = some v → kindOf x ≠ some .local →
    bindC kindOf (P.zip vs) m x = some v
  | [], _, _, _, _, h, _, _ => by simp at h
  | _ :: _, [], _, _, _, _, h, _ => by simp at h
  | p :: P, w :: vs, 0, m, nd, h1, h2, hk => by
    simp at h1 h2; subst h1; subst h2
    show bindC kindOf ((p, w) :: P.zip vs) m p = _
    unfold bindC
    rw [bindC_out fun v hv => (List.nodup_cons.mp nd).1 (List.of_mem_zip hv).1, if_neg hk]
    simp
  | p :: P, w :: vs, i + 1, m, nd, h1, h2, hk => by
    show bindC kindOf ((p, w) :: P.zip vs) m x = _
    unfold bindC
    exact bindC_get (i := i) (List.nodup_cons.mp nd).2 (by simpa using h1) (by simpa using h2) hk

/-- the names' values at the entry -/
def start (N : List Str) (vs : List V) : St := vs.map some ++ List.replicate (N.length - vs.length) none

/-- the context of a def's body, at its entry; an exception leaves the frame, then lies as CX says -/
def cxOf (CX : CXT) (P : Program) (w : World) (K : PySem.W.Frag) (mg : Str → Option Value) (base : Heap) (N : List Str) (qual : Str) (scope : Scope) (f : Addr) (cd : Value) (A : Around) (outer : List Env) (s : Shared) (H : Hp) (E : XK) : Cx where
  prog := P
  w := w
  K := K
  mg := mg
  base := base
  A := A.deeper (envOfC qual scope s.heap.objs.size f cd)
  N := N
  s_0 := s
  H_0 := H
  env := envOfC qual scope s.heap.objs.size f cd
  outer := outer
  stack := envOfC qual scope s.heap.objs.size f cd :: outer
  ex := []
  calm := true
  fn := fun _ => true
  pn := []
  xe := fun e s' => wpAny (model P w) (A.deeper (envOfC qual scope s.heap.objs.size f cd)) (leaving (envOfC qual scope s.heap.objs.size f cd) e) (fun _ s'' => CX outer H s E e s'') (fun e' s'' => CX outer H s E e' s'') s'

theorem cell_has {sc : Scope} {n : Nat} {x : Str} (h : sc.names.lookup x = some .cell) : ∃ c, (cellsFrom n sc.names []).lookup x = some c := by
  have q := PySem.W.cellsFrom_some sc.names n [] (.inl h)
  exact Option.isSome_iff_exists.mp q

theorem inv_start {CX : CXT} {P : Program} {w : World} {K : PySem.W.Frag} {mg : Str → Option Value} {base : Heap} {N ps : List Str} {qual : Str} {scope : Scope} {f : Addr} {cd : Value} {A : Around} {outer : List Env} {s s1 : Shared} {H : Hp} {E : XK} {us : List Value} {vs : List V}
    (S : FnScope N ps scope) (hd : A.handled = none) (e0 : Env0 P w K mg base A outer s H) (hl : vs.length = ps.length) (r : Vals vs us)
    (x : InCallC s s.heap.objs.size (bindL (envOfC qual scope s.heap.objs.size f cd).kindOf (ps.zip us) fun _ => none) (cellsFrom (s.heap.objs.size + 1) scope.names []) (bindC (envOfC qual scope s.heap.objs.size f cd).kindOf (ps.zip us) fun _ => none) s1) :
    Inv (cxOf CX P w K mg base N qual scope f cd A outer s H E) [] (start N vs) H s1 := by
  have hpl : ps.length ≤ N.length := by have := congrArg List.length S.pre; rw [List.length_take] at this; omega
  obtain ⟨h1, tk, rfl, hk⟩ := x.done
  have noA : ∀ b : Addr, b ∉ (cxOf CX P w K mg base N qual scope f cd A outer s H E).ex := fun b z => absurd (show b ∈ ([] : List Addr) from z) (by simp)
  refine ⟨⟨e0.mod, S.kind, rfl, rfl, Nat.le_refl _, fun y z c h1 h2 => ?_, fun y hy => ?_, fun y c _ h => ?_, fun _ => hd, Around.frames_deeper e0.frames, .inr ⟨rfl, rfl⟩, fun b z => absurd z (noA b), e0.bs, e0.bsz, fun b _ _ => noA b, fun b z => absurd z (noA b), e0.funs, e0.frf⟩,
    rfl, e0.bare, Un.kept hk, ⟨_, x.toInCall.ns, fun i y v h1 h2 h3 => ?_⟩, fun y c h => ⟨_, x.cell y c h⟩, e0.hok.fresh (Nat.le_refl _), fun y c h => ?_, fun p hp => absurd (show p ∈ ([] : List (Addr × Obj)) from hp) (by simp), e0.hok.kept hk, ?_⟩
  · exact name_of_addr x.apart (PySem.mem_of_lookup h1) (PySem.mem_of_lookup h2)
  · have hy : scope.names.lookup y = some .cell ∨ scope.names.lookup y = some .free := hy
    rcases hy with hy | hy
    · exact cell_has hy
    · exact absurd rfl (S.nofree _ (PySem.mem_of_lookup hy))
  · exact Nat.le_of_lt (x.above y c (PySem.mem_of_lookup h))
  · have hi : i < vs.length := by
      unfold start at h2
      by_cases hi : i < vs.length
      · exact hi
      · rw [List.getElem?_append_right (by simpa using hi)] at h2
        rw [List.getElem?_replicate] at h2
        split at h2 <;> cases h2
    have ha : vs[i]? = some v := by
      unfold start at h2
      rw [List.getElem?_append_left (by simpa using hi), List.getElem?_map] at h2
      cases e : vs[i]? with
      | none => rw [e] at h2; cases h2
      | some a => rw [e] at h2; cases h2; rfl
    obtain ⟨u, hu, rv⟩ := r.get ha
    have hp : ps[i]? = some y := by
      rw [← S.pre, List.getElem?_take_of_lt (by omega)]; exact h1
    have ndP : ps.Nodup := by rw [← S.pre]; exact S.nd.sublist (List.take_sublist _ _)
    refine ⟨u, rv, ?_⟩
    rcases S.par y (List.mem_of_getElem? hp) with k | k
    · exact .inl ⟨k, bindL_get ndP hp hu k⟩
    · obtain ⟨c, e⟩ := cell_has (n := s.heap.objs.size + 1) k
      refine .inr ⟨.inl k, c, e, ?_⟩
      have q := x.cell y c e
      rw [bindC_get ndP hp hu (by show scope.names.lookup y ≠ _; rw [k]; decide)] at q
      exact q
  · exact e0.hok.fresh (Nat.le_of_lt (x.above y c (PySem.mem_of_lookup h)))
  · unfold start
    show _ = N.length
    rw [List.length_append, List.length_map, List.length_replicate]
    omega

/-- THE RULE: a def (or a method) of the text, by its body. The body's reading t is chosen for each entry; it is run at the parameters' values -/
theorem fn_of {CX : CXT} {P : Program} {w : World} {K : PySem.W.Frag} {mg : Str → Option Value} {base : Heap} {k : Nat} {f : Addr} {name qual : Str} {params : Arguments} {body : List Stmt} {scope : Scope} {dV kV doc pm cdv ct oc : Value} {an od : Option Addr}
    {osl : Array (Option Value)} {N ps : List Str} {sp : Sp} (lk : K.lookup f = some ⟨oc, od, .func (PySem.W.fnOf name qual params body scope dV kV doc pm an cdv ct), osl⟩) (hcd : PySem.W.codeIn K cdv qual = true) (S : FnScope N ps scope)
    (len : ∀ vs H Q E, sp vs H Q E → vs.length = ps.length)
    (hbody : ∀ (A : Around) (outer : List Env) (s : Shared) (H : Hp) (vs : List V) (Q : VK) (E : XK), Room k (A.deeper (envOfC qual scope s.heap.objs.size f cdv)) → sp vs H Q E →
      ∃ t, PSs (cxOf CX P w K mg base N qual scope f cdv A outer s H E) body t ∧ t { nx := fun _ H' => Q .non H', rt := Q } (start N vs) H) :
    FnOk P w K mg base CX (k + 1) f (PySem.W.fnOf name qual params body scope dV kV doc pm an cdv ct) ps sp := by
  refine ⟨len, fun A outer s H args us vs Q E hr e0 hb r hsp => ?_⟩
  have hl := len _ _ _ _ hsp
  have KX : K.In s.heap := e0.mod.kin.keeps fun b o e => (e0.bs b o e).1
  have lim : s.heap.NoLimit := e0.mod.nolimit.keeps fun b o e => (e0.bs b o e).1
  have hkind : ∀ y ∈ ps.zip us, scope.names.lookup y.1 = some .local ∨ (scope.names.lookup y.1 = some .cell ∧ ((cellsFrom (s.heap.objs.size + 1) scope.names []).lookup y.1).isSome = true) := fun ⟨n, v⟩ hy => by
    rcases S.par n (List.of_mem_zip hy).1 with q | q
    · exact .inl q
    · exact .inr ⟨q, PySem.W.cellsFrom_some _ _ _ (.inl q)⟩
  refine codeAny_call_function hr.depth (KX _ _ lk) rfl S.co S.gen rfl (PySem.W.codeRec_of KX hcd) (hb _ _ _ _ ?_)
  refine wpAny_newFunctionEnv_cells S.kind hkind fun env he s1 x => ?_
  subst he
  refine ⟨lim.keeps x.toInCall.keep, codeAny_func ?_⟩
  obtain ⟨t, ht, hq⟩ := hbody A outer s H vs Q E (hr.deeper _) hsp
  have I : Inv (cxOf CX P w K mg base N qual scope f cdv A outer s H E) [] (start N vs) H s1 := inv_start S hr.hd e0 hl r x
  refine wpAny_mono (ht [] s1 (start N vs) H _ I hq) (fun fl s' hs => ?_) fun e s' hs => hs
  have fin : ∀ {σ' : St} {H' : Hp} {v : V} {u : Value}, Inv (cxOf CX P w K mg base N qual scope f cdv A outer s H E) [] σ' H' s' → RelV v u → Q v H' → CE outer P w H s Q u s' :=
    fun {σ' H' v u} J rv q => ⟨v, H', J.os, J.bare, J.base, J.hok, rv, q⟩
  cases fl with
  | ret u =>
    obtain ⟨v, σ', H', J, rv, q⟩ := hs
    exact fin J rv q
  | next =>
    obtain ⟨σ', H', J, q⟩ := hs
    exact fin (v := V.non) (u := Value.none) J rfl q
  | brk =>
    obtain ⟨_, _, _, q⟩ := hs
    exact False.elim q
  | cont =>
    obtain ⟨_, _, _, q⟩ := hs
    exact False.elim q
end L2

namespace L2
open PySem PySem.Spec PyProof.Rows
section
variable {X : Cx} {x : Str} {p pos : Pos} {e : Expr} {es : List Expr} {t : TA} {id T : String} {r : List V → Hp → VK → Prop}

def tCB (r : List V → Hp → VK → Prop) (t : TA) : TE := fun σ H Q => t σ H fun vs H1 => r vs H1 Q
/-- f(e, ..), f a built-in function -/
theorem pe_callB (hc : CallR X (.builtin id) r) (hg : Gl X x) (hm : X.mg x = none) (hv : bootBuiltins x = some (.builtin id)) (ha : PA X (e :: es) t) (hn : x ≠ "__name__" := by decide) (hdb : (x == ("__debug__" : Str)) = false := by decide)
    (he : starEach (e :: es) X.env = (false, eval e X.env) :: starEach es X.env := by rfl) (hpl : (backTo pos (starEach es X.env)).any (·.1) = false := by rfl) : PE X (.Call (.Name x p) (e :: es) [] pos) (tCB r t) := by
  intro pins s σ H Q I h
  refine wpAny_Call_Name_kw (ld_blt I hg hm hv ?_ hn hdb)
  exact PyProof.Rows.callWith_builtin1 (thn (ha pos pins s σ H _ I h) fun us s1 ⟨vs, H1, I1, r1, q1⟩ => hc pins s1 σ H1 vs us Q I1 r1 q1) he hpl
end
end L2

namespace HT
open PySem PyProof.Rows

/-- t < u of tuples of ints -/
def lexLt : List Int → List Int → Bool
  | [], [] => false
  | [], _ :: _ => true
  | _ :: _, [] => false
  | x :: xs, y :: ys => if x = y then lexLt xs ys else decide (x < y)


section
open PySem.SeqAt
open PySem.AutoSeq1 (wpAny_loadPart')
open PySem.MeetsSeq PySem.MeetsSeq2 PySem.MeetsSeq3

end

section
variable {prog : Program} {w : World} {A : Around} {E : Value → Shared → Prop} {s : Shared}



/-! ### t[a:b], not the whole -/
/-- a slice's bound as a place among n (d where it is left out) -/
def sIx (n d : Nat) : Option Int → Nat
  | none => d
  | some v => if v < 0 then (v + (n : Int)).toNat else min v.toNat n
theorem sIx_nat (n d k : Nat) : sIx n d (some (k : Int)) = min k n := by
  show (if (k : Int) < 0 then ((k : Int) + (n : Int)).toNat else min (k : Int).toNat n) = min k n
  rw [if_neg (by omega), Int.toNat_natCast]

end
end HT

namespace L2
open PySem PySem.Spec PyProof.Rows

/-! ### the parts of a slice -/
abbrev TO := St → Hp → (Option Int → Hp → Prop) → Prop
/-- a slice's part (left out, or an int) -/
def PO (X : Cx) (e : Option Expr) (t : TO) : Prop :=
  ∀ (pins : List (Addr × Obj)) (s : Shared) (σ : St) (H : Hp) (Q : Option Int → Hp → Prop), Inv X pins σ H s → t σ H Q →
    wpAny (model X.prog X.w) X.A (evalPart e X.env) (fun u s' => ∃ o H', Inv X pins σ H' s' ∧ IsPart u o ∧ Q o H') X.xe s
def tNoPart : TO := fun _ H Q => Q none H
def tPart (t : TE) : TO := fun σ H Q => t σ H fun x H1 => ∃ i, x = .int i ∧ Q (some i) H1


section
variable {X : Cx} {e : Expr} {te : TE} {lo hi : Option Expr} {tl th : TO} {pos p2 : Pos}

theorem po_some (h : PE X e te) : PO X (some e) (tPart te) := by
  intro pins s σ H Q I hw
  rw [evalPart_some]
  refine thn (h pins s σ H _ I hw) fun u s1 ⟨x, H1, I1, r1, q1⟩ => ?_
  obtain ⟨i, rfl, q⟩ := q1
  obtain ⟨t, rfl⟩ := r1
  exact ⟨some i, H1, I1, .int i t, q⟩

/-- what a slice of a value is, by values: the slice object stands at sl -/
def SlR (X : Cx) (r : V → Option Int → Option Int → Hp → VK → Prop) : Prop :=
  ∀ (pins : List (Addr × Obj)) (s : Shared) (σ : St) (H : Hp) (x : V) (v vl vu : Value) (lo hi : Option Int) (sl : Addr) (Q : VK), Inv X pins σ H s → RelV x v → s.heap.IsSliceOf sl vl vu .none → IsPart vl lo → IsPart vu hi → r x lo hi H Q →
    ∃ T id, typeLookup (.type T) "__getitem__" = pure (some (.builtin id)) ∧ s.TypeIs v T ∧ wpAny (model X.prog X.w) X.A (getItem v (.ref sl)) (EP X pins σ Q) X.xe s
def tSl (r : V → Option Int → Option Int → Hp → VK → Prop) (te : TE) (tl th : TO) : TE := fun σ H Q => te σ H fun x H1 => tl σ H1 fun l H2 => th σ H2 fun u H3 => r x l u H3 Q
/-- a[lo:hi], any a -/
theorem pe_slice {r : V → Option Int → Option Int → Hp → VK → Prop} (hr : SlR X r) (he : PE X e te) (hl : PO X lo tl) (hu : PO X hi th) : PE X (.Subscript e (.Slice lo hi none p2) pos) (tSl r te tl th) := by
  intro pins s σ H Q I h
  refine Subscript_ (thn (he pins s σ H _ I h) fun v s1 ⟨x, H1, I1, r1, q1⟩ => ?_)
  refine wpAny_Slice (thn (hl pins s1 σ H1 _ I1 q1) fun vl s2 ⟨l, H2, I2, pl, q2⟩ => thn (hu pins s2 σ H2 _ I2 q2) fun vu s3 ⟨u, H3, I3, pu, q3⟩ => ?_)
  rw [evalPart_none]
  refine wpAny_pure ?_
  have I4 : Inv X pins σ H3 { s3 with heap := s3.heap.push { cls := .type "slice", data := .fields #[vl, vu, .none] } } := I3.kept (t' := s3.toks) fun b ob q => Heap.get?_push_of_some _ q
  obtain ⟨T, id, hT, ht, hg⟩ := hr pins { s3 with heap := s3.heap.push { cls := .type "slice", data := .fields #[vl, vu, .none] } } σ H3 x v vl vu l u s3.heap.objs.size Q I4 r1 (Heap.IsSliceOf.new ..) pl pu q3
  show wpAny (model X.prog X.w) X.A (subscriptTail e (.Slice lo hi none p2) v (.ref s3.heap.objs.size)) (EP X pins σ Q) X.xe { s3 with heap := s3.heap.push { cls := .type "slice", data := .fields #[vl, vu, .none] } }
  exact tail_any (ops := [.ref s3.heap.objs.size, v]) ht hT hg (by with_unfolding_all rfl)

/-- the items of xs[lo:hi] -/
def cutV (xs : List V) (lo hi : Option Int) : List V := (xs.drop (HT.sIx xs.length 0 lo)).take (HT.sIx xs.length xs.length hi - HT.sIx xs.length 0 lo)
theorem cutV_length (xs : List V) (lo hi : Option Int) : (cutV xs lo hi).length ≤ xs.length := by
  unfold cutV
  rw [List.length_take, List.length_drop]
  omega
/-- t[lo:hi], not the whole of it (the whole would be t itself) -/
def rSlT (K : PySem.W.Frag) : V → Option Int → Option Int → Hp → VK → Prop := fun x lo hi H Q => ∃ a xs, x = .ref a ∧ SqT K H a xs ∧
  ¬ (HT.sIx xs.length 0 lo = 0 ∧ HT.sIx xs.length xs.length hi = xs.length) ∧ ∀ p, H p = none → Q (.ref p) (upd H p (.tup (cutV xs lo hi)))

/-! ### t < u, t + u -/
def rLtT (K : PySem.W.Frag) : R2 := fun x y H Q => ∃ a b ns ms, x = .ref a ∧ y = .ref b ∧ SqT K H a (ns.map V.int) ∧ SqT K H b (ms.map V.int) ∧ Q (.bl (HT.lexLt ns ms)) H
/-- t + u, t not empty: u empty gives t itself -/
def rCatT (K : PySem.W.Frag) : R2 := fun x y H Q => ∃ a b xs ys, x = .ref a ∧ y = .ref b ∧ SqT K H a xs ∧ SqT K H b ys ∧ xs ≠ [] ∧ xs.length + ys.length ≤ sizeLine ∧
  (ys = [] → Q (.ref a) H) ∧ (ys ≠ [] → ∀ p, H p = none → Q (.ref p) (upd H p (.tup (xs ++ ys))))
end
end L2

namespace L2
open PySem PySem.Spec PyProof.Rows

/-! ### places -/
/-- the place that an index of any sign means -/
def ixN (n : Nat) (i : Int) : Option Nat := if 0 ≤ i then (if i < n then some i.toNat else none) else if -(n : Int) ≤ i then some (i + n).toNat else none
def atI {α : Type} (xs : List α) (i : Int) : Option α := (ixN xs.length i).bind fun j => xs[j]?
theorem ixN_seq {n : Nat} {i : Int} {j : Nat} (h : ixN n i = some j) : seqIndex? i n = some j ∧ j < n ∧ -(n : Int) ≤ i ∧ i < n := by
  unfold ixN at h
  by_cases h0 : 0 ≤ i
  · rw [if_pos h0] at h
    by_cases h1 : i < n
    · rw [if_pos h1] at h
      have e : i.toNat = j := Option.some.inj h
      exact ⟨by rw [seqIndex_of h0 h1, e], by omega, by omega, h1⟩
    · rw [if_neg h1] at h; cases h
  · rw [if_neg h0] at h
    by_cases h1 : -(n : Int) ≤ i
    · rw [if_pos h1] at h
      have e : (i + n).toNat = j := Option.some.inj h
      exact ⟨by rw [seqIndex_neg (by omega) h1, e], by omega, h1, by omega⟩
    · rw [if_neg h1] at h; cases h
theorem atI_get {α : Type} {xs : List α} {i : Int} {v : α} (h : atI xs i = some v) : ∃ j, seqIndex? i xs.length = some j ∧ xs[j]? = some v ∧ j < xs.length ∧ -(xs.length : Int) ≤ i ∧ i < xs.length := by
  unfold atI at h
  cases e : ixN xs.length i with
  | none => rw [e] at h; cases h
  | some j =>
    rw [e] at h
    obtain ⟨h1, h2, h3, h4⟩ := ixN_seq e
    exact ⟨j, h1, h, h2, h3, h4⟩
theorem atI_nat {α : Type} {xs : List α} {j : Nat} {v : α} (h : xs[j]? = some v) : atI xs (j : Int) = some v := by
  have hj : j < xs.length := (List.getElem?_eq_some_iff.mp h).1
  have e : ixN xs.length (j : Int) = some j := by
    unfold ixN
    rw [if_pos (by omega), if_pos (by omega)]; simp
  unfold atI; rw [e]; exact h

/-! ### what may be subscripted -/
/-- what stands as an index of a plain subscript -/
def PlainIx (b : Expr) : Prop := ∀ o i, subscripted b false o i = operate [o, i] (getItem o i)
/-- a subscript by values -/
def IxR (X : Cx) (r : R2) : Prop :=
  ∀ (value slice : Expr) (pins : List (Addr × Obj)) (s : Shared) (σ : St) (H : Hp) (x y : V) (v u : Value) (Q : VK), Inv X pins σ H s → RelV x v → RelV y u → r x y H Q →
    subscripted slice false v u = operate [v, u] (getItem v u) → wpAny (model X.prog X.w) X.A (subscriptTail value slice v u) (EP X pins σ Q) X.xe s
/-- a call of a builtin's method by values: the receiver, the arguments -/
def MtR (X : Cx) (id : String) (r : V → List V → Hp → VK → Prop) : Prop :=
  ∀ (pins : List (Addr × Obj)) (s : Shared) (σ : St) (H : Hp) (x : V) (xs : List V) (v : Value) (us : List Value) (Q : VK), Inv X pins σ H s → RelV x v → Vals xs us → r x xs H Q →
    wpAny (model X.prog X.w) X.A (call (.builtin id) (v :: us)) (EP X pins σ Q) X.xe s
section
variable {X : Cx} {a b : Expr} {ta tb : TE} {pos : Pos}
/-- a[b] -/
theorem pe_ix {r : R2} (hr : IxR X r) (ha : PE X a ta) (hb : PE X b tb) (hs : PlainIx b) : PE X (.Subscript a b pos) (tOp r ta tb) := by
  intro pins s σ H Q I h
  exact Subscript_ (binT ha hb I h fun v u s2 x y H2 I2 rx ry q => hr a b pins s2 σ H2 x y v u Q I2 rx ry q (hs _ _))

def rIxL (K : PySem.W.Frag) : R2 := fun x y H Q => ∃ p xs i v, x = .ref p ∧ y = .int i ∧ SqL K H p xs ∧ atI xs i = some v ∧ Q v H
def rIxT (K : PySem.W.Frag) : R2 := fun x y H Q => ∃ p xs i v, x = .ref p ∧ y = .int i ∧ SqT K H p xs ∧ atI xs i = some v ∧ Q v H
def rIxS : R2 := fun x y H Q => ∃ z i c, x = .str z ∧ y = .int i ∧ z.length ≤ sizeLine ∧ atI z.cps.toList i = some c ∧ Q (.str ⟨#[c]⟩) H
theorem ix_list : IxR X (rIxL X.K) := by
  intro value slice pins s σ H x y v u Q I rx ry h hs
  obtain ⟨p, xs, i, z, rfl, rfl, hq, he, q⟩ := h
  cases rx
  obtain ⟨t, rfl⟩ := ry
  obtain ⟨its, r, pl, hz⟩ := I.list hq
  obtain ⟨j, h1, h2, h3, h4, h5⟩ := atI_get he
  obtain ⟨w, ew, rw'⟩ := r.get h2
  have hl := r.length
  have hn := line63
  have fin : EP X pins σ Q w s := ⟨z, H, I, rw', q⟩
  by_cases h0 : 0 ≤ i
  · have hj : i.toNat = j := by
      rw [seqIndex_of h0 h5] at h1
      exact Option.some.inj h1
    exact item_listR pl.isList h0 (by omega) (by rw [hj]; simpa using ew) fin hs
  · have hj : (i + (its.toArray.size : Int)).toNat = j := by
      rw [seqIndex_neg (by omega) h4] at h1
      rw [List.size_toArray, ← hl]
      exact Option.some.inj h1
    exact subscriptTail_builtinR (x := w) pl.isList.typeIs slot_list_getitem.lookup
      (wpAny_getItem_list_neg (Q := fun r s' => r = w ∧ EP X pins σ Q r s') pl.isList (by omega) (by rw [List.size_toArray] <;> omega) (by omega) (by rw [hj]; simpa using ew) ⟨rfl, fin⟩) hs
theorem ix_tup : IxR X (rIxT X.K) := by
  intro value slice pins s σ H x y v u Q I rx ry h hs
  obtain ⟨p, xs, i, z, rfl, rfl, hq, he, q⟩ := h
  cases rx
  obtain ⟨t, rfl⟩ := ry
  obtain ⟨its, r, pl, hz⟩ := I.tuple hq
  obtain ⟨j, h1, h2, h3, h4, h5⟩ := atI_get he
  obtain ⟨w, ew, rw'⟩ := r.get h2
  have hl := r.length
  have hn := line63
  have fin : EP X pins σ Q w s := ⟨z, H, I, rw', q⟩
  exact subscriptTail_builtinR (x := w) pl.typeIs slot_tuple_getitem.lookup
    (getItem_tuple (j := j) (Q := fun r s' => r = w ∧ EP X pins σ Q r s') pl (by omega) (by omega) (by rw [List.size_toArray, ← hl]; exact h1) (by simpa using ew) ⟨rfl, fin⟩) hs
/-- list, tuple or str -/
def rIx (K : PySem.W.Frag) : R2 := fun x y H Q => rIxL K x y H Q ∨ rIxT K x y H Q ∨ rIxS x y H Q

/-! ### xs[i] = v, any sign -/
def rSetL : V → V → V → Hp → (Hp → Prop) → Prop := fun o i v H Q => ∃ p xs k j, o = .ref p ∧ i = .int k ∧ H p = some (.lst xs) ∧ ixN xs.length k = some j ∧ Q (upd H p (.lst (xs.set j v)))

/-! ### slices -/
theorem slice_bounds (lo hi : Option Int) (n : Nat) : (sliceBounds lo hi none n).1 = ((HT.sIx n 0 lo : Nat) : Int) ∧ (sliceBounds lo hi none n).2.1 = ((HT.sIx n n hi : Nat) : Int) ∧ (sliceBounds lo hi none n).2.2 = 1 := by
  refine ⟨?_, ?_, rfl⟩
  · cases lo with
    | none => simp [sliceBounds, HT.sIx]
    | some i =>
      simp only [sliceBounds, HT.sIx, Option.getD_none, show (1 : Int) > 0 by decide, if_true]
      by_cases h : i < 0
      · simp only [h, if_true] <;> omega
      · simp only [h, if_false] <;> omega
  · cases hi with
    | none => simp [sliceBounds, HT.sIx]
    | some i =>
      simp only [sliceBounds, HT.sIx, Option.getD_none, show (1 : Int) > 0 by decide, if_true]
      by_cases h : i < 0
      · simp only [h, if_true] <;> omega
      · simp only [h, if_false] <;> omega
theorem slicePick_cut (its : List Value) (lo hi : Option Int) : slicePick its.toArray lo hi none = ((its.drop (HT.sIx its.length 0 lo)).take (HT.sIx its.length its.length hi - HT.sIx its.length 0 lo)).toArray := by
  obtain ⟨h1, h2, h3⟩ := slice_bounds lo hi its.toArray.size
  unfold slicePick
  rw [h1, h2, h3]
  simp only [sliceRange_one, pick_run, List.size_toArray] <;> rfl
/-- xs[lo:hi] of a list: a new list -/
def rSlL (K : PySem.W.Frag) : V → Option Int → Option Int → Hp → VK → Prop := fun x lo hi H Q => ∃ a xs, x = .ref a ∧ SqL K H a xs ∧ ∀ p, H p = none → Q (.ref p) (upd H p (.lst (cutV xs lo hi)))
theorem sl_list : SlR X (rSlL X.K) := by
  intro pins s σ H x v vl vu lo hi sl Q I rx hs pl pu h
  obtain ⟨a, xs, rfl, hx, q⟩ := h
  cases rx
  obtain ⟨its, r, ht, hz⟩ := I.list hx
  have hlen := r.length
  refine ⟨"list", _, slot_list_getitem.lookup, ht.isList.typeIs, ?_⟩
  refine wpAny_getItem_list_slice ht.isList hs pl pu .none (by simp) ?_ (by rw [List.size_toArray] <;> omega)
  rw [slicePick_cut, ← hlen]
  refine ⟨.ref s.heap.objs.size, _, I.laid (t' := s.toks) (o := .lst (cutV xs lo hi)) (fun b ob q => Heap.get?_push_of_some _ q) (Nat.le_refl _) ?_, rfl, q _ (I.hok.fresh (Nat.le_refl _))⟩
  exact ⟨Nat.le_trans (cutV_length xs lo hi) hz, _, 0, (r.drop (HT.sIx xs.length 0 lo)).take (HT.sIx xs.length xs.length hi - HT.sIx xs.length 0 lo), Heap.get?_push_size _ rfl⟩

/-! ### in, not in: flat items -/
def flatV : V → Bool
  | .non => true
  | .bl _ => true
  | .int _ => true
  | .str _ => true
  | _ => false
/-- == of flat values -/
def eqV : V → V → Bool
  | .non, .non => true
  | .bl a, .bl b => a == b
  | .bl a, .int b => (if a then 1 else 0) == b
  | .int a, .bl b => a == (if b then 1 else 0)
  | .int a, .int b => a == b
  | .str a, .str b => a == b
  | _, _ => false
theorem eqAt_V {A : Around} {s : Shared} {y x : V} {u v : Value} (ry : RelV y u) (rx : RelV x v) (fy : flatV y = true) (fx : flatV x = true) : SeqAt.EqAt A s u v (eqV y x) := by
  cases y with
  | non =>
    cases ry
    cases x with
    | non => cases rx; exact SeqAt.EqAt.same _
    | bl b => cases rx; exact SeqAt.EqAt.none_bool b
    | int b => obtain ⟨t, rfl⟩ := rx; exact SeqAt.EqAt.none_int b t
    | str b => obtain ⟨t, rfl⟩ := rx; exact SeqAt.EqAt.none_str b t
    | _ => exact absurd (show false = true from fx) Bool.false_ne_true
  | bl a =>
    cases ry
    cases x with
    | non => cases rx; exact SeqAt.EqAt.bool_none a
    | bl b => cases rx; exact SeqAt.EqAt.bool_bool a b
    | int b => obtain ⟨t, rfl⟩ := rx; exact SeqAt.EqAt.bool_int a b t
    | str b => obtain ⟨t, rfl⟩ := rx; exact SeqAt.EqAt.bool_str a b t
    | _ => exact absurd (show false = true from fx) Bool.false_ne_true
  | int a =>
    obtain ⟨t', rfl⟩ := ry
    cases x with
    | non => cases rx; exact SeqAt.EqAt.int_none a t'
    | bl b => cases rx; exact SeqAt.EqAt.int_bool a t' b
    | int b => obtain ⟨t, rfl⟩ := rx; exact SeqAt.EqAt.int_int a t' b t
    | str b => obtain ⟨t, rfl⟩ := rx; exact SeqAt.EqAt.int_str a t' b t
    | _ => exact absurd (show false = true from fx) Bool.false_ne_true
  | str a =>
    obtain ⟨t', rfl⟩ := ry
    cases x with
    | non => cases rx; exact SeqAt.EqAt.str_none a t'
    | bl b => cases rx; exact SeqAt.EqAt.str_bool a t' b
    | int b => obtain ⟨t, rfl⟩ := rx; exact SeqAt.EqAt.str_int a t' b t
    | str b => obtain ⟨t, rfl⟩ := rx; exact SeqAt.EqAt.str_str a t' b t
    | _ => exact absurd (show false = true from fx) Bool.false_ne_true
  | _ => exact absurd (show false = true from fy) Bool.false_ne_true
/-- the items' answers, read off the values (a value's own answer does not lean on its token) -/
def eqU (x : V) (u : Value) : Bool := match u with
  | .none => eqV .non x
  | .bool b => eqV (.bl b) x
  | .int i _ => eqV (.int i) x
  | .str z _ => eqV (.str z) x
  | _ => false
theorem eqU_of {x y : V} {u : Value} (r : RelV y u) (f : flatV y = true) : eqU x u = eqV y x := by
  cases y with
  | non => cases r; rfl
  | bl b => cases r; rfl
  | int i => obtain ⟨t, rfl⟩ := r; rfl
  | str z => obtain ⟨t, rfl⟩ := r; rfl
  | _ => exact absurd (show false = true from f) Bool.false_ne_true
theorem any_eqU {x : V} : ∀ {xs : List V} {us : List Value}, Vals xs us → xs.all flatV = true → us.any (eqU x) = xs.any fun y => eqV y x
  | _, _, .nil, _ => rfl
  | y :: xs, u :: us, .cons r t, f => by
    rw [List.all_cons, Bool.and_eq_true] at f
    rw [List.any_cons, List.any_cons, eqU_of r f.1, any_eqU t f.2]
theorem mem_eqAt {A : Around} {s : Shared} {x : V} {v : Value} (rx : RelV x v) (fx : flatV x = true) : ∀ {xs : List V} {us : List Value}, Vals xs us → xs.all flatV = true → ∀ u ∈ us, SeqAt.EqAt A s u v (eqU x u)
  | _, _, .nil, _ => fun u hu => by cases hu
  | y :: xs, u :: us, .cons r t, f => fun u' hu => by
    rw [List.all_cons, Bool.and_eq_true] at f
    rcases List.mem_cons.mp hu with rfl | hu
    · rw [eqU_of r f.1]; exact eqAt_V r rx f.1 fx
    · exact mem_eqAt rx fx t f.2 u' hu
def inV (x : V) (xs : List V) : Bool := xs.any fun y => eqV y x
/-- x in a list or tuple of flat items -/
def rIn (K : PySem.W.Frag) (neg : Bool) : R2 := fun x y H Q => ∃ p xs, y = .ref p ∧ (SqL K H p xs ∨ SqT K H p xs) ∧ flatV x = true ∧ xs.all flatV = true ∧ Q (.bl (if neg then !inV x xs else inV x xs)) H
theorem op_notIn_seq : OpR X (compareOp .NotIn) (rIn X.K true) := by
  intro pins s σ H x y v u Q I rx ry h
  obtain ⟨p, xs, rfl, hq, fx, fs, q⟩ := h
  cases ry
  rcases hq with hq | hq
  · obtain ⟨its, r, pl, hz⟩ := I.list hq
    refine SeqAt.notIn_listAt (eqU x) pl.isList (fun w hw => mem_eqAt rx fx r fs w (by simpa using hw)) ⟨.bl _, H, I, rfl, ?_⟩
    rw [show its.toArray.any (eqU x) = its.any (eqU x) by simp, any_eqU r fs]
    exact q
  · obtain ⟨its, r, pl, hz⟩ := I.tuple hq
    refine SeqAt.notIn_tupleAt (eqU x) pl (fun w hw => mem_eqAt rx fx r fs w (by simpa using hw)) ⟨.bl _, H, I, rfl, ?_⟩
    rw [show its.toArray.any (eqU x) = its.any (eqU x) by simp, any_eqU r fs]
    exact q

/-! ### len, list(x), tuple(x) of any list or tuple that is read -/
theorem call_len_seq : CallR X (.builtin "len") (fun xs H Q => ∃ p ys, xs = [.ref p] ∧ (SqL X.K H p ys ∨ SqT X.K H p ys) ∧ Q (.int ys.length) H) := by
  intro pins s σ H xs us Q I r h
  obtain ⟨p, ys, rfl, hq, q⟩ := h
  obtain ⟨u, rfl, rx⟩ := vals1 r
  cases rx
  have hn := line63
  rcases hq with hq | hq
  · obtain ⟨its, r', pl, hz⟩ := I.list hq
    have hlen := r'.length
    exact Calls.call_len_list pl.isList (by simp only [List.size_toArray] <;> omega) ⟨.int ys.length, H, I.tok _, ⟨s.toks + 1, by rw [List.size_toArray, hlen]⟩, q⟩
  · obtain ⟨its, r', pl, hz⟩ := I.tuple hq
    have hlen := r'.length
    exact len_tuple pl (by simp only [List.size_toArray] <;> omega) ⟨.int ys.length, H, I.tok _, ⟨s.toks + 1, by rw [List.size_toArray, hlen]⟩, q⟩

/-! ### the call of a builtin's method: o.m(..) -/
/-- the value is of that builtin type -/
def tyV (K : PySem.W.Frag) (T : String) (x : V) (H : Hp) : Prop := match x with
  | .str _ => T = "str"
  | .int _ => T = "int"
  | .ref p => (T = "list" ∧ ∃ xs, SqL K H p xs) ∨ (T = "tuple" ∧ ∃ o, K.lookup p = some o ∧ o.cls = .type "tuple" ∧ o.dict = none) ∨
      (T = "dict" ∧ ((∃ kvs, H p = some (.dK kvs)) ∨ ∃ kvs, H p = some (.dT kvs))) ∨ (T = "set" ∧ ∃ S n, H p = some (.set S n))
  | _ => False
theorem tyV_is {pins : List (Addr × Obj)} {σ : St} {H : Hp} {s : Shared} {T : String} {x : V} {v : Value} (I : Inv X pins σ H s) (r : RelV x v) (ty : tyV X.K T x H) :
    s.TypeIs v T ∧ ∀ a, v = .ref a → ∃ ob, s.heap.get? a = some ob ∧ ob.dict = none := by
  cases x with
  | str z =>
    obtain ⟨t, rfl⟩ := r
    cases (show T = "str" from ty)
    exact ⟨typeIs_str s z t, fun _ e => nomatch e⟩
  | int i =>
    obtain ⟨t, rfl⟩ := r
    cases (show T = "int" from ty)
    exact ⟨typeIs_int s i t, fun _ e => nomatch e⟩
  | ref p =>
    cases r
    rcases ty with ⟨rfl, xs, hq⟩ | ⟨rfl, o, hk, hc, hd⟩ | ⟨rfl, hk⟩ | ⟨rfl, S, n, hk⟩
    · obtain ⟨its, _, pl, _⟩ := I.list hq
      refine ⟨pl.isList.typeIs, fun a e => ?_⟩
      cases e
      obtain ⟨o, n, e, c, hd, _⟩ := pl
      exact ⟨o, e, hd⟩
    · refine ⟨⟨o, I.kIn p o hk, hc⟩, fun a e => ?_⟩
      cases e
      exact ⟨o, I.kIn _ o hk, hd⟩
    · have z : ∃ o, s.heap.get? p = some o ∧ o.ExactDict := by
        rcases hk with ⟨kvs, hk⟩ | ⟨kvs, hk⟩
        · obtain ⟨_, _, _, _, o, _, _, e, ex, _⟩ := I.hok p _ hk
          exact ⟨o, e, ex⟩
        · obtain ⟨_, _, _, _, o, _, _, e, ex, _⟩ := I.hok p _ hk
          exact ⟨o, e, ex⟩
      obtain ⟨o, e, ex⟩ := z
      refine ⟨⟨o, e, ex.1⟩, fun a e2 => ?_⟩
      cases e2
      exact ⟨o, e, ex.2.1⟩
    · obtain ⟨o, _, _, _, e, ex, _⟩ := I.hok p _ hk
      refine ⟨⟨o, e, ex.1⟩, fun a e2 => ?_⟩
      cases e2
      exact ⟨o, e, ex.2.1⟩
  | _ => exact False.elim ty
def tBM0 (K : PySem.W.Frag) (T : String) (r : V → List V → Hp → VK → Prop) (to : TE) : TE := fun σ H Q => to σ H fun x H1 => tyV K T x H1 ∧ r x [] H1 Q
def tBM (K : PySem.W.Frag) (T : String) (r : V → List V → Hp → VK → Prop) (to : TE) (t : TA) : TE := fun σ H Q => to σ H fun x H1 => tyV K T x H1 ∧ t σ H1 fun xs H2 => r x xs H2 Q
variable {o e : Expr} {es : List Expr} {to : TE} {t : TA} {name : Str} {apos cpos : Pos} {T id : String} {r : V → List V → Hp → VK → Prop}
theorem pe_bm0 (pa : PlainAttrs T) (slot : Slot T name id) (hty : typeOf (.builtin id) = pure (.type "method_descriptor")) (hm : MtR X id r) (ho : PE X o to)
    (hbase : attributeBase o name X.env (eval o X.env) = eval o X.env := by rfl) (hline : (apos.endLine == cpos.line) = true := by rfl) : PE X (.Call (.Attribute o name apos) [] [] cpos) (tBM0 X.K T r to) := by
  intro pins s σ H Q I h
  refine wpAny_Call_method0_late hbase hline (thn (ho pins s σ H _ I h) fun v s1 ⟨x, H1, I1, r1, ty, q1⟩ => ?_)
  obtain ⟨h1, h2⟩ := tyV_is I1 r1 ty
  exact ⟨T, id, pa, slot, hty, h1, h2, Calls.callWith_builtin rfl (PySem.evalArgs_none (hm pins s1 σ H1 x [] v [] Q I1 r1 .nil q1))⟩
theorem pe_bm (pa : PlainAttrs T) (slot : Slot T name id) (hty : typeOf (.builtin id) = pure (.type "method_descriptor")) (hm : MtR X id r) (ho : PE X o to) (ha : PA X (e :: es) t)
    (hbase : attributeBase o name X.env (eval o X.env) = eval o X.env := by rfl)
    (hfew : ((backTo cpos (starEach (e :: es) X.env)).all (fun x => !x.1) && (backToKw cpos (keywordEach [] X.env)).all (fun x => x.1.isSome)
      && decide ((e :: es).length + ([] : List Keyword).length + (if ([] : List Keyword).isEmpty then 0 else 1) < 30)) = true := by rfl)
    (hline : (apos.endLine == cpos.line) = true := by rfl) (hs : starEach (e :: es) X.env = (false, eval e X.env) :: starEach es X.env := by rfl) (hplain : (backTo cpos (starEach es X.env)).any (·.1) = false := by rfl) :
    PE X (.Call (.Attribute o name apos) (e :: es) [] cpos) (tBM X.K T r to t) := by
  intro pins s σ H Q I h
  refine wpAny_Call_method_late hbase hfew hline rfl (thn (ho pins s σ H _ I h) fun v s1 ⟨x, H1, I1, r1, ty, q1⟩ => ?_)
  obtain ⟨h1, h2⟩ := tyV_is I1 r1 ty
  refine ⟨T, id, pa, slot, hty, h1, h2, ?_⟩
  have hA := ha cpos pins s1 σ H1 _ I1 q1
  rw [hs] at hA ⊢
  refine Calls.callWith_builtin (by show (false || (backTo cpos (starEach es X.env)).any (·.1)) = false; rw [hplain] <;> rfl) (Calls.evalArgs_plain ?_)
  exact thn hA fun us s2 ⟨vs, H2, I2, r2, q2⟩ => hm pins s2 σ H2 x vs v us Q I2 r1 r2 q2
/- xs.append(e), list.index on a module's tuple .. are MtR facts of 06m -/
end
end L2

namespace L2
open PySem PySem.Spec PyProof.Rows

def MtM (X : Cx) (id : String) (r : V → List V → Hp → VK → Prop) : Prop :=
  ∀ (pins : List (Addr × Obj)) (s : Shared) (σ : St) (H : Hp) (x : V) (xs : List V) (v : Value) (us : List Value) (Q : VK), Inv X pins σ H s → RelV x v → Vals xs us → r x xs H Q →
    wpAny (model X.prog X.w) X.A (call (.builtin id) (v :: us)) (EP X pins σ Q) X.xe s

/-! ### lists of values -/
theorem Vals.one : ∀ {x : V} {us : List Value}, Vals [x] us → ∃ u, us = [u] ∧ RelV x u
  | _, _, .cons r .nil => ⟨_, rfl, r⟩

section
variable {X : Cx} {pins : List (Addr × Obj)} {σ : St} {H : Hp} {s : Shared} {l b : Addr} {xs ys zs : List V}

/-! ### the two steps: a tracked list is rewritten, a new list is laid -/
theorem Inv.lset {its its' : List Value} {n : Nat} {f : Array Value → Array Value} {t' : Nat} (I : Inv X pins σ H s) (hH : H l = some (.lst xs))
    (e : s.heap.get? l = some { cls := .type "list", data := .seq its.toArray n }) (hf : f its.toArray = its'.toArray) (hv : Vals ys its') (hz : ys.length ≤ sizeLine) :
    Inv X pins σ (upd H l (.lst ys)) { s with heap := s.heap.update l (Obj.mapSeq f), toks := t' } := by
  have q := PySem.IsL.update e f
  rw [hf] at q
  refine I.write (x := l) (e := l) (by rw [hH]; exact trivial) (.inl rfl) (fun b' u hb hu => (Heap.get?_update_other s.heap (Obj.mapSeq f) (Ne.symm hb)).trans hu) ⟨_, q⟩ ?_
  exact ⟨hz, its', _, hv, q⟩
theorem Inv.lnew {its : List Value} {t' : Nat} (I : Inv X pins σ H s) (hv : Vals ys its) (hz : ys.length ≤ sizeLine) :
    Inv X pins σ (upd H s.heap.objs.size (.lst ys)) { s with heap := s.heap.push { cls := .type "list", data := .seq its.toArray }, toks := t' } :=
  I.laid (fun _ _ q => Heap.get?_push_of_some _ q) (Nat.le_refl _) ⟨hz, its, 0, hv, Heap.get?_push_size _ rfl⟩
theorem Inv.fresh (I : Inv X pins σ H s) : H s.heap.objs.size = none := I.hok.fresh (Nat.le_refl _)
theorem Inv.lstM (I : Inv X pins σ H s) (hH : H l = some (.lst xs)) : xs.length ≤ sizeLine ∧ ∃ (its : List Value) (n : Nat), Vals xs its ∧ xs.length = its.length ∧ s.heap.get? l = some { cls := .type "list", data := .seq its.toArray n } := by
  obtain ⟨z, its, n, r, e⟩ := I.hok l _ hH
  exact ⟨z, its, n, r, r.length, e⟩

theorem notLongL {n : Nat} (h : n ≤ sizeLine) : Builtin.List.listTooLong n = false := by
  unfold Builtin.List.listTooLong
  exact decide_eq_false (by omega)
end

section
variable {X : Cx}

/-! ### methods -/
def rAppend : V → List V → Hp → VK → Prop := fun x vs H Q => ∃ l xs y, x = .ref l ∧ vs = [y] ∧ H l = some (.lst xs) ∧ xs.length < sizeLine ∧ Q .non (upd H l (.lst (xs ++ [y])))
theorem mt_append : MtM X "list.append" rAppend := by
  intro pins s σ H x vs v us Q I rx rv h
  obtain ⟨l, xs, y, rfl, rfl, hH, hz, q⟩ := h
  cases rx
  obtain ⟨u, rfl, ru⟩ := rv.one
  obtain ⟨z, its, n, r, hl, e⟩ := I.lstM hH
  refine call_meets F.slot_list_append ⟨_, e, rfl⟩ F.entry_list_append (F.args_list_append_2 _ _) (PySem.list_append l its.toArray n u (by rw [List.size_toArray]; omega)) ⟨e, ?_⟩
  refine ⟨.non, _, I.lset (its' := its ++ [u]) hH e (by simp) (r.append (.cons ru .nil)) ?_, rfl, q⟩
  rw [List.length_append, List.length_singleton]
  omega

def rExtend : V → List V → Hp → VK → Prop := fun x vs H Q => ∃ l b xs zs, x = .ref l ∧ vs = [.ref b] ∧ H l = some (.lst xs) ∧ H b = some (.lst zs) ∧ xs.length + zs.length ≤ sizeLine ∧ Q .non (upd H l (.lst (xs ++ zs)))
theorem mt_extend : MtM X "list.extend" rExtend := by
  intro pins s σ H x vs v us Q I rx rv h
  obtain ⟨l, b, xs, zs, rfl, rfl, hH, hB, hz, q⟩ := h
  cases rx
  obtain ⟨u, rfl, ru⟩ := rv.one
  cases ru
  obtain ⟨z, its, n, r, hl, e⟩ := I.lstM hH
  obtain ⟨z2, its2, n2, r2, hl2, e2⟩ := I.lstM hB
  have hsz : its.toArray.size + its2.toArray.size ≤ sizeLine := by rw [List.size_toArray, List.size_toArray]; omega
  have hlong : ¬ (!its.toArray.isEmpty && Builtin.List.listTooLong (its.toArray.size + its2.toArray.size)) = true := by
    rw [notLongL hsz, Bool.and_false]
    exact Bool.false_ne_true
  refine call_meets F.slot_list_extend ⟨_, e, rfl⟩ F.entry_list_extend (F.args_list_extend_2 _ _)
    (AutoSeq1.list_extend_list_list_0 l its.toArray n b its2.toArray n2 hlong (by rw [List.size_toArray]; omega) (by omega)) ⟨e, e2, ?_⟩
  refine ⟨.non, _, I.lset (its' := its ++ its2) hH e (by simp) (r.append r2) ?_, rfl, q⟩
  rw [List.length_append]
  omega

def rPop : V → List V → Hp → VK → Prop := fun x vs H Q => ∃ l xs y, x = .ref l ∧ vs = [] ∧ H l = some (.lst xs) ∧ xs[xs.length - 1]? = some y ∧ Q y (upd H l (.lst xs.dropLast))

def rPopAt : V → List V → Hp → VK → Prop := fun x vs H Q => ∃ l xs i k y, x = .ref l ∧ vs = [.int i] ∧ H l = some (.lst xs) ∧ -(2 ^ 63) ≤ i ∧ i < 2 ^ 63 ∧ seqIndex? i xs.length = some k ∧ xs[k]? = some y ∧ Q y (upd H l (.lst (xs.eraseIdx k)))

def rReverse : V → List V → Hp → VK → Prop := fun x vs H Q => ∃ l xs, x = .ref l ∧ vs = [] ∧ H l = some (.lst xs) ∧ Q .non (upd H l (.lst xs.reverse))

def rClear : V → List V → Hp → VK → Prop := fun x vs H Q => ∃ l xs, x = .ref l ∧ vs = [] ∧ H l = some (.lst xs) ∧ Q .non (upd H l (.lst []))

/-! ### list + list, list += list, list * int -/
def rCat : R2 := fun x y H Q => ∃ l b xs zs, x = .ref l ∧ y = .ref b ∧ H l = some (.lst xs) ∧ H b = some (.lst zs) ∧ xs.length + zs.length ≤ sizeLine ∧ ∀ p, H p = none → Q (.ref p) (upd H p (.lst (xs ++ zs)))
theorem op_cat : OpR X (binaryOp .Add) rCat := by
  intro pins s σ H x y v u Q I rx ry h
  obtain ⟨l, b, xs, zs, rfl, rfl, hH, hB, hz, q⟩ := h
  cases rx
  cases ry
  obtain ⟨z, its, n, r, hl, e⟩ := I.lstM hH
  obtain ⟨z2, its2, n2, r2, hl2, e2⟩ := I.lstM hB
  refine PySem.P.add_list e e2 ?_ (by rw [List.size_toArray, List.size_toArray]; omega)
  have ea : its.toArray ++ its2.toArray = (its ++ its2).toArray := by simp
  rw [ea]
  exact ⟨.ref _, _, I.lnew (t' := s.toks) (r.append r2) (by rw [List.length_append]; omega), rfl, q _ I.fresh⟩
/-- a list times an int (a negative one is nothing) -/
def rRep : R2 := fun x y H Q => ∃ l k xs, x = .ref l ∧ y = .int k ∧ H l = some (.lst xs) ∧ -(2 ^ 63) ≤ k ∧ k < 2 ^ 63 ∧ xs.length * k.toNat ≤ sizeLine ∧
  ∀ p, H p = none → Q (.ref p) (upd H p (.lst (List.replicate k.toNat xs).flatten))

/-! ### del xs[i] -/
end

/-! ### xs[a:b] = ys -/
section
variable {prog : Program} {w : World} {A : Around} {E : Value → Shared → Prop} {s : Shared}
set_option maxRecDepth 100000 in
end

section
variable {X : Cx}
end
end L2

namespace L2
open PySem PySem.Spec PyProof.Rows

theorem Vals.ints : ∀ {ns : List Int} {us : List Value}, Vals (ns.map V.int) us → IntsAre us ns
  | [], us, h => by
    rw [List.map_nil] at h
    cases h
    exact IntsAre.nil
  | n :: ns, us, h => by
    rw [List.map_cons] at h
    cases h with
    | cons r t =>
      obtain ⟨k, rfl⟩ := r
      exact IntsAre.cons n k (Vals.ints t)
theorem Vals.bls : ∀ {bs : List Bool} {us : List Value}, Vals (bs.map V.bl) us → us = bs.map Value.bool
  | [], us, h => by
    rw [List.map_nil] at h
    cases h
    rfl
  | b :: bs, us, h => by
    rw [List.map_cons] at h
    cases h with
    | cons r t =>
      cases r
      rw [Vals.bls t, List.map_cons]
theorem Vals.ref1 {a : Addr} {us : List Value} (r : Vals [V.ref a] us) : us = [Value.ref a] := by
  cases r with
  | cons r t =>
    cases t
    cases r
    rfl

/-! ### the library's walks over a list of ints, kept objects alone -/
section
variable {prog : Program} {w : World} {A : Around} {E : Value → Shared → Prop} {s : Shared} {l : Addr} {its : List Value} {ns : List Int} {Q : Value → Shared → Prop}
theorem sum_raw (hh : A.handled = none) (hl : s.heap.IsList l its.toArray) (hi : IntsAre its ns)
    (h : ∀ h' tk t', (∀ b o, s.heap.get? b = some o → h'.get? b = some o) → Q (.int ns.sum t') { s with heap := h', toks := tk }) : wpAny (model prog w) A (call (.builtin "sum") [.ref l]) Q E s := by
  obtain ⟨xs, e⟩ := hi.allInts.items
  have hn : numsOf (intItems xs).toList = ns := by rw [← e]; exact hi.numsOf
  rw [nums_intItems] at hn
  rw [e] at hl
  refine PySem.sum_intListG hh hl fun h' tk t' hk => ?_
  have := h h' tk t' hk
  rw [preSum_eq, List.take_of_length_le (by simp), hn]; exact this
theorem max_raw (hh : A.handled = none) (hl : s.heap.IsList l its.toArray) (hi : IntsAre its ns) (hne : 0 < ns.length)
    (h : ∀ h' tk M t', (∀ b o, s.heap.get? b = some o → h'.get? b = some o) → M ∈ ns → (∀ a, a ∈ ns → a ≤ M) → Q (.int M t') { s with heap := h', toks := tk }) : wpAny (model prog w) A (call (.builtin "max") [.ref l]) Q E s := by
  obtain ⟨xs, e⟩ := hi.allInts.items
  have hn : numsOf (intItems xs).toList = ns := by rw [← e]; exact hi.numsOf
  rw [nums_intItems] at hn
  subst hn
  rw [e] at hl
  have hsz : 0 < xs.size := by simpa using hne
  refine PySem.max_intList hh hl hsz fun v h' tk hv hk => ?_
  obtain ⟨t, rfl⟩ := intItems_at hv
  obtain ⟨h1, h2⟩ := argBest_gt (numAt xs) (xs.size - 1)
  refine h h' tk _ t hk ?_ fun a ha => ?_
  · rw [numAt_eq]; exact PySem.getD_mem (by rw [List.length_map, Array.length_toList]; omega)
  · obtain ⟨j, hj, rfl⟩ := mem_getD ha
    rw [List.length_map, Array.length_toList] at hj
    rw [← numAt_eq]; exact h2 j (by omega)
theorem min_raw (hh : A.handled = none) (hl : s.heap.IsList l its.toArray) (hi : IntsAre its ns) (hne : 0 < ns.length)
    (h : ∀ h' tk M t', (∀ b o, s.heap.get? b = some o → h'.get? b = some o) → M ∈ ns → (∀ a, a ∈ ns → M ≤ a) → Q (.int M t') { s with heap := h', toks := tk }) : wpAny (model prog w) A (call (.builtin "min") [.ref l]) Q E s := by
  obtain ⟨xs, e⟩ := hi.allInts.items
  have hn : numsOf (intItems xs).toList = ns := by rw [← e]; exact hi.numsOf
  rw [nums_intItems] at hn
  subst hn
  rw [e] at hl
  have hsz : 0 < xs.size := by simpa using hne
  refine PySem.min_intList hh hl hsz fun v h' tk hv hk => ?_
  obtain ⟨t, rfl⟩ := intItems_at hv
  obtain ⟨h1, h2⟩ := argBest_lt (numAt xs) (xs.size - 1)
  refine h h' tk _ t hk ?_ fun a ha => ?_
  · rw [numAt_eq]; exact PySem.getD_mem (by rw [List.length_map, Array.length_toList]; omega)
  · obtain ⟨j, hj, rfl⟩ := mem_getD ha
    rw [List.length_map, Array.length_toList] at hj
    rw [← numAt_eq]; exact h2 j (by omega)
end

/-! ### the calls, by values (CallR of 03t; MtR of 06l) -/
section
variable {X : Cx}
/-- sum(xs) of a list of ints -/
def rSum (K : PySem.W.Frag) : List V → Hp → VK → Prop := fun vs H Q => ∃ (a : Addr) (ns : List Int), vs = [V.ref a] ∧ SqL K H a (ns.map V.int) ∧ Q (.int ns.sum) H
/-- max(xs), min(xs) of a list of ints -/
def rMax (K : PySem.W.Frag) : List V → Hp → VK → Prop := fun vs H Q => ∃ (a : Addr) (ns : List Int), vs = [V.ref a] ∧ SqL K H a (ns.map V.int) ∧ 0 < ns.length ∧ ∀ m, m ∈ ns → (∀ y, y ∈ ns → y ≤ m) → Q (.int m) H
def rMin (K : PySem.W.Frag) : List V → Hp → VK → Prop := fun vs H Q => ∃ (a : Addr) (ns : List Int), vs = [V.ref a] ∧ SqL K H a (ns.map V.int) ∧ 0 < ns.length ∧ ∀ m, m ∈ ns → (∀ y, y ∈ ns → m ≤ y) → Q (.int m) H
theorem cr_sum (hc : X.calm = true) : CallR X (.builtin "sum") (rSum X.K) := by
  intro pins s σ H vs us Q I r h
  obtain ⟨a, ns, rfl, hs, q⟩ := h
  obtain ⟨its, rv, hl, _⟩ := I.list hs
  rw [Vals.ref1 r]
  exact sum_raw (I.ok.hd hc) hl.isList rv.ints fun h' tk t' hk => ⟨.int _, H, I.kept hk, ⟨_, rfl⟩, q⟩
theorem cr_max (hc : X.calm = true) : CallR X (.builtin "max") (rMax X.K) := by
  intro pins s σ H vs us Q I r h
  obtain ⟨a, ns, rfl, hs, hne, q⟩ := h
  obtain ⟨its, rv, hl, _⟩ := I.list hs
  rw [Vals.ref1 r]
  exact max_raw (I.ok.hd hc) hl.isList rv.ints hne fun h' tk m t' hk h1 h2 => ⟨.int _, H, I.kept hk, ⟨_, rfl⟩, q m h1 h2⟩
theorem cr_min (hc : X.calm = true) : CallR X (.builtin "min") (rMin X.K) := by
  intro pins s σ H vs us Q I r h
  obtain ⟨a, ns, rfl, hs, hne, q⟩ := h
  obtain ⟨its, rv, hl, _⟩ := I.list hs
  rw [Vals.ref1 r]
  exact min_raw (I.ok.hd hc) hl.isList rv.ints hne fun h' tk m t' hk h1 h2 => ⟨.int _, H, I.kept hk, ⟨_, rfl⟩, q m h1 h2⟩

/-! sorted, sort (fewer than 64 items: the library's own bound) -/
def rSorted (K : PySem.W.Frag) : List V → Hp → VK → Prop := fun vs H Q => ∃ (a : Addr) (ns : List Int), vs = [V.ref a] ∧ SqL K H a (ns.map V.int) ∧ ns.length < 64 ∧
  ∀ (ns' : List Int) (p : Addr), ns'.Perm ns → ns'.Pairwise (· ≤ ·) → H p = none → Q (.ref p) (upd H p (.lst (ns'.map V.int)))
def rSortedS (K : PySem.W.Frag) : List V → Hp → VK → Prop := fun vs H Q => ∃ (a : Addr) (xs : List Str), vs = [V.ref a] ∧ SqL K H a (xs.map V.str) ∧ xs.length < 64 ∧
  ∀ (ys : List Str) (p : Addr), ys.Perm xs → sortedS ys = true → H p = none → Q (.ref p) (upd H p (.lst (ys.map V.str)))
/-- xs.sort(), ints -/
def rSort : V → List V → Hp → VK → Prop := fun x xs H Q => ∃ (a : Addr) (ns : List Int), x = V.ref a ∧ xs = [] ∧ H a = some (.lst (ns.map V.int)) ∧ ns.length < 64 ∧
  ∀ ns' : List Int, ns'.Perm ns → ns'.Pairwise (· ≤ ·) → Q .non (upd H a (.lst (ns'.map V.int)))
end

/-! ### list.index, flat items -/
section
variable {X : Cx}
def rIndex (K : PySem.W.Frag) : V → List V → Hp → VK → Prop := fun x xs H Q => ∃ (a : Addr) (ys : List V) (y : V) (j : Nat) (z : V), x = V.ref a ∧ xs = [y] ∧ SqL K H a ys ∧ flatV y = true ∧ ys.all flatV = true ∧ ys[j]? = some z ∧ eqV z y = true ∧
  (∀ (m : Nat) (z' : V), m < j → ys[m]? = some z' → eqV z' y = false) ∧ Q (.int (j : Nat)) H
theorem flat_at {ys : List V} (f : ys.all flatV = true) {j : Nat} {z : V} (h : ys[j]? = some z) : flatV z = true := List.all_eq_true.mp f z (List.mem_of_getElem? h)
theorem mt_index : MtR X "list.index" (rIndex X.K) := by
  intro pins s σ H x xs v us Q I rx rxs h
  obtain ⟨a, ys, y, j, z, rfl, rfl, hs, fy, fys, hz, hzj, hno, q⟩ := h
  cases rx
  cases rxs with
  | cons ry rt =>
    rename_i uy ut
    cases rt
    obtain ⟨its, rv, ⟨⟨cls, dd, data, sl⟩, n, ho, hc, hdn, hd⟩, hlen⟩ := I.list hs
    simp only at hc hd
    subst hc hd
    obtain ⟨u, hu, ru⟩ := rv.get hz
    obtain ⟨hjl, hje⟩ := List.getElem?_eq_some_iff.mp hu
    have hvl := rv.length
    have hj : j < its.toArray.size := by simpa using hjl
    have hsl := sizeLine_eq
    refine call_meets PySem.F.slot_list_index ⟨_, ho, rfl⟩ PySem.F.entry_list_index (PySem.F.args_list_index_2 _ _)
      (SeqAt.list_indexAt a its.toArray n dd sl uy (eqU y) j hj (by omega) ?_ ?_) ⟨ho, fun u' hu' => mem_eqAt ry fy rv fys u' (by simpa using hu'), ?_⟩
    · have e1 : its.toArray[j] = u := by simpa using hje
      rw [e1, eqU_of ru (flat_at fys hz)]
      exact hzj
    · intro m hm hmj
      have hml : m < its.length := by simpa using hm
      have hmy : m < ys.length := by omega
      have hy' : ys[m]? = some ys[m] := List.getElem?_eq_getElem hmy
      obtain ⟨u2, hu2, ru2⟩ := rv.get hy'
      obtain ⟨_, hme⟩ := List.getElem?_eq_some_iff.mp hu2
      have e1 : its.toArray[m] = u2 := by simpa using hme
      rw [e1, eqU_of ru2 (flat_at fys hy')]
      exact hno m _ hmj hy'
    · exact ⟨.int (j : Nat), H, I.tok _, ⟨_, rfl⟩, q⟩
end

/-! ### type(x) of an own instance; is, is not of a module's class -/
section
variable {X : Cx}
end

/-! ### any(xs), all(xs) of a list of bools -/
theorem iter_any {prog : Program} {w : World} {A : Around} {E : Value → Shared → Prop} {s : Shared} {l : Addr} {items : Array Value} {Q : Value → Shared → Prop} (hl : s.heap.IsList l items)
    (h : ∀ s₂ : Shared, s₂ = { s with heap := s.heap.push { cls := .type "list_iterator", data := .fields #[.ref l, .int 0 0] } } →
      (s₂.heap.IsListIter s.heap.objs.size l 0 ∧ s₂.heap.IsList l items) → l ≠ s.heap.objs.size → Q (.ref s.heap.objs.size) s₂) : wpAny (model prog w) A (pyIter (.ref l)) Q E s := by
  have hlt : l < s.heap.objs.size := by obtain ⟨_, e, _⟩ := hl; exact Heap.lt_size e
  exact wpAny_pyIter_list hl (h _ rfl ⟨⟨_, Heap.get?_push_size _ rfl, rfl, rfl⟩, hl.push _⟩ (Nat.ne_of_lt hlt))
theorem truth_bools {prog : Program} {w : World} {A : Around} {bs : List Bool} {its : List Value} (e : its = bs.map Value.bool) :
    TruthOf prog w A (fun i v => its.toArray[i]? = some v) (fun i => bs.getD i false) := fun i v s Q E hv hq => by
  have hv' : its[i]? = some v := by simpa using hv
  rw [e, List.getElem?_map] at hv'
  obtain ⟨b, hb, rfl⟩ := Option.map_eq_some_iff.mp hv'
  have hg : bs.getD i false = b := by rw [List.getD_eq_getElem?_getD, hb] <;> rfl
  have hq' : Q (bs.getD i false) s := hq
  rw [hg] at hq'
  exact wpAny_truthy_bool hq'
theorem all_range : ∀ bs : List Bool, (List.range bs.length).all (fun i => bs.getD i false) = bs.all id
  | [] => rfl
  | b :: bs => by
    rw [List.length_cons, List.range_succ_eq_map, List.all_cons, List.all_map, List.all_cons, ← all_range bs]
    all_goals rfl
section
variable {X : Cx}
def rAny (K : PySem.W.Frag) : List V → Hp → VK → Prop := fun vs H Q => ∃ (a : Addr) (bs : List Bool), vs = [V.ref a] ∧ SqL K H a (bs.map V.bl) ∧ Q (.bl (bs.any id)) H
def rAll (K : PySem.W.Frag) : List V → Hp → VK → Prop := fun vs H Q => ∃ (a : Addr) (bs : List Bool), vs = [V.ref a] ∧ SqL K H a (bs.map V.bl) ∧ Q (.bl (bs.all id)) H
theorem cr_all (hc : X.calm = true) : CallR X (.builtin "all") (rAll X.K) := by
  intro pins s σ H vs us Q I r h
  obtain ⟨a, bs, rfl, hs, q⟩ := h
  obtain ⟨its, rv, hl, _⟩ := I.list hs
  rw [Vals.ref1 r]
  have hb := rv.bls
  refine call_all_walk (iter_any hl.isList fun s₂ e2 st hne => ?_)
  subst e2
  refine ⟨_, _, _, _, _, _, _, rfl, Walks.list (A := X.A.in1) (I.ok.hd hc) _ a hne its.toArray, st, truth_bools hb, fun h' tk hk => ?_⟩
  refine ⟨.bl _, H, I.kept fun b o eo => hk b o (fun hmem => ?_) (Heap.get?_push_of_some _ eo), ?_, q⟩
  · rcases List.mem_cons.mp hmem with e1 | hmem
    · exact absurd (e1 ▸ Heap.lt_size eo) (Nat.lt_irrefl _)
    · cases hmem
  · show Value.bool _ = Value.bool _
    rw [← all_range, hb, List.size_toArray, List.length_map]
end

/-! ### == and != of data at any depth: none, bools, ints, texts, lists, tuples -/
mutual
inductive Dp (K : PySem.W.Frag) (H : Hp) : V → PyData → Prop
  | non : Dp K H .non .none
  | bl (b : Bool) : Dp K H (.bl b) (.bool b)
  | int (i : Int) : Dp K H (.int i) (.int i)
  | str (x : Str) : Dp K H (.str x) (.str x)
  | lst {a : Addr} {xs : List V} {ds : List PyData} : SqL K H a xs → DpAll K H xs ds → Dp K H (.ref a) (.list ds)
  | tup {a : Addr} {xs : List V} {ds : List PyData} : SqT K H a xs → DpAll K H xs ds → Dp K H (.ref a) (.tuple ds)
inductive DpAll (K : PySem.W.Frag) (H : Hp) : List V → List PyData → Prop
  | nil : DpAll K H [] []
  | cons {v : V} {vs : List V} {d : PyData} {ds : List PyData} : Dp K H v d → DpAll K H vs ds → DpAll K H (v :: vs) (d :: ds)
end
section
variable {X : Cx} {pins : List (Addr × Obj)} {σ : St} {H : Hp} {s : Shared}
end
section
variable {X : Cx}
def rEqD (K : PySem.W.Frag) : R2 := fun x y H Q => ∃ d e, Dp K H x d ∧ Dp K H y e ∧ SeqAt.shaped d = true ∧ SeqAt.shaped e = true ∧ Q (.bl (PyData.eqv d e)) H
def rNeD (K : PySem.W.Frag) : R2 := fun x y H Q => ∃ d e, Dp K H x d ∧ Dp K H y e ∧ SeqAt.shaped d = true ∧ SeqAt.shaped e = true ∧ Q (.bl (!PyData.eqv d e)) H
end
end L2

namespace L2
open PySem PySem.Spec PyProof.Rows
abbrev CellAt (h : Heap) (c : Addr) (v : Option Value) : Prop := h.IsCell c v
def relS (scope sc : Scope) : Scope :=
  { scope with names := scope.names.map fun (n, k) => if (k == .free && sc.kind == .function && sc.names.lookup n == some .cell) then (n, .cell) else (n, k) }

def cloFrom (cells : List (Str × Addr)) : List (Str × NameKind) → List (Str × Addr) → List (Str × Addr)
  | [], acc => acc
  | (n, k) :: r, acc => if k == .free then cloFrom cells r ((n, (cells.lookup n).getD 0) :: acc) else cloFrom cells r acc

theorem closure_loop (env : Env) (f : Str × NameKind → List (Str × Addr) → Sem (ForInStep (List (Str × Addr))))
    (hf : ∀ n k c, f (n, k) c = if k == .free then (do let a ← cellOf env n; pure (.yield ((n, a) :: c))) else pure (.yield c)) :
    ∀ (names : List (Str × NameKind)) (acc : List (Str × Addr)), (∀ y ∈ names, y.2 = .free → ∃ c, env.cells.lookup y.1 = some c) → forIn names acc f = pure (cloFrom env.cells names acc)
  | [], acc, _ => by rw [List.forIn_nil]; rfl
  | (n, k) :: r, acc, h => by
    rw [List.forIn_cons, hf]
    have ih := fun acc => closure_loop env f hf r acc fun y hy => h y (List.mem_cons_of_mem _ hy)
    unfold cloFrom
    by_cases hk : (k == NameKind.free) = true
    · rw [if_pos hk, if_pos hk]
      obtain ⟨c, hc⟩ := h (n, k) List.mem_cons_self (by simpa using hk)
      have e : cellOf env n = pure c := by unfold cellOf; rw [hc]
      rw [e]
      have e2 : (env.cells.lookup n).getD 0 = c := by rw [hc]; rfl
      rw [e2]
      exact ih _
    · rw [if_neg hk, if_neg hk]
      exact ih _
theorem closure_ok {scope : Scope} {env : Env} (h : ∀ y ∈ scope.names, y.2 = .free → ∃ c, env.cells.lookup y.1 = some c) : closureFor scope env = pure (cloFrom env.cells scope.names []) := by
  simp only [closureFor]
  rw [closure_loop env _ (fun n k c => rfl) scope.names [] h]
  rfl

theorem mem_lookup {α : Type} : ∀ {l : List (Str × α)} {n : Str} {c : α}, (n, c) ∈ l → ∃ c', l.lookup n = some c'
  | (k, v) :: r, n, c, h => by
    rw [List.lookup_cons]
    cases hb : n == k with
    | true => exact ⟨_, rfl⟩
    | false =>
      rcases List.mem_cons.mp h with e | h
      · cases e; simp at hb
      · exact mem_lookup h

theorem cloFrom_mem {cells : List (Str × Addr)} : ∀ {names : List (Str × NameKind)} {acc : List (Str × Addr)} {n : Str} {c : Addr}, (n, c) ∈ cloFrom cells names acc → (n, c) ∈ acc ∨ ((n, .free) ∈ names ∧ c = (cells.lookup n).getD 0)
  | [], _, _, _, h => .inl h
  | (m, k) :: r, acc, n, c, h => by
    unfold cloFrom at h
    split at h
    · rename_i hk
      have hk : k = .free := by simpa using hk
      rcases cloFrom_mem h with h | ⟨h1, h2⟩
      · rcases List.mem_cons.mp h with e | h
        · cases e; exact .inr ⟨hk ▸ List.mem_cons_self, rfl⟩
        · exact .inl h
      · exact .inr ⟨List.mem_cons_of_mem _ h1, h2⟩
    · rcases cloFrom_mem h with h | ⟨h1, h2⟩
      · exact .inl h
      · exact .inr ⟨List.mem_cons_of_mem _ h1, h2⟩
theorem cloFrom_acc {cells : List (Str × Addr)} : ∀ {names : List (Str × NameKind)} {acc : List (Str × Addr)} {p : Str × Addr}, p ∈ acc → p ∈ cloFrom cells names acc
  | [], _, _, h => h
  | (m, k) :: r, acc, p, h => by
    unfold cloFrom
    split
    · exact cloFrom_acc (List.mem_cons_of_mem _ h)
    · exact cloFrom_acc h
theorem cloFrom_has {cells : List (Str × Addr)} : ∀ {names : List (Str × NameKind)} {acc : List (Str × Addr)} {n : Str}, (n, .free) ∈ names → (n, (cells.lookup n).getD 0) ∈ cloFrom cells names acc
  | (m, k) :: r, acc, n, h => by
    unfold cloFrom
    rcases List.mem_cons.mp h with e | h
    · cases e
      exact cloFrom_acc List.mem_cons_self
    · split
      · exact cloFrom_has h
      · exact cloFrom_has h

theorem cells_mem : ∀ {names : List (Str × NameKind)} {h : Heap} {acc : List (Str × Addr)} {x : Str} {c : Addr}, (x, c) ∈ cellsFrom h.objs.size names acc →
    (x, c) ∈ acc ∨ ((x, .cell) ∈ names ∧ h.objs.size ≤ c ∧ CellAt (pushCells h names) c none)
  | [], _, _, _, _, h => .inl h
  | (n, k) :: r, h, acc, x, c, hm => by
    unfold cellsFrom at hm
    unfold pushCells
    split at hm
    · rename_i hk
      rw [if_pos hk]
      have hk : k = .cell := by simpa using hk
      rw [← Heap.size_push h { cls := .type "cell", data := .cell none }] at hm
      rcases cells_mem hm with hm | ⟨h1, h2, h3⟩
      · rcases List.mem_cons.mp hm with e | hm
        · cases e
          exact .inr ⟨hk ▸ List.mem_cons_self, Nat.le_refl _, _, pushCells_keeps r _ _ _ (Heap.get?_push_size _ rfl), rfl⟩
        · exact .inl hm
      · rw [Heap.size_push] at h2
        exact .inr ⟨List.mem_cons_of_mem _ h1, Nat.le_of_succ_le h2, h3⟩
    · rename_i hk
      rw [if_neg hk]
      rcases cells_mem hm with hm | ⟨h1, h2, h3⟩
      · exact .inl hm
      · exact .inr ⟨List.mem_cons_of_mem _ h1, h2, h3⟩
theorem cells_acc : ∀ {names : List (Str × NameKind)} {n : Nat} {acc : List (Str × Addr)} {p : Str × Addr}, p ∈ acc → p ∈ cellsFrom n names acc
  | [], _, _, _, h => h
  | (m, k) :: r, n, acc, p, h => by
    unfold cellsFrom
    split
    · exact cells_acc (List.mem_cons_of_mem _ h)
    · exact cells_acc h
theorem cells_has : ∀ {names : List (Str × NameKind)} {n : Nat} {acc : List (Str × Addr)} {x : Str}, (x, .cell) ∈ names → ∃ c, (x, c) ∈ cellsFrom n names acc
  | (m, k) :: r, n, acc, x, h => by
    unfold cellsFrom
    rcases List.mem_cons.mp h with e | h
    · cases e
      exact ⟨n, cells_acc List.mem_cons_self⟩
    · split
      · exact cells_has h
      · exact cells_has h
theorem cells_inj : ∀ {names : List (Str × NameKind)} {h : Heap} {acc : List (Str × Addr)} {x y : Str} {c : Addr}, (∀ p ∈ acc, p.2 < h.objs.size) → (∀ x y c, (x, c) ∈ acc → (y, c) ∈ acc → x = y) →
    (x, c) ∈ cellsFrom h.objs.size names acc → (y, c) ∈ cellsFrom h.objs.size names acc → x = y
  | [], _, _, _, _, _, _, hi, h1, h2 => hi _ _ _ h1 h2
  | (n, k) :: r, h, acc, x, y, c, hl, hi, h1, h2 => by
    unfold cellsFrom at h1 h2
    split at h1
    · rename_i hk
      rw [if_pos hk] at h2
      rw [← Heap.size_push h { cls := .type "cell", data := .cell none }] at h1 h2
      refine cells_inj (h := h.push _) (fun p hp => ?_) (fun x y c a b => ?_) h1 h2
      · rw [Heap.size_push]
        rcases List.mem_cons.mp hp with rfl | hp
        · exact Nat.lt_succ_self _
        · exact Nat.lt_succ_of_lt (hl p hp)
      · rcases List.mem_cons.mp a with e | a <;> rcases List.mem_cons.mp b with e' | b
        · cases e; cases e'; rfl
        · cases e; exact absurd (hl _ b) (Nat.lt_irrefl _)
        · cases e'; exact absurd (hl _ a) (Nat.lt_irrefl _)
        · exact hi _ _ _ a b
    · rename_i hk
      rw [if_neg hk] at h2
      exact cells_inj hl hi h1 h2

theorem newEnv_comp {M : Model} {A : Around} {E : Value → Shared → Prop} {s : Shared} {scope : Scope} {globals : Addr} {closure : List (Str × Addr)} {qual : Str} {func : Option Addr} {code : Value} {around : Env} {builtins : Addr} {Q : Env → Shared → Prop}
    (h : Q (newEnv scope s.heap.objs.size globals (cellsFrom (s.heap.objs.size + 1) scope.names closure) qual func code (some around) builtins)
      { s with heap := pushCells (s.heap.push { cls := .type "dict", data := .dict #[] }) scope.names }) :
    wpAny M A (newFunctionEnv scope globals closure [] qual func code (some around) builtins) Q E s := by
  simp only [newFunctionEnv, Option.isSome_some, if_true]
  refine wpAny_bind (wpAny_alloc ?_)
  refine wpAny_bind (wpAny_layCells _ (fun n k c => rfl) scope.names closure _ _ ?_)
  rw [show ({ s with heap := s.heap.push { cls := .type "dict", data := .dict #[] } } : Shared).heap.objs.size = s.heap.objs.size + 1 from Heap.size_push ..]
  rw [List.forIn_nil]
  exact wpAny_bind (wpAny_pure (wpAny_pure h))

/-- every name of the written scope, in the scope that runs -/
theorem lookup_relS {sc : Scope} : ∀ {names : List (Str × NameKind)} {x : Str} {k : NameKind},
    (names.map fun (n, k) => if (k == NameKind.free && sc.kind == .function && sc.names.lookup n == some .cell) then (n, NameKind.cell) else (n, k)).lookup x = some k →
    ∃ k', names.lookup x = some k' ∧ (k = k' ∨ (k' = .free ∧ k = .cell))
  | [], _, _, h => by simp at h
  | (n, k₀) :: r, x, k, h => by
    have ih := @lookup_relS sc r x k
    have h' : List.lookup x ((if (k₀ == NameKind.free && sc.kind == .function && sc.names.lookup n == some .cell) = true then (n, NameKind.cell) else (n, k₀)) :: (r.map _)) = some k := h
    cases hx : x == n with
    | true =>
      simp only [List.lookup_cons, hx]
      by_cases hc : (k₀ == NameKind.free && sc.kind == .function && sc.names.lookup n == some .cell) = true
      · rw [if_pos hc] at h'
        simp only [List.lookup_cons, hx] at h'
        cases h'
        simp only [Bool.and_eq_true, beq_iff_eq] at hc
        exact ⟨k₀, rfl, .inr ⟨hc.1.1, rfl⟩⟩
      · rw [if_neg hc] at h'
        simp only [List.lookup_cons, hx] at h'
        cases h'
        exact ⟨_, rfl, .inl rfl⟩
    | false =>
      simp only [List.lookup_cons, hx]
      by_cases hc : (k₀ == NameKind.free && sc.kind == .function && sc.names.lookup n == some .cell) = true
      · rw [if_pos hc] at h'
        simp only [List.lookup_cons, hx] at h'
        exact ih h'
      · rw [if_neg hc] at h'
        simp only [List.lookup_cons, hx] at h'
        exact ih h'



/-- the names of a comprehension's block: its own (with their places in N), or captured -/
structure BlkOk (N : List Str) (sc scope : Scope) (own : List (Str × Nat)) : Prop where
  kind : scope.kind = .function
  uniq : ∀ y ∈ scope.names, scope.names.lookup y.1 = some y.2
  ix : ∀ p ∈ own, N[p.2]? = some p.1
  free : ∀ y ∈ scope.names, y.2 = .free → sc.names.lookup y.1 = some .cell ∨ sc.names.lookup y.1 = some .free
  own : ∀ y ∈ scope.names, y.2 = .local ∨ y.2 = .cell → y.1 ∈ own.map (·.1) ∨ y.1 ∉ N
/-- the slots of the block's own names forgotten -/
def wipe (σ : St) : List Nat → St
  | [] => σ
  | v :: vs => (wipe σ vs).set v none
theorem wipe_length (σ : St) : ∀ vs : List Nat, (wipe σ vs).length = σ.length
  | [] => rfl
  | v :: vs => by unfold wipe; rw [List.length_set, wipe_length σ vs]
theorem wipe_some {σ : St} {i : Nat} {x : V} : ∀ {vs : List Nat}, (wipe σ vs)[i]? = some (some x) → σ[i]? = some (some x) ∧ i ∉ vs
  | [], h => ⟨h, by simp⟩
  | v :: vs, h => by
    unfold wipe at h
    by_cases hi : v = i
    · subst hi
      by_cases hv : v < (wipe σ vs).length
      · rw [List.getElem?_set_self hv] at h; cases h
      · rw [List.getElem?_eq_none (by simpa using hv)] at h; cases h
    · rw [List.getElem?_set_ne hi] at h
      obtain ⟨h1, h2⟩ := wipe_some h
      exact ⟨h1, by simp only [List.mem_cons, not_or]; exact ⟨fun e => hi e.symm, h2⟩⟩

/-- the context of a block that starts at s, its iterator's objects at fp -/
abbrev Cx.blk (X : Cx) (s : Shared) (H : Hp) (scope : Scope) (cenv : Env) (fp : List Addr) : Cx := { X with s_0 := s, H_0 := H, env := cenv, outer := X.stack, ex := fp, fn := fun x => scope.names.lookup x == some .cell, pn := [], xe := fun _ _ => False }
section
variable {X : Cx} {pins : List (Addr × Obj)} {σ : St} {H : Hp} {s : Shared}
theorem block_start {scope : Scope} {own : List (Str × Nat)} {fp : List Addr} (I : Inv X pins σ H s) (ok : BlkOk X.N X.env.scope scope own) (hN : X.N.Nodup) (hfp : ∀ b ∈ fp, FpOk X pins H b ∧ b < s.heap.objs.size) :
    Inv (X.blk s H scope (compEnvC scope (cellsFrom (s.heap.objs.size + 1) scope.names (cloFrom X.env.cells scope.names [])) s.heap.objs.size X.env) fp) [] (wipe σ (own.map (·.2))) H { s with heap := pushCells (s.heap.push { cls := .type "dict", data := .dict #[] }) scope.names } := by
  have hfree : ∀ y ∈ scope.names, y.2 = .free → ∃ c, X.env.cells.lookup y.1 = some c := fun y hy e => by
    rcases ok.free y hy e with k | k
    · exact I.ok.has _ (.inl k)
    · exact I.ok.has _ (.inr k)
  generalize hcenv : compEnvC scope (cellsFrom (s.heap.objs.size + 1) scope.names (cloFrom X.env.cells scope.names [])) s.heap.objs.size X.env = cenv
  have kp : ∀ b o, s.heap.get? b = some o → (pushCells (s.heap.push { cls := .type "dict", data := .dict #[] }) scope.names).get? b = some o := fun b o e => pushCells_keeps _ _ _ _ (Heap.get?_push_of_some _ e)
  have hL : cenv.locals = s.heap.objs.size := by rw [← hcenv]; rfl
  have hcl : cenv.cells = cellsFrom (s.heap.objs.size + 1) scope.names (cloFrom X.env.cells scope.names []) := by rw [← hcenv]; rfl
  have hsc : cenv.scope = relS scope X.env.scope := by rw [← hcenv]; rfl
  rw [← Heap.size_push s.heap { cls := .type "dict", data := .dict #[] }] at hcl
  have cm : ∀ {y c}, (y, c) ∈ cloFrom X.env.cells scope.names [] → X.env.cells.lookup y = some c ∧ c < s.heap.objs.size := fun {y c} hm => by
    rcases cloFrom_mem hm with hm | ⟨h1, rfl⟩
    · cases hm
    · obtain ⟨c, hc⟩ := hfree _ h1 rfl
      rw [hc]
      obtain ⟨w, z⟩ := I.cell _ _ hc
      exact ⟨rfl, z.lt⟩
  have mem : ∀ {y c}, cenv.cells.lookup y = some c → (X.env.cells.lookup y = some c ∧ c < s.heap.objs.size) ∨ (s.heap.objs.size + 1 ≤ c ∧ CellAt (pushCells (s.heap.push { cls := .type "dict", data := .dict #[] }) scope.names) c none) := fun {y c} e => by
    rw [hcl] at e
    rcases cells_mem (PySem.mem_of_lookup e) with hm | ⟨_, h2, h3⟩
    · exact .inl (cm hm)
    · rw [Heap.size_push] at h2; exact .inr ⟨h2, h3⟩
  have look : ∀ {y}, scope.names.lookup y = some .free → ∃ c, cenv.cells.lookup y = some c ∧ X.env.cells.lookup y = some c := fun {y} hl => by
    have hy : (y, NameKind.free) ∈ scope.names := PySem.mem_of_lookup hl
    obtain ⟨c', e'⟩ := mem_lookup (cells_acc (names := scope.names) (n := (s.heap.push { cls := .type "dict", data := .dict #[] }).objs.size) (cloFrom_has (cells := X.env.cells) (acc := []) hy))
    rw [← hcl] at e'
    refine ⟨c', e', ?_⟩
    rw [hcl] at e'
    rcases cells_mem (PySem.mem_of_lookup e') with hm | ⟨h1, _, _⟩
    · exact (cm hm).1
    · have := ok.uniq _ h1
      rw [hl] at this; cases this
  have okB : (X.blk s H scope cenv fp).Ok := by
    refine ⟨I.ok.mod, by show cenv.scope.kind = _; rw [hsc]; exact ok.kind, by show cenv.globals = _; rw [← hcenv]; exact I.ok.glob, by show cenv.builtins = _; rw [← hcenv]; exact I.ok.blt, by show s.heap.objs.size ≤ cenv.locals; rw [hL]; exact Nat.le_refl _,
      fun y z c e1 e2 => ?_, fun y hy => ?_, fun y c z e => ?_, I.ok.hd, I.ok.frames, .inl rfl, fun b hb => ⟨?_, fun y c e z => ?_⟩, I.bs, Nat.le_trans I.ok.bsz I.sz, fun b o e hb => ?_, fun b hb z => ?_, I.stack, I.stkFree⟩
    · have e1 : cenv.cells.lookup y = some c := e1
      have e2 : cenv.cells.lookup z = some c := e2
      rw [hcl] at e1 e2
      refine cells_inj (fun p hp => ?_) (fun y z c a b => I.ok.inj y z c (cm a).1 (cm b).1) (PySem.mem_of_lookup e1) (PySem.mem_of_lookup e2)
      rw [Heap.size_push]
      exact Nat.lt_succ_of_lt (cm (y := p.1) (c := p.2) hp).2
    · show ∃ c, cenv.cells.lookup y = some c
      have key : ∀ k, cenv.kindOf y = some k → (k = .cell ∨ k = .free) → ∃ c, cenv.cells.lookup y = some c := fun k hk hk' => by
        unfold Env.kindOf at hk
        rw [hsc] at hk
        obtain ⟨k', e, r⟩ := lookup_relS hk
        have : k' = .cell ∨ k' = .free := by
          rcases r with rfl | ⟨rfl, _⟩
          · exact hk'
          · exact .inr rfl
        rcases this with rfl | rfl
        · obtain ⟨c, hm⟩ := cells_has (n := (s.heap.push { cls := .type "dict", data := .dict #[] }).objs.size) (acc := cloFrom X.env.cells scope.names []) (PySem.mem_of_lookup e)
          obtain ⟨c', e'⟩ := mem_lookup hm
          exact ⟨c', by rw [hcl]; exact e'⟩
        · obtain ⟨c, h1, _⟩ := look e
          exact ⟨c, h1⟩
      rcases hy with hy | hy
      · exact key _ hy (.inl rfl)
      · exact key _ hy (.inr rfl)
    · have z : (scope.names.lookup y == some NameKind.cell) = true := z
      have z : scope.names.lookup y = some .cell := by simpa using z
      have e : cenv.cells.lookup y = some c := e
      rw [hcl] at e
      rcases cells_mem (PySem.mem_of_lookup e) with hm | ⟨_, h2, _⟩
      · rcases cloFrom_mem hm with hm | ⟨h1, _⟩
        · cases hm
        · have q := ok.uniq _ h1
          rw [z] at q; cases q
      · rw [Heap.size_push] at h2
        exact Nat.le_of_succ_le h2
    · show b ≠ cenv.locals
      rw [hL]; exact Nat.ne_of_lt (hfp b hb).2
    · have e : cenv.cells.lookup y = some c := e
      rcases mem e with ⟨h1, _⟩ | ⟨h1, _⟩
      · exact (hfp b hb).1.2.2.2.2.1 y c h1 z
      · have h2 : s.heap.objs.size + 1 ≤ b := by rw [← z]; exact h1
        exact absurd (Nat.lt_of_lt_of_le (hfp b hb).2 (Nat.le_of_succ_le h2)) (Nat.lt_irrefl _)
    · rcases (hfp b hb).1.2.2.2.1 with z | z
      · exact I.ok.noex b o e z
      · exact absurd (Nat.lt_of_lt_of_le (Heap.lt_size e) (Nat.le_trans I.ok.bsz z)) (Nat.lt_irrefl _)
    · rcases List.mem_cons.mp (I.stkSub b z) with z | z
      · exact (hfp b hb).1.2.1 z
      · exact (hfp b hb).1.2.2.1 z
  refine ⟨okB, rfl, I.bare, Un.kept kp, ⟨fun _ => none, ?_, fun i y av e1 e2 e3 => ?_⟩, fun y c e => ?_, ?_, fun y c e => ?_, fun p hp => ?_, I.hok.kept kp, by rw [wipe_length]; exact I.len⟩
  · show Heap.Ns _ cenv.locals _
    rw [hL]
    exact Heap.Ns.keeps (Heap.Ns.new ..) fun b o e => pushCells_keeps _ _ _ _ e
  · obtain ⟨e2, hne⟩ := wipe_some e2
    have hfr : scope.names.lookup y = some .free ∧ (cenv.kindOf y = some .cell ∨ cenv.kindOf y = some .free) := by
      have key : ∀ k, cenv.scope.names.lookup y = some k → k = .local ∨ k = .cell ∨ k = .free → scope.names.lookup y = some .free ∧ (cenv.kindOf y = some .cell ∨ cenv.kindOf y = some .free) := fun k hk hk' => by
        have hk0 := hk
        rw [hsc] at hk
        obtain ⟨k', e, r⟩ := lookup_relS hk
        have no : ¬ (k' = .local ∨ k' = .cell) := fun hh => by
          rcases ok.own _ (PySem.mem_of_lookup e) hh with e' | e'
          · obtain ⟨p, hp, hpy⟩ := List.mem_map.mp e'
            have e3 := ok.ix p hp
            have : p.1 = y := hpy
            rw [this] at e3
            exact hne (List.mem_map.mpr ⟨p, hp, nodup_ix hN e3 e1⟩)
          · exact e' (List.mem_of_getElem? e1)
        rcases r with rfl | ⟨rfl, rfl⟩
        · rcases hk' with rfl | rfl | rfl
          · exact absurd (.inl rfl) no
          · exact absurd (.inr rfl) no
          · exact ⟨e, .inr hk0⟩
        · exact ⟨e, .inl hk0⟩
      have e3 : Vis cenv.scope y := e3
      rcases e3 with e3 | e3 | e3
      · exact key _ e3 (.inl rfl)
      · exact key _ e3 (.inr (.inl rfl))
      · exact key _ e3 (.inr (.inr rfl))
    obtain ⟨m, hn, hl⟩ := I.loc
    have hvis : Vis X.env.scope y := (ok.free _ (PySem.mem_of_lookup hfr.1) rfl).elim (fun k => .inr (.inl k)) (fun k => .inr (.inr k))
    obtain ⟨w, r, q⟩ := hl i y av e1 e2 hvis
    refine ⟨w, r, .inr ⟨hfr.2, ?_⟩⟩
    obtain ⟨c, h1, h2⟩ := look hfr.1
    rcases q with ⟨k, _⟩ | ⟨_, c', e', z⟩
    · have k : X.env.scope.names.lookup y = some .local := k
      rcases ok.free _ (PySem.mem_of_lookup hfr.1) rfl with k' | k' <;> rw [show X.env.scope.names.lookup y = _ from k'] at k <;> cases k
    · rw [h2] at e'; cases e'
      exact ⟨c, h1, z.keeps kp⟩
  · have e : cenv.cells.lookup y = some c := e
    rcases mem e with ⟨h1, _⟩ | ⟨_, z⟩
    · obtain ⟨w, z⟩ := I.cell y c h1
      exact ⟨w, z.keeps kp⟩
    · exact ⟨_, z⟩
  · show H cenv.locals = none
    rw [hL]; exact I.hok.fresh (Nat.le_refl _)
  · have e : cenv.cells.lookup y = some c := e
    rcases mem e with ⟨h1, _⟩ | ⟨h1, _⟩
    · exact I.freeC y c h1
    · exact I.hok.fresh (Nat.le_of_succ_le h1)
  · exact absurd (show p ∈ ([] : List (Addr × Obj)) ++ [] from hp) (by simp)

/-- an item appended to a tracked list -/
theorem app_ok {E : Value → Shared → Prop} {D : Addr} {xs : List V} {y : V} {v : Value} {Q : Value → Shared → Prop} (I : Inv X pins σ H s) (hD : H D = some (.lst xs)) (hz : xs.length < sizeLine) (r : RelV y v)
    (h : ∀ s', Inv X pins σ (upd H D (.lst (xs ++ [y]))) s' → Q .none s') : wpAny (model X.prog X.w) X.A (call (.builtin "list.append") [.ref D, v]) Q E s := by
  obtain ⟨hz', its, n, ri, e⟩ := I.hok D _ hD
  have hl := ri.length
  refine append_at (hsz := by rw [List.size_toArray]; omega) e fun h' sb ho' => ?_
  refine h { s with heap := h' } (I.write (t' := s.toks) (by rw [hD]; trivial) (.inl rfl) (fun b u hb q => (sb.2 b hb).trans q) ⟨_, ho'⟩ ⟨by rw [List.length_append]; exact hz, its ++ [v], n + 1, ri.append (.cons r .nil), ?_⟩)
  rw [ho']
  simp

/-- a clause's tests -/
def PTs (X : Cx) (ifs : List Expr) (t : TT) : Prop :=
  ∀ (pins : List (Addr × Obj)) (s : Shared) (σ : St) (H : Hp) (Q : Bool → Hp → Prop), Inv X pins σ H s → t σ H Q →
    wpAny (model X.prog X.w) X.A (forIn ifs true fun c r => if r = true then do let ok ← isTrue c X.env (eval c X.env); pure (ForInStep.yield ok) else pure (ForInStep.yield r)) (TP X pins σ Q) X.xe s
def tYes : TT := fun _ H Q => Q true H
theorem pts_nil : PTs X [] tYes := fun _ _ _ H _ I h => wpAny_tests_nil ⟨H, I, h⟩
theorem pts_one {c : Expr} {t : TT} (h : PT X c t) : PTs X [c] t := fun pins s σ H Q I hw => wpAny_tests_one (h pins s σ H Q I hw)
end

theorem thnF {α : Type} {t : Sem α} {Q Q' : α → Shared → Prop} {M : Model} {A : Around} {E : Value → Shared → Prop} {s : Shared} (h : wpAny M A t Q (fun _ _ => False) s) (hQ : ∀ a s, Q a s → Q' a s) : wpAny M A t Q' E s := wpAny_mono h hQ fun _ _ z => False.elim z

/-- the loop of a list comprehension's block, the target of any form (codeAny_compLoop_tests asks a target that no tuple goes to; statement and proof follow it, PyProof/CompMap.lean:41-61, with the step letOwnedTupleGo kept) -/
theorem compLoop_any {prog : Program} {w : World} {A : Around} {R : Result → Shared → Prop} {s : Shared} {elt target iter : Expr} {ifs : List Expr} {scope : Scope} {pos : Pos} {it acc : Value} {env : Env} (I : Nat → Shared → Prop)
    (turn : ∀ n s, I n s → wpAny (model prog w) A (pyNext it) (fun r s₁ => match r with
      | none => R (.ok .next) s₁
      | some v => wpAny (model prog w) A (letOwnedTupleGo target it v) (fun _ s₁' => wpAny (model prog w) A (assign target env v) (fun _ s₂ =>
          wpAny (model prog w) A (forIn ifs true fun c r => if r = true then do let ok ← isTrue c env (eval c env); pure (ForInStep.yield ok) else pure (ForInStep.yield r)) (fun ok s₃ =>
            if ok = true then wpAny (model prog w) A (eval elt env) (fun x s₄ =>
              wpAny (model prog w) A (call (.builtin "list.append") [acc, x]) (fun _ s₅ => ∃ m, m < n ∧ I m s₅) (notedBy (model prog w) A env fun e s' => R (.error e) s') s₄) (notedBy (model prog w) A env fun e s' => R (.error e) s') s₃
            else ∃ m, m < n ∧ I m s₃) (notedBy (model prog w) A env fun e s' => R (.error e) s') s₂) (notedBy (model prog w) A env fun e s' => R (.error e) s') s₁') (notedBy (model prog w) A env fun e s' => R (.error e) s') s₁) (notedBy (model prog w) A env fun e s' => R (.error e) s') s)
    (n : Nat) (h : I n s) :
    codeAny (model prog w) A (.compLoop (.ListComp elt [⟨target, iter, ifs, 0⟩] scope pos) 0 it acc env) R s := by
  refine codeAny_loop rfl I (fun n s hI => ?_) n h
  show wpAny _ A ((compTurn (.ListComp elt [⟨target, iter, ifs, 0⟩] scope pos) 0 it acc env).onRaise (fun x => do noteFrame x env; theTreesLotGoes x)) _ _ s
  refine wpAny_noted ?_
  rw [compTurn_list]
  refine wpAny_bind (wpAny_standAt (wpAny_bind (wpAny_mono (turn n s hI) (fun r s₁ h₁ => ?_) fun _ _ h' => h')))
  cases r with
  | none => exact wpAny_pure h₁
  | some v =>
    refine wpAny_bind (wpAny_mono h₁ (fun _ s₁' h₁' => ?_) fun _ _ h' => h')
    refine wpAny_bind (wpAny_mono h₁' (fun _ s₂ h₂ => wpAny_bind (wpAny_mono h₂ (fun ok s₃ h₃ => ?_) fun _ _ h' => h')) fun _ _ h' => h')
    cases ok with
    | false => exact wpAny_pure ⟨rfl, h₃⟩
    | true =>
      exact wpAny_bind (wpAny_bind (wpAny_mono h₃ (fun x s₄ h₄ => wpAny_bind (wpAny_mono h₄ (fun _ s₅ h₅ => wpAny_pure (wpAny_pure ⟨rfl, h₅⟩)) fun _ _ h' => h')) fun _ _ h' => h'))

section
variable {X : Cx}
/-- [elt for target in iter if ..]: D the new list; W by the turn and a measure, Nx what a turn is to reach -/
def tLc (wi : TI) (g : TG) (tt : TT) (te : TE) (vs : List Nat) : TE := fun σ H Q => wi σ H fun J H1 => ∀ D, H1 D = none → ∃ W : Nat → Nat → Hp → Prop, (∃ m, W 0 m (upd H1 D (.lst []))) ∧ ∀ i m H, W i m H →
  (J.stop i H ∧ Q (.ref D) H) ∨ (J.go i H ∧ ∃ Nx : Hp → Prop, (∀ H', Nx H' → ∃ m', m' < m ∧ W (i + 1) m' H') ∧ ∀ x H', J.yld i H x H' → g x (wipe σ vs) H' fun σ2 H2 => wipe σ2 vs = wipe σ vs ∧ tt σ2 H2 fun b H3 =>
    if b = true then te σ2 H3 fun y H4 => ∃ acc, H4 D = some (.lst acc) ∧ acc.length < sizeLine ∧ Nx (upd H4 D (.lst (acc ++ [y]))) else Nx H3)
theorem lc_core {pins : List (Addr × Obj)} {s : Shared} {σ : St} {H : Hp} {Q : VK} {elt tg iter : Expr} {ifs : List Expr} {scope : Scope} {own : List (Str × Nat)} {pos pos' : Pos} {wi : TI} {g : TG} {tt : TT} {te : TE} {use : Option (Value → Sem Unit)} {Qf : Value → Shared → Prop}
    (hc : X.calm = true) (hN : X.N.Nodup) (I : Inv X pins σ H s) (hi : PI X tg iter wi) (ok : BlkOk X.N X.env.scope scope own)
    (hg : ∀ (s : Shared) (H : Hp) (C : Addr) (cl : List (Str × Addr)) (fp : List Addr), PG (X.blk s H scope (compEnvC scope cl C X.env) fp) tg g) (ht : ∀ (s : Shared) (H : Hp) (C : Addr) (cl : List (Str × Addr)) (fp : List Addr), PTs (X.blk s H scope (compEnvC scope cl C X.env) fp) ifs tt)
    (he : ∀ (s : Shared) (H : Hp) (C : Addr) (cl : List (Str × Addr)) (fp : List Addr), PE (X.blk s H scope (compEnvC scope cl C X.env) fp) elt te) (hs : ∀ x, foldedSetIterable iter X.env x = pure x)
    (h : tLc wi g tt te (own.map (·.2)) σ H Q)
    (hRR : ∀ D C s' m H', Inv X pins σ H' s' → Q (.ref D) H' → s'.heap.Ns C m → FpOk X pins H' C → compPost (model X.prog X.w) X.A X.xe use Qf (.ref D) C (.ok .next) s') :
    wpAny (model X.prog X.w) X.A (comprehension (.ListComp elt [⟨tg, iter, ifs, 0⟩] scope pos) scope X.env pos' (newList []) false (eval iter X.env) use) Qf X.xe s := by
  have hfree : ∀ y ∈ scope.names, y.2 = .free → ∃ c, X.env.cells.lookup y.1 = some c := fun y hy e => by
    rcases ok.free y hy e with k | k
    · exact I.ok.has _ (.inl k)
    · exact I.ok.has _ (.inr k)
  refine wpAny_comprehension_free (use := use) rfl hs (closure_ok hfree) ok.kind (fun y hy e => by rw [ok.uniq y hy, e])
    (thn (hi pins s σ H _ I h) fun xv s1 hx => thn hx fun itv s2 h2 => ?_)
  obtain ⟨it, fp, tn, J, H2, e, I2, T, st2, f2, q⟩ := h2
  subst e
  refine wpAny_newObj_type (newEnv_comp ?_) (by show 0 ≤ sizeLine; decide)
  generalize hD : s2.heap.objs.size = D
  have hDn : H2 D = none := I2.hok.fresh (Nat.le_of_eq hD)
  obtain ⟨W, ⟨m0, w0⟩, turn⟩ := q D hDn
  -- the new list
  generalize hs3 : ({ s2 with heap := s2.heap.push { cls := .type "list", data := .seq ([] : List Value).toArray } } : Shared) = s3
  have I3 : Inv X pins σ (upd H2 D (.lst [])) s3 := by
    rw [← hs3]
    refine I2.laid (t' := s2.toks) (fun b o e => Heap.get?_push_of_some _ e) (Nat.le_of_eq hD) ⟨Nat.zero_le _, [], 0, .nil, ?_⟩
    rw [← hD]
    exact Heap.get?_push_size _ rfl
  have h3 : s3.heap = s2.heap.push { cls := .type "list", data := .seq ([] : List Value).toArray } := by rw [← hs3]
  have sz : ∀ b ∈ fp, b < s2.heap.objs.size := fun b hb => by
    obtain ⟨o, e, _⟩ := T.obj _ _ st2 b hb
    exact Heap.lt_size e
  have f3 : ∀ b ∈ fp, FpOk X pins (upd H2 D (.lst [])) b ∧ b < s3.heap.objs.size := fun b hb => by
    have hlt := sz b hb
    refine ⟨⟨?_, (f2 b hb).2⟩, by rw [h3, Heap.size_push]; exact Nat.lt_succ_of_lt hlt⟩
    rw [upd_ne (by rw [← hD]; exact Nat.ne_of_lt hlt)]
    exact (f2 b hb).1
  have st3 : tn 0 s3.heap := T.keep _ _ _ st2 fun b _ o e => by rw [h3]; exact Heap.get?_push_of_some _ e
  have I4 := block_start I3 ok hN f3
  have pg := hg s3 (upd H2 D (.lst [])) s3.heap.objs.size (cellsFrom (s3.heap.objs.size + 1) scope.names (cloFrom X.env.cells scope.names [])) fp
  have pt := ht s3 (upd H2 D (.lst [])) s3.heap.objs.size (cellsFrom (s3.heap.objs.size + 1) scope.names (cloFrom X.env.cells scope.names [])) fp
  have pe := he s3 (upd H2 D (.lst [])) s3.heap.objs.size (cellsFrom (s3.heap.objs.size + 1) scope.names (cloFrom X.env.cells scope.names [])) fp
  show codeAny _ _ (.compStart (.ListComp elt [⟨tg, iter, ifs, 0⟩] scope pos) 0 (.ref it) (.ref D) (compEnvC scope (cellsFrom (s3.heap.objs.size + 1) scope.names (cloFrom X.env.cells scope.names [])) s3.heap.objs.size X.env)) (compPost (model X.prog X.w) X.A X.xe use Qf (.ref D) s3.heap.objs.size) { s3 with heap := pushCells (s3.heap.push { cls := .type "dict", data := .dict #[] }) scope.names }
  have nfp : ∀ b ∈ fp, (upd H2 D (.lst [])) b = none := fun b hb => (f3 b hb).1.1
  generalize hce : compEnvC scope (cellsFrom (s3.heap.objs.size + 1) scope.names (cloFrom X.env.cells scope.names [])) s3.heap.objs.size X.env = ce at I4 pg pt pe ⊢
  have cL : ce.locals = s3.heap.objs.size := by subst hce; rfl
  generalize hH3 : upd H2 D (.lst []) = H3 at I3 I4 pg pt pe w0 nfp f3
  generalize hs4 : ({ s3 with heap := pushCells (s3.heap.push { cls := .type "dict", data := .dict #[] }) scope.names } : Shared) = s4 at I4 ⊢
  have st4 : tn 0 s4.heap := T.keep _ _ _ st3 fun b _ o e => by rw [← hs4]; exact pushCells_keeps _ _ _ _ (Heap.get?_push_of_some _ e)
  have stat : ∀ {σ' : St} {H' : Hp} {s' : Shared}, Inv (X.blk s3 H3 scope ce fp) [] σ' H' s' → (∀ b ∈ fp, H' b = none) → ∀ b ∈ fp, FpOk (X.blk s3 H3 scope ce fp) [] H' b := fun {σ' H' s'} I' hn b hb =>
    ⟨hn b hb, (I'.ok.exf b hb).1, I'.ok.exfs b hb, .inl hb, fun x c e => (I'.ok.exf b hb).2 x c e, fun p hp => absurd (show p ∈ ([] : List (Addr × Obj)) ++ [] from hp) (by simp)⟩
  have loop : codeAny (model X.prog X.w) X.A (.compLoop (.ListComp elt [⟨tg, iter, ifs, 0⟩] scope pos) 0 (.ref it) (.ref D) ce) (compPost (model X.prog X.w) X.A X.xe use Qf (.ref D) s3.heap.objs.size) s4 := by
    refine compLoop_any (fun n s' => ∃ i H', Inv (X.blk s3 H3 scope ce fp) [] (wipe σ (own.map (·.2))) H' s' ∧ tn i s'.heap ∧ (∀ b ∈ fp, H' b = none) ∧ W i n H') ?_ m0 ⟨0, H3, I4, st4, nfp, w0⟩
    rintro n s5 ⟨i, H5, I5, st5, n5, w5⟩
    rcases turn i n H5 w5 with ⟨stop, qq⟩ | ⟨go, Nx, hNx, step⟩
    · have td := T.done (X.blk s3 H3 scope ce fp) rfl rfl rfl hc i [] s5 _ H5 (fun _ _ => False) I5 (stat I5 n5) st5 stop
      refine thnF td fun r s6 ⟨hr, I6⟩ => ?_
      subst hr
      -- back in the def's context
      have I7 : Inv X pins σ H5 s6 := I3.call' (ch := fp) I6.os I6.base I6.hok I6.bare fun b hb => ⟨(f3 b hb).1.2.2.2.1, (f3 b hb).1.2.1, (f3 b hb).1.2.2.2.2.1, (f3 b hb).1.2.2.2.2.2⟩
      have nC : H5 s3.heap.objs.size = none := by
        have z : H5 ce.locals = none := I6.free
        rw [cL] at z
        exact z
      obtain ⟨m, hn, _⟩ := I6.loc
      have hn : s6.heap.Ns ce.locals m := hn
      rw [cL] at hn
      exact hRR D s3.heap.objs.size s6 m H5 I7 qq hn (I3.fpOk (Nat.le_refl _) nC)
    · have ti := T.item (X.blk s3 H3 scope ce fp) rfl rfl rfl hc i [] s5 _ H5 (fun _ _ => False) I5 (stat I5 n5) st5 go
      refine thnF ti fun r s6 ⟨u, hr, h6⟩ => ?_
      subst hr
      refine thnF h6 fun _ s7 ⟨x, H7, I7, r7, y7, st7, n7⟩ => ?_
      have I7' := I7.pinned (stat I7 n7) (T.obj _ _ st7)
      refine thnF (pg _ s7 _ H7 x u _ I7' r7 (step x H7 y7)) fun _ s8 ⟨σ8, H8, I8, hw8, q8⟩ => ?_
      refine thnF (pt _ s8 σ8 H8 _ I8 q8) fun b s9 ⟨H9, I9, q9⟩ => ?_
      -- the turn's end
      have fin : ∀ {s' : Shared} {H' : Hp}, Inv (X.blk s3 H3 scope ce fp) ([] ++ pinsAt fp s7.heap) σ8 H' s' → Nx H' → ∃ m, m < n ∧ ∃ i H', Inv (X.blk s3 H3 scope ce fp) [] (wipe σ (own.map (·.2))) H' s' ∧ tn i s'.heap ∧ (∀ b ∈ fp, H' b = none) ∧ W i m H' := fun {s' H'} I' nx => by
        obtain ⟨m', hm, w'⟩ := hNx H' nx
        have pin' : ∀ b ∈ fp, ∀ o, s7.heap.get? b = some o → s'.heap.get? b = some o ∧ H' b = none := fun b hb o e =>
          let z := I'.pin (b, o) (List.mem_append_right _ (List.mem_append_right _ (mem_pinsAt hb e)))
          ⟨z.1, z.2.1⟩
        have hl : (wipe σ (own.map (·.2))).length = σ8.length := by rw [← hw8, wipe_length]
        refine ⟨m', hm, i + 1, H', (I'.unpinned (pins := [])).weak hl (fun j v e => ?_), T.keep _ _ _ st7 fun b hb o e => (pin' b hb o e).1, fun b hb => ?_, w'⟩
        · rw [← hw8] at e
          exact (wipe_some e).1
        · obtain ⟨o, e, _⟩ := T.obj _ _ st7 b hb
          exact (pin' b hb o e).2
      cases b with
      | false =>
        simp only [Bool.false_eq_true, if_false] at q9 ⊢
        exact fin I9 q9
      | true =>
        simp only [if_true] at q9 ⊢
        refine thnF (pe _ s9 σ8 H9 _ I9 q9) fun z s10 ⟨yv, H10, I10, r10, acc, hD10, hz10, nx⟩ => ?_
        exact app_ok (X := X.blk s3 H3 scope ce fp) I10 hD10 hz10 r10 fun s11 I11 => fin I11 nx
  exact codeAny_compStart_list loop (T.self X.A 0 _ _ _ st4 loop)
/-- as a value -/
theorem pe_lc {elt tg iter : Expr} {ifs : List Expr} {scope : Scope} {own : List (Str × Nat)} {pos : Pos} {wi : TI} {g : TG} {tt : TT} {te : TE} (hc : X.calm = true) (hN : X.N.Nodup) (hi : PI X tg iter wi) (ok : BlkOk X.N X.env.scope scope own)
    (hg : ∀ (s : Shared) (H : Hp) (C : Addr) (cl : List (Str × Addr)) (fp : List Addr), PG (X.blk s H scope (compEnvC scope cl C X.env) fp) tg g) (ht : ∀ (s : Shared) (H : Hp) (C : Addr) (cl : List (Str × Addr)) (fp : List Addr), PTs (X.blk s H scope (compEnvC scope cl C X.env) fp) ifs tt)
    (he : ∀ (s : Shared) (H : Hp) (C : Addr) (cl : List (Str × Addr)) (fp : List Addr), PE (X.blk s H scope (compEnvC scope cl C X.env) fp) elt te) (hs : ∀ x, foldedSetIterable iter X.env x = pure x := by intro _; rfl) :
    PE X (.ListComp elt [⟨tg, iter, ifs, 0⟩] scope pos) (tLc wi g tt te (own.map (·.2))) := by
  intro pins s σ H Q I h
  rw [eval_ListComp]
  refine lc_core hc hN I hi ok hg ht he hs h fun D C s' m H' I' q hn f => ⟨m, hn, fun h'' sb => ?_⟩
  obtain ⟨f0, f1, f2, f3, f4, f5⟩ := f
  exact ⟨.ref D, H', I'.turned (t' := s'.toks) (fun b o hb e => (sb.2 b hb).trans e) f0 f1 f3 f4 f5, rfl, q⟩
/-- name = [..] on one line, the name a local -/
theorem ps_setLc {i : Nat} {y : Str} {py : Pos} {elt tg iter : Expr} {ifs : List Expr} {scope : Scope} {own : List (Str × Nat)} {pos spos : Pos} {wi : TI} {g : TG} {tt : TT} {te : TE} (hc : X.calm = true) (hN : X.N.Nodup) (hy : X.N[i]? = some y) (hyl : X.env.scope.names.lookup y = some .local)
    (hsw : swapsWith (.ListComp elt [⟨tg, iter, ifs, 0⟩] scope pos) (some (.Name y py)) spos.line X.env = pure true) (hi : PI X tg iter wi) (ok : BlkOk X.N X.env.scope scope own)
    (hg : ∀ (s : Shared) (H : Hp) (C : Addr) (cl : List (Str × Addr)) (fp : List Addr), PG (X.blk s H scope (compEnvC scope cl C X.env) fp) tg g) (ht : ∀ (s : Shared) (H : Hp) (C : Addr) (cl : List (Str × Addr)) (fp : List Addr), PTs (X.blk s H scope (compEnvC scope cl C X.env) fp) ifs tt)
    (he : ∀ (s : Shared) (H : Hp) (C : Addr) (cl : List (Str × Addr)) (fp : List Addr), PE (X.blk s H scope (compEnvC scope cl C X.env) fp) elt te) (hs : ∀ x, foldedSetIterable iter X.env x = pure x := by intro _; rfl) :
    PS X (.Assign [.Name y py] (.ListComp elt [⟨tg, iter, ifs, 0⟩] scope pos) spos) (tAsg (tLc wi g tt te (own.map (·.2))) (gName i)) := by
  intro pins s σ H D I h
  rw [exec_Assign_Name_used _ _ _ _ hsw]
  refine wpAny_bind (wpAny_standAt (wpAny_bind ?_))
  show wpAny _ X.A (do let _ ← comprehension (.ListComp elt [⟨tg, iter, ifs, 0⟩] scope pos) scope X.env (firstIterPos [⟨tg, iter, ifs, 0⟩] pos) (newList []) false (eval iter X.env) (some (assign (.Name y py) X.env))) _ _ s
  have h : tLc wi g tt te (own.map (·.2)) σ H (fun x H1 => gName i x σ H1 D.nx) := h
  refine wpAny_bind (thn (lc_core (Qf := fun _ s' => SP X pins D .next s') hc hN I hi ok hg ht he hs h fun L C s' m H' I' q hn f => ?_) fun _ s' hq => wpAny_pure (wpAny_pure hq))
  show wpAny _ _ (assign (.Name y py) X.env (.ref L)) _ _ _
  refine wpAny_assign_Name (store_ok2 (v := V.ref L) I' hN hy (.inl hyl) rfl (fun s2 I2 ⟨a, sb, ha⟩ => ?_) (.inr hyl))
  obtain ⟨f0, f1, f2, f3, f4, f5⟩ := f
  have haC : C ≠ a := by
    rcases ha with z | z
    · rw [z]; exact f1
    · exact fun e => f4 y a z e.symm
  refine ⟨m, hn.sameBut sb haC, fun h3 sb3 => ?_⟩
  exact ⟨_, H', I2.turned (t' := s2.toks) (fun b o hb e => (sb3.2 b hb).trans e) f0 f1 f3 f4 f5, q⟩
theorem sw_true {elt : Expr} {gs : List Comprehension} {scope : Scope} {pos py : Pos} {y : Str} {l : Nat} {env : Env} (hk : env.scope.kind = .function) (hy : env.scope.names.lookup y = some .local) (hl : (py.line == pos.line) = true)
    (ha : (scope.names.any fun (n, k) => n == y && (k == .local || k == .cell)) = false) : swapsWith (.ListComp elt gs scope pos) (some (.Name y py)) l env = pure true := by
  have ky : env.kindOf y = some .local := hy
  have hb : env.blockKind = .function := by unfold Env.blockKind; rw [hk]; rfl
  unfold swapsWith
  simp only [hb, ky, ha, Expr.pos, hl]
  rfl
end

/-! ### the forms one uses -/
/-- over a range: Pv by the turn and the heap (the new list at D within) -/
theorem lc_range {lo : Int} {n : Nat} {g : TG} {tt : TT} {te : TE} {vs : List Nat} {σ : St} {H1 : Hp} {D : Addr} {Qd : Hp → Prop} (Pv : Nat → Hp → Prop) (h0 : Pv 0 (upd H1 D (.lst [])))
    (hs : ∀ i H, i < n → Pv i H → g (.int (lo + i)) (wipe σ vs) H fun σ2 H2 => wipe σ2 vs = wipe σ vs ∧ tt σ2 H2 fun b H3 =>
      if b = true then te σ2 H3 fun y H4 => ∃ acc, H4 D = some (.lst acc) ∧ acc.length < sizeLine ∧ Pv (i + 1) (upd H4 D (.lst (acc ++ [y]))) else Pv (i + 1) H3) (hd : ∀ H, Pv n H → Qd H) :
    ∃ W : Nat → Nat → Hp → Prop, (∃ m, W 0 m (upd H1 D (.lst []))) ∧ ∀ i m H, W i m H →
      ((Itr lo n).stop i H ∧ Qd H) ∨ ((Itr lo n).go i H ∧ ∃ Nx : Hp → Prop, (∀ H', Nx H' → ∃ m', m' < m ∧ W (i + 1) m' H') ∧ ∀ x H', (Itr lo n).yld i H x H' → g x (wipe σ vs) H' fun σ2 H2 => wipe σ2 vs = wipe σ vs ∧ tt σ2 H2 fun b H3 =>
        if b = true then te σ2 H3 fun y H4 => ∃ acc, H4 D = some (.lst acc) ∧ acc.length < sizeLine ∧ Nx (upd H4 D (.lst (acc ++ [y]))) else Nx H3) := by
  refine ⟨fun i m H => m = n - i ∧ i ≤ n ∧ Pv i H, ⟨n, by simp, Nat.zero_le _, h0⟩, ?_⟩
  rintro i m H ⟨rfl, hi, p⟩
  by_cases hlt : i < n
  · refine .inr ⟨hlt, Pv (i + 1), fun H' p' => ⟨n - (i + 1), by omega, rfl, hlt, p'⟩, fun x H' y => ?_⟩
    obtain ⟨e, y⟩ := y
    subst e y
    exact hs i _ hlt p
  · have e : i = n := by omega
    subst e
    exact .inl ⟨Nat.le_refl _, hd H p⟩
/-- over a list that the block leaves as it is -/
theorem lc_list {K : PySem.W.Frag} {a : Addr} {xs : List V} {g : TG} {tt : TT} {te : TE} {vs : List Nat} {σ : St} {H1 : Hp} {D : Addr} {Qd : Hp → Prop} (Pv : Nat → Hp → Prop) (h0 : Pv 0 (upd H1 D (.lst []))) (hl : ∀ i H, i ≤ xs.length → Pv i H → SqL K H a xs)
    (hs : ∀ i x H, xs[i]? = some x → Pv i H → g x (wipe σ vs) H fun σ2 H2 => wipe σ2 vs = wipe σ vs ∧ tt σ2 H2 fun b H3 =>
      if b = true then te σ2 H3 fun y H4 => ∃ acc, H4 D = some (.lst acc) ∧ acc.length < sizeLine ∧ Pv (i + 1) (upd H4 D (.lst (acc ++ [y]))) else Pv (i + 1) H3) (hd : ∀ H, Pv xs.length H → Qd H) :
    ∃ W : Nat → Nat → Hp → Prop, (∃ m, W 0 m (upd H1 D (.lst []))) ∧ ∀ i m H, W i m H →
      ((Itl K a).stop i H ∧ Qd H) ∨ ((Itl K a).go i H ∧ ∃ Nx : Hp → Prop, (∀ H', Nx H' → ∃ m', m' < m ∧ W (i + 1) m' H') ∧ ∀ x H', (Itl K a).yld i H x H' → g x (wipe σ vs) H' fun σ2 H2 => wipe σ2 vs = wipe σ vs ∧ tt σ2 H2 fun b H3 =>
        if b = true then te σ2 H3 fun y H4 => ∃ acc, H4 D = some (.lst acc) ∧ acc.length < sizeLine ∧ Nx (upd H4 D (.lst (acc ++ [y]))) else Nx H3) := by
  refine ⟨fun i m H => m = xs.length - i ∧ i ≤ xs.length ∧ Pv i H, ⟨xs.length, by simp, Nat.zero_le _, h0⟩, ?_⟩
  rintro i m H ⟨rfl, hi, p⟩
  have q := hl i H hi p
  by_cases hlt : i < xs.length
  · refine .inr ⟨⟨xs, xs[i], q, by simp [hlt]⟩, Pv (i + 1), fun H' p' => ⟨xs.length - (i + 1), by omega, rfl, hlt, p'⟩, fun x H' y => ?_⟩
    obtain ⟨e, y⟩ := y
    subst e
    exact hs i x _ (y xs q) p
  · have e : i = xs.length := by omega
    subst e
    exact .inl ⟨⟨xs, q, Nat.le_refl _⟩, hd H p⟩
def blkC (N : List Str) (sc scope : Scope) (own : List (Str × Nat)) : Bool :=
  (match scope.kind with | .function => true | _ => false) && (scope.names.all fun y => decide (scope.names.lookup y.1 = some y.2)) && (own.all fun p => decide (N[p.2]? = some p.1)) &&
    (scope.names.all fun y => match y.2 with
      | .free => (match sc.names.lookup y.1 with | some .cell => true | some .free => true | _ => false)
      | .local => decide (y.1 ∈ own.map (·.1)) || decide (y.1 ∉ N)
      | .cell => decide (y.1 ∈ own.map (·.1)) || decide (y.1 ∉ N)
      | _ => true)
theorem blkOk_by {N : List Str} {sc scope : Scope} {own : List (Str × Nat)} (h : blkC N sc scope own = true) : BlkOk N sc scope own := by
  unfold blkC at h
  simp only [Bool.and_eq_true, List.all_eq_true, decide_eq_true_eq] at h
  obtain ⟨⟨⟨h1, h2⟩, h3⟩, h4⟩ := h
  refine ⟨?_, h2, h3, fun y hy e => ?_, fun y hy e => ?_⟩
  · split at h1
    · assumption
    · cases h1
  · have q := h4 y hy
    simp only [e] at q
    split at q <;> first | exact .inl (by assumption) | exact .inr (by assumption) | cases q
  · have q := h4 y hy
    rcases e with e | e <;> (simp only [e, Bool.or_eq_true, decide_eq_true_eq] at q; exact q)
end L2

namespace L2
open PySem PySem.Spec PyProof.Rows


section
variable {prog : Program} {w : World} {A : Around} {R : Result → Shared → Prop} {s : Shared} {elt t0 i0 t1 i1 : Expr} {ifs0 ifs1 : List Expr} {scope : Scope} {pos : Pos} {it acc : Value} {env : Env}
end

section
variable {X : Cx}
/-- [elt for tg in iter if .. for tg1 in iter1 if ..]: behind the first clause's store and tests the second source's own loop, from which Nx is reached. vs: the block's names; vs1: those of the second target -/
def tLc2 (wi : TI) (g : TG) (tt : TT) (wi1 : TI) (g1 : TG) (tt1 : TT) (te : TE) (vs vs1 : List Nat) : TE := fun σ H Q => wi σ H fun J H1 => ∀ D, H1 D = none → ∃ W : Nat → Nat → Hp → Prop, (∃ m, W 0 m (upd H1 D (.lst []))) ∧ ∀ i m H, W i m H →
  (J.stop i H ∧ Q (.ref D) H) ∨ (J.go i H ∧ ∃ Nx : Hp → Prop, (∀ H', Nx H' → ∃ m', m' < m ∧ W (i + 1) m' H') ∧ ∀ x H', J.yld i H x H' → g x (wipe σ vs) H' fun σ2 H2 => wipe σ2 vs = wipe σ vs ∧ tt σ2 H2 fun b H3 =>
    if b = true then wi1 σ2 H3 fun J1 H4 => ∃ W1 : Nat → Nat → Hp → Prop, (∃ m, W1 0 m H4) ∧ ∀ j k H, W1 j k H →
      (J1.stop j H ∧ Nx H) ∨ (J1.go j H ∧ ∃ Nx1 : Hp → Prop, (∀ H', Nx1 H' → ∃ k', k' < k ∧ W1 (j + 1) k' H') ∧ ∀ x H', J1.yld j H x H' → g1 x (wipe σ2 vs1) H' fun σ3 H5 => wipe σ3 vs1 = wipe σ2 vs1 ∧ tt1 σ3 H5 fun b H6 =>
        if b = true then te σ3 H6 fun y H7 => ∃ acc, H7 D = some (.lst acc) ∧ acc.length < sizeLine ∧ Nx1 (upd H7 D (.lst (acc ++ [y]))) else Nx1 H6)
    else Nx H3)
end
end L2

namespace L2
open PySem PySem.Spec PyProof.Rows

/-! ### lists of pairs as tables -/
section
variable {κ : Type} [DecidableEq κ]
def valV (kvs : List (κ × V)) (k : κ) : Option V := (kvs.find? fun kv => decide (kv.1 = k)).map (·.2)
/-- in its place, or at the end -/
def putK (kvs : List (κ × V)) (k : κ) (v : V) : List (κ × V) :=
  if (kvs.any fun kv => decide (kv.1 = k)) = true then kvs.map (fun kv => if kv.1 = k then (kv.1, v) else kv) else kvs ++ [(k, v)]
def dropK (kvs : List (κ × V)) (k : κ) : List (κ × V) := kvs.filter fun kv => decide (kv.1 ≠ k)



end


/-! ### a tracked dict, its keys ints and texts or tuples of these -/

/-- raw entries of a dict with tuple keys -/
abbrev KT (H : Hp) : List (List Key × V) → List (List Key × Addr × Value) → Prop := Paired fun p q => p.1 = q.1 ∧ H q.2.1 = some (.tup (p.1.map kV)) ∧ RelV p.2 q.2.2

section
variable {P : Program} {w : World} {H : Hp} {h : Heap} {a : Addr}
end

/-- what the dict at a holds at the key y -/
def DGet (H : Hp) (a : Addr) (y : V) (r : Option V) : Prop :=
  (∃ kvs k, Rd H a (.dK kvs) ∧ y = kV k ∧ r = valV kvs k) ∨ ∃ kvs k b, Rd H a (.dT kvs) ∧ y = .ref b ∧ H b = some (.tup (k.map kV)) ∧ r = valV kvs k
/-- the heap behind a[y] = v -/
def DPut (H : Hp) (a : Addr) (y v : V) (H' : Hp) : Prop :=
  (∃ kvs k, H a = some (.dK kvs) ∧ y = kV k ∧ kvs.length < sizeLine ∧ H' = upd H a (.dK (putK kvs k v))) ∨
  ∃ kvs k b, H a = some (.dT kvs) ∧ y = .ref b ∧ H b = some (.tup (k.map kV)) ∧ kvs.length < sizeLine ∧ H' = upd H a (.dT (putK kvs k v))


section
variable {X : Cx} {pins : List (Addr × Obj)} {σ : St} {H : Hp} {s : Shared} {a : Addr} {y v : V} {u r : Value} {o : Option V} {A : Around} {E : Value → Shared → Prop}


end

section
variable {X : Cx} {pins : List (Addr × Obj)} {σ : St} {H : Hp} {s : Shared} {a : Addr} {kvs : List (Key × V)} {k : Key} {u : Value} {A : Around} {E : Value → Shared → Prop}
end


/-! ### readings and rules -/
/-- the element of a subscription, not a slice -/
def NoSl (i : Expr) : Prop := ∀ ov iv, subscripted i false ov iv = operate [ov, iv] (getItem ov iv)


/-- d[y] -/
def tDGet (td ty : TE) : TE := fun σ H Q => td σ H fun x H1 => ty σ H1 fun y H2 => ∃ a v, x = .ref a ∧ DGet H2 a y (some v) ∧ Q v H2
/-- y in d, y not in d -/
def tDIn (ty td : TE) : TE := fun σ H Q => ty σ H fun y H1 => td σ H1 fun x H2 => ∃ a o, x = .ref a ∧ DGet H2 a y o ∧ Q (.bl o.isSome) H2
def tDNotIn (ty td : TE) : TE := fun σ H Q => ty σ H fun y H1 => td σ H1 fun x H2 => ∃ a o, x = .ref a ∧ DGet H2 a y o ∧ Q (.bl (!o.isSome)) H2
/-- d[y] = v -/
def sDPut (td ty tv : TE) : TS := fun D σ H => tv σ H fun v H1 => td σ H1 fun x H2 => ty σ H2 fun y H3 => ∃ a H4, x = .ref a ∧ DPut H3 a y v H4 ∧ D.nx σ H4
/-- d[y] op= v -/
def sDAug (td ty tv : TE) (rd : V → V → Hp → VK → Prop) : TS := fun D σ H => td σ H fun x H1 => ty σ H1 fun y H2 => ∃ a v, x = .ref a ∧ DGet H2 a y (some v) ∧
  tv σ H2 fun y2 H3 => rd v y2 H3 fun z H4 => ∃ H5, DPut H4 a y z H5 ∧ D.nx σ H5
/-- del d[y] -/
def sDDel (td ty : TE) : TS := fun D σ H => td σ H fun x H1 => ty σ H1 fun y H2 => ∃ a kvs k, x = .ref a ∧ H2 a = some (.dK kvs) ∧ y = kV k ∧ (valV kvs k).isSome = true ∧ D.nx σ (upd H2 a (.dK (dropK kvs k)))

section
variable {X : Cx} {o i e value : Expr} {pos pos' tpos : Pos} {td ty tv : TE}
end


/-! ### displays -/
/-- {}, to be a dict of the kind that is wanted -/
def tDNewK : TE := fun _ H Q => ∀ p, H p = none → Q (.ref p) (upd H p (.dK []))
def tDNewT : TE := fun _ H Q => ∀ p, H p = none → Q (.ref p) (upd H p (.dT []))
section
variable {X : Cx} {pos : Pos}
end

/-- the pairs of a display, from the left -/
def tPairs : List (TE × TE) → St → Hp → (List (V × V) → Hp → Prop) → Prop
  | [], _, H, Q => Q [] H
  | (tk, tv) :: r, σ, H, Q => tk σ H fun x H1 => tv σ H1 fun y H2 => tPairs r σ H2 fun ps H3 => Q ((x, y) :: ps) H3
abbrev VV : List (V × V) → List (Value × Value) → Prop := Paired fun p q => RelV p.1 q.1 ∧ RelV p.2 q.2
def PPs (X : Cx) (pos : Pos) (keys : List (Option Expr)) (values : List Expr) (trs : List (TE × TE)) : Prop :=
  ∀ (pins : List (Addr × Obj)) (s : Shared) (σ : St) (H : Hp) (Q : List (V × V) → Hp → Prop), Inv X pins σ H s → tPairs trs σ H Q →
    wpAny (model X.prog X.w) X.A (evalPairs (pairTrees keys values X.env pos)) (fun vs s' => ∃ ps H', Inv X pins σ H' s' ∧ VV ps vs ∧ Q ps H') X.xe s

def mergeK (kvs more : List (Key × V)) : List (Key × V) := more.foldl (fun acc kv => putK acc kv.1 kv.2) kvs
/-- {k: v, ..} with keys ints and texts; the new dict stands empty while the pairs are made -/
def tDisp (trs : List (TE × TE)) : TE := fun σ H Q => ∀ p, H p = none → tPairs trs σ (upd H p (.dK [])) fun ps H2 => H2 p = some (.dK []) ∧ ∃ kvs : List (Key × V), ps = kvs.map (fun kv => (kV kv.1, kv.2)) ∧ kvs.length ≤ 15 ∧ Q (.ref p) (upd H2 p (.dK (mergeK [] kvs)))


/-! ### methods -/
/-- a method call o.m(e) of a built-in, with one argument: what must be seen of the text -/
structure M1 (X : Cx) (o : Expr) (m : Str) (apos : Pos) (e : Expr) (cpos : Pos) : Prop where
  base : attributeBase o m X.env (eval o X.env) = eval o X.env
  few : ((backTo cpos (starEach [e] X.env)).all (fun x => !x.1) && (backToKw cpos (keywordEach [] X.env)).all (fun x => x.1.isSome)
    && decide (([e] : List Expr).length + ([] : List Keyword).length + (if ([] : List Keyword).isEmpty then 0 else 1) < 30)) = true
  line : (apos.endLine == cpos.line) = true
  trees : backTo cpos (starEach [e] X.env) = [(false, eval e X.env)]
structure M2 (X : Cx) (o : Expr) (m : Str) (apos : Pos) (e f : Expr) (cpos : Pos) : Prop where
  base : attributeBase o m X.env (eval o X.env) = eval o X.env
  few : ((backTo cpos (starEach [e, f] X.env)).all (fun x => !x.1) && (backToKw cpos (keywordEach [] X.env)).all (fun x => x.1.isSome)
    && decide (([e, f] : List Expr).length + ([] : List Keyword).length + (if ([] : List Keyword).isEmpty then 0 else 1) < 30)) = true
  line : (apos.endLine == cpos.line) = true
  trees : backTo cpos (starEach [e, f] X.env) = [(false, eval e X.env), (false, eval f X.env)]

/-- a is a dict, whatever its keys -/
def IsD (H : Hp) (a : Addr) : Prop := (∃ kvs, Rd H a (.dK kvs)) ∨ ∃ kvs, Rd H a (.dT kvs)

section
variable {X : Cx} {pins : List (Addr × Obj)} {σ : St} {H : Hp} {s : Shared} {a : Addr} {y d : V} {u r : Value} {o : Option V} {A : Around} {E : Value → Shared → Prop}
end

def tDGet1 (td ty : TE) : TE := fun σ H Q => td σ H fun x H1 => ∃ a, x = .ref a ∧ IsD H1 a ∧ ty σ H1 fun y H2 => ∃ o, DGet H2 a y o ∧ Q (o.getD .non) H2
def tDGet2 (td ty tx : TE) : TE := fun σ H Q => td σ H fun x H1 => ∃ a, x = .ref a ∧ IsD H1 a ∧ ty σ H1 fun y H2 => tx σ H2 fun z H3 => ∃ o, DGet H3 a y o ∧ Q (o.getD z) H3
/-- d.pop(k): there; d.pop(k, x): there or not -/
def tDPop1 (td ty : TE) : TE := fun σ H Q => td σ H fun x H1 => ∃ a, x = .ref a ∧ IsD H1 a ∧ ty σ H1 fun y H2 => ∃ kvs k v, H2 a = some (.dK kvs) ∧ y = kV k ∧ valV kvs k = some v ∧ Q v (upd H2 a (.dK (dropK kvs k)))
def tDPop2 (td ty tx : TE) : TE := fun σ H Q => td σ H fun x H1 => ∃ a, x = .ref a ∧ IsD H1 a ∧ ty σ H1 fun y H2 => tx σ H2 fun z H3 => ∃ kvs k, H3 a = some (.dK kvs) ∧ y = kV k ∧
  (∀ v, valV kvs k = some v → Q v (upd H3 a (.dK (dropK kvs k)))) ∧ (valV kvs k = none → Q z H3)
section
variable {X : Cx} {o e f : Expr} {apos cpos : Pos} {td ty tx : TE}
end

/-! ### dict(d): a copy -/
section
variable {X : Cx} {pins : List (Addr × Obj)} {σ : St} {H : Hp} {s : Shared} {a : Addr} {kvs : List (Key × V)} {A : Around} {E : Value → Shared → Prop}
end


section
variable {X : Cx} {pins : List (Addr × Obj)} {σ : St} {H : Hp} {s : Shared} {a : Addr} {y : V} {u : Value} {A : Around} {E : Value → Shared → Prop}
end
end L2

namespace L2
open PySem PySem.Spec PyProof.Rows


section
variable {prog : Program} {w : World} {A : Around} {E : Value → Shared → Prop}


end

section
variable {X : Cx}
end
end L2

namespace L2
open PySem PySem.Spec PyProof.Rows


section
variable {X : Cx} {pins : List (Addr × Obj)} {σ : St} {H : Hp} {s : Shared} {h' : Heap}
/-- .. and one new object is laid -/
theorem Inv.turnedNew {t' : Nat} {ch : List Addr} {T : Addr} {ob : HO} (I : Inv X pins σ H s) (k : ∀ b o, b ∉ ch → s.heap.get? b = some o → h'.get? b = some o) (hf : ∀ b ∈ ch, FpOk X pins H b) (hT : s.heap.objs.size ≤ T)
    (new : ObjOk X.prog X.w (upd H T ob) h' T ob) : Inv X pins σ (upd H T ob) { s with heap := h', toks := t' } := by
  have hn : H T = none := I.hok.fresh hT
  have nit : ∀ b u, H b = some u → b ∉ ch := fun b u e z => by
    have q := (hf b z).1
    rw [q] at e; cases e
  refine I.step (g' := s.gens) (d' := s.drawn) (ch := ch) (fun b hb => ⟨(hf b hb).2.2.2.1, (hf b hb).2.1, (hf b hb).2.2.2.2.1, (hf b hb).2.2.2.2.2⟩) (fun b o _ _ hc e _ => k b o hc e) (fun b o _ _ hc e _ => ⟨o.slots, k b o hc e⟩)
    (fun b o _ e n => ?_) (fun b o hc e => ⟨o, k b o hc e⟩) (fun b xs e => ?_) (fun b o u e => ?_) (fun b ps e => ⟨#[], ?_⟩) (fun m hm => ?_) (fun b u e => ?_) I.bare
  · rw [upd_ne (Nat.ne_of_lt (Nat.lt_of_lt_of_le (Heap.lt_size e) hT))]; exact n
  · rw [upd_ne (ne_of_none e hn)]; exact e
  · rw [upd_ne (ne_of_none e hn)]; exact e
  · rw [upd_ne (ne_of_none e hn), e]; simp
  · obtain ⟨o, es, ep, ho, r⟩ := hm
    exact ⟨o, es, ep, k _ o (fun z => (hf _ z).2.1 rfl) ho, r⟩
  · by_cases hb : b = T
    · subst hb
      rw [upd_same] at e
      cases e
      exact new
    · rw [upd_ne hb] at e
      refine (I.hok b u e).stay (fun c v hc q => k c v ?_ q) (fun c q => by rw [upd_ne (ne_of_none q hn)]; exact q) fun c xs q => by rw [upd_ne (ne_of_none q hn)]; exact q
      rcases hc with z | z
      · rw [z]; exact nit b u e
      · exact nit c _ z

/-! ### locking a thing while a statement runs -/
end
/-- the statement runs while the thing at d is locked (read, not written); d and what stands there are the reading's choice -/
def tLock (t : TS) : TS := fun D σ H => ∃ d u, H d = some u ∧ Mut (some u) ∧ ∀ od, t ⟨fun σ' H' => H' d = some (.frz od u) ∧ D.nx σ' (upd H' d u), fun v H' => H' d = some (.frz od u) ∧ D.rt v (upd H' d u), fun σ' H' => H' d = some (.frz od u) ∧ D.bk σ' (upd H' d u), fun σ' H' => H' d = some (.frz od u) ∧ D.ct σ' (upd H' d u)⟩ σ (upd H d (.frz od u))
def tLockE (t : TE) : TE := fun σ H Q => ∃ d u, H d = some u ∧ Mut (some u) ∧ ∀ od, t σ (upd H d (.frz od u)) fun v H' => H' d = some (.frz od u) ∧ Q v (upd H' d u)
section
variable {X : Cx}

/-! ### one iterator just laid -/
end

/-! ### range with a step -/
/-- lo, lo + c, .. (n of them) -/
def Itc (lo c : Int) (n : Nat) : It := ⟨fun i _ => i < n, fun i H x H' => H' = H ∧ x = .int (lo + (i : Nat) * c), fun i _ => n ≤ i⟩
/-- range(i, j, c): small bounds, n items -/
def RgC (i j c : Int) (n : Nat) : Prop := c ≠ 0 ∧ c.natAbs < 1073741824 ∧ Builtin.Range.small i j c = true ∧ Builtin.Range.rangeSize i j c = n
def iRng3 (ta : TA) : TI := fun σ H R => ta σ H fun vs H1 => ∃ (i j c : Int) (n : Nat), vs = [.int i, .int j, .int c] ∧ RgC i j c n ∧ R (Itc i c n) H1
section
variable {X : Cx} {tg : Expr}
end

/-! ### reversed(list) -/
/-- the list at a (n items at the start, which the loop leaves there), from its end -/
def Itv (K : PySem.W.Frag) (a : Addr) (n : Nat) : It :=
  ⟨fun i H => i < n ∧ ∃ (xs : List V) (x : V), SqL K H a xs ∧ xs[n - 1 - i]? = some x, fun i H x H' => H' = H ∧ ∀ xs, SqL K H a xs → xs[n - 1 - i]? = some x, fun i _ => n ≤ i⟩
def iRev (K : PySem.W.Frag) (ta : TA) : TI := fun σ H R => ta σ H fun vs H1 => ∃ (a : Addr) (xs : List V), vs = [.ref a] ∧ SqL K H1 a xs ∧ R (Itv K a xs.length) H1
section
variable {X : Cx} {tg : Expr}
end

/-! ### a str -/
def Its (x : Str) : It := ⟨fun i _ => i < x.cps.size, fun i H v H' => H' = H ∧ ∃ c, x.cps[i]? = some c ∧ v = .str ⟨#[c]⟩, fun i _ => x.cps.size ≤ i⟩
def iStr (te : TE) : TI := fun σ H R => te σ H fun v H1 => ∃ x, v = .str x ∧ R (Its x) H1

/-! ### a dict's keys: any dict's entries -/
section
variable {prog : Program} {w : World} {A : Around} {E : Value → Shared → Prop} {s : Shared}
end

/-! ### a locked dict -/
section
variable {X : Cx} {pins : List (Addr × Obj)} {σ : St} {H : Hp} {s : Shared} {d : Addr} {o : Obj}
end

/-- the keys of the locked dict at d, in their order -/
def Itk (d : Addr) (o : Obj) (kvs : List (Key × V)) : It :=
  ⟨fun i H => H d = some (.frz o (.dK kvs)) ∧ i < kvs.length, fun i H x H' => H' = H ∧ ∃ k v, kvs[i]? = some (k, v) ∧ x = kV k, fun i H => H d = some (.frz o (.dK kvs)) ∧ kvs.length ≤ i⟩
/-- .. of tuple keys: the key's own tuple -/
def Itkt (d : Addr) (o : Obj) (kvs : List (List Key × V)) : It :=
  ⟨fun i H => H d = some (.frz o (.dT kvs)) ∧ i < kvs.length, fun i H x H' => H' = H ∧ ∃ (k : List Key) (v : V) (q : Addr), kvs[i]? = some (k, v) ∧ x = .ref q ∧ H q = some (.tup (k.map kV)), fun i H => H d = some (.frz o (.dT kvs)) ∧ kvs.length ≤ i⟩
/-- the values -/
def Itd (d : Addr) (o : Obj) (kvs : List (Key × V)) : It :=
  ⟨fun i H => H d = some (.frz o (.dK kvs)) ∧ i < kvs.length, fun i H x H' => H' = H ∧ ∃ k, kvs[i]? = some (k, x), fun i H => H d = some (.frz o (.dK kvs)) ∧ kvs.length ≤ i⟩
/-- the pairs, each a new tuple -/
def Iti (d : Addr) (o : Obj) (kvs : List (Key × V)) : It :=
  ⟨fun i H => H d = some (.frz o (.dK kvs)) ∧ i < kvs.length, fun i H x H' => ∃ T k v, kvs[i]? = some (k, v) ∧ x = .ref T ∧ H T = none ∧ H' = upd H T (.tup [kV k, v]), fun i H => H d = some (.frz o (.dK kvs)) ∧ kvs.length ≤ i⟩
section
variable {P : Program} {w : World} {K : PySem.W.Frag} {tg : Expr} {d : Addr} {o : Obj} {es : Array DictEntry} {ep : Nat}
end

/-! ### for k in d, d.keys(), d.values(), d.items() -/
/-- the dict is locked (tLock, or by the caller) -/
def iKeys (td : TE) : TI := fun σ H R => td σ H fun x H1 => ∃ d o, x = .ref d ∧ ((∃ kvs, H1 d = some (.frz o (.dK kvs)) ∧ R (Itk d o kvs) H1) ∨ ∃ kvs, H1 d = some (.frz o (.dT kvs)) ∧ R (Itkt d o kvs) H1)
def iVals (td : TE) : TI := fun σ H R => td σ H fun x H1 => ∃ d o kvs, x = .ref d ∧ H1 d = some (.frz o (.dK kvs)) ∧ R (Itd d o kvs) H1
def iItems (td : TE) : TI := fun σ H R => td σ H fun x H1 => ∃ d o kvs, x = .ref d ∧ H1 d = some (.frz o (.dK kvs)) ∧ R (Iti d o kvs) H1
def iKeysM (td : TE) : TI := fun σ H R => td σ H fun x H1 => ∃ d o kvs, x = .ref d ∧ H1 d = some (.frz o (.dK kvs)) ∧ R (Itk d o kvs) H1
section
variable {X : Cx} {tg e : Expr} {td : TE} {apos cpos : Pos}
end

/-! ### enumerate(list) -/
/-- the list at a as it stands at each turn, each item in a new pair -/
def Ite (K : PySem.W.Frag) (a : Addr) : It :=
  ⟨fun i H => ∃ (xs : List V) (x : V), SqL K H a xs ∧ xs[i]? = some x, fun i H v H' => ∃ T x, v = .ref T ∧ H T = none ∧ H' = upd H T (.tup [.int (i : Nat), x]) ∧ ∀ xs, SqL K H a xs → xs[i]? = some x, fun i H => ∃ xs : List V, SqL K H a xs ∧ xs.length ≤ i⟩
theorem turn_enum {P : Program} {w : World} {K : PySem.W.Frag} {elts : List Expr} {kk : Nat} {tpos : Pos} (a e it : Addr) :
    Turn P w K (.Tuple elts kk tpos) (Ite K a) [e, it] e (fun i h => (∃ old, IsEnum h e it ((i : Nat) : Int) old) ∧ h.IsListIter it a i ∧ e ≠ it) where
  mem := by simp
  obj := fun i h st b hb => by
    obtain ⟨⟨old, he⟩, ⟨o, ho, hc, hd⟩, _⟩ := st
    have e' : b = e ∨ b = it := by simpa using hb
    rcases e' with z | z
    · rw [z]; exact ⟨_, he, fun v q => nomatch q⟩
    · rw [z]; exact ⟨o, ho, fun v q => by rw [hd] at q; cases q⟩
  keep := fun i h h' st k => let ⟨⟨old, he⟩, hi, hne⟩ := st; ⟨⟨old, k e (by simp) _ he⟩, hi.at fun o q => k it (by simp) o q, hne⟩
  item := by
    intro X hP hw hK hc i pins s σ H E I hf st hg
    subst hP hw hK
    obtain ⟨⟨old, he⟩, hit, hne⟩ := st
    obtain ⟨xs, x, hq, hx⟩ := hg
    obtain ⟨its, rv, p, hz⟩ := I.list hq
    obtain ⟨u, hu, ru⟩ := rv.get hx
    have hel : e < s.heap.objs.size := Heap.lt_size he
    have hil : it < s.heap.objs.size := by obtain ⟨_, q, _⟩ := hit; exact Heap.lt_size q
    refine wpAny_pyNext_enum_item he hit p.isList (x := u) (by simpa using hu) hne fun h' ho hit' hT hsz hk => ?_
    refine ⟨_, rfl, wpAny_letOwnedTupleGo_enum (s := { s with heap := h', toks := s.toks + 1 }) ho fun h'' he' sb => ?_⟩
    have hT2 : h''.get? s.heap.objs.size = some { cls := .type "tuple", data := .seq #[.int i s.toks, u] } := (sb.2 _ (Nat.ne_of_gt hel)).trans hT
    have new : ObjOk X.prog X.w (upd H s.heap.objs.size (.tup [.int (i : Nat), x])) h'' s.heap.objs.size (.tup [.int (i : Nat), x]) :=
      ⟨by show 2 ≤ sizeLine; decide, [.int i s.toks, u], .cons ⟨_, rfl⟩ (.cons ru .nil), ⟨_, hT2, rfl, _, rfl⟩⟩
    have I1 : Inv X pins σ (upd H s.heap.objs.size (.tup [.int (i : Nat), x])) { s with heap := h'', toks := s.toks + 1 } :=
      I.turnedNew (ch := [e, it]) (fun b ob hb q => (sb.2 b (fun z => hb (by simp [z]))).trans (hk b ob (fun z => hb (by simp [z])) (fun z => hb (by simp [z])) q)) hf (Nat.le_refl _) new
    refine ⟨.ref s.heap.objs.size, _, I1, rfl, ⟨_, x, rfl, I.hok.fresh (Nat.le_refl _), rfl, fun ys hy => by rw [I.list_inj hy hq]; exact hx⟩, ⟨⟨u, ?_⟩, hit'.at fun o q => (sb.2 it (Ne.symm hne)).trans q, hne⟩, fun b hb => ?_⟩
    · have e1 : ((i + 1 : Nat) : Int) = (i : Int) + 1 := by omega
      rw [e1]; exact he'
    · have hb' : b < s.heap.objs.size := by
        have e' : b = e ∨ b = it := by simpa using hb
        rcases e' with z | z
        · rw [z]; exact hel
        · rw [z]; exact hil
      rw [upd_ne (Nat.ne_of_lt hb')]
      exact (hf b hb).1
  done := by
    intro X hP hw hK hc i pins s σ H E I hf st hg
    subst hP hw hK
    obtain ⟨⟨old, he⟩, hit, hne⟩ := st
    obtain ⟨xs, hq, hx⟩ := hg
    obtain ⟨its, rv, p, hz⟩ := I.list hq
    obtain ⟨f0, f1, f2, f3, f4, f5⟩ := hf it (by simp)
    have hl := rv.length
    exact wpAny_pyNext_enum_end (I.ok.hd hc) he hit p.isList (by simp; omega) fun h' eb => ⟨rfl, I.turned (t' := s.toks) (fun b o hb q => eb b o hb q) f0 f1 f3 f4 f5⟩
  self := fun A i s Q E st h => let ⟨⟨_, he⟩, _⟩ := st; wpAny_pyIter_enum he h
def iEnum (K : PySem.W.Frag) (ta : TA) : TI := fun σ H R => ta σ H fun vs H1 => ∃ a xs, vs = [.ref a] ∧ SqL K H1 a xs ∧ R (Ite K a) H1
theorem pi_enum {X : Cx} {e : Expr} {ta : TA} {p pos tpos : Pos} {elts : List Expr} {kk : Nat} (hg : Gl X "enumerate") (hm : X.mg "enumerate" = none) (ha : PA X [e] ta) (hs : starEach [e] X.env = [(false, eval e X.env)] := by rfl) :
    PI X (.Tuple elts kk tpos) (.Call (.Name "enumerate" p) [e] [] pos) (iEnum X.K ta) := by
  intro pins s σ H R I h
  refine Call_ (ld_blt I hg hm boot_enumerate (PyProof.Rows.callWith_type1 (thn (ha pos pins s σ H _ I h) fun us s1 ⟨vs, H1, I1, r1, q1⟩ => ?_) hs rfl))
  obtain ⟨a, xs, ex, hq, q⟩ := q1
  subst ex
  cases r1 with
  | cons r rr =>
    cases rr
    cases r
    obtain ⟨its, rv, p', hz⟩ := I1.list hq
    refine call_enumerate_list p'.isList fun h' he hit hsz hk => wpAny_pyIter_enum he ?_
    have I2 : Inv X pins σ H1 { s1 with heap := h' } := I1.kept (t' := s1.toks) hk
    refine ⟨s1.heap.objs.size + 1, [s1.heap.objs.size + 1, s1.heap.objs.size], _, _, H1, rfl, I2, turn_enum a (s1.heap.objs.size + 1) s1.heap.objs.size, ⟨⟨.none, he⟩, hit, Nat.succ_ne_self _⟩, fun b hb => ?_, q⟩
    have e' : b = s1.heap.objs.size + 1 ∨ b = s1.heap.objs.size := by simpa using hb
    have hle : s1.heap.objs.size ≤ b := by
      rcases e' with z | z
      · rw [z]; exact Nat.le_add_right _ _
      · rw [z]; exact Nat.le_refl _
    exact I1.fpOk hle (I1.hok.fresh hle)
/-! ### zip(list, list) -/
/-- the lists at a and b as they stand at each turn, the items in new pairs -/
def Itz (K : PySem.W.Frag) (a b : Addr) : It :=
  ⟨fun i H => ∃ (xs ys : List V) (x y : V), SqL K H a xs ∧ SqL K H b ys ∧ xs[i]? = some x ∧ ys[i]? = some y,
    fun i H v H' => ∃ T x y, v = .ref T ∧ H T = none ∧ H' = upd H T (.tup [x, y]) ∧ (∀ xs, SqL K H a xs → xs[i]? = some x) ∧ ∀ ys, SqL K H b ys → ys[i]? = some y,
    fun i H => ∃ xs ys : List V, SqL K H a xs ∧ SqL K H b ys ∧ (xs.length ≤ i ∨ ys.length ≤ i)⟩
def iZip (K : PySem.W.Frag) (ta : TA) : TI := fun σ H R => ta σ H fun vs H1 => ∃ a b xs ys, vs = [.ref a, .ref b] ∧ SqL K H1 a xs ∧ SqL K H1 b ys ∧ R (Itz K a b) H1
end L2

section 
namespace Bits
open PySem PyProof.Rows








end Bits
end 

section 
namespace TL
open PySem PySem.Builtin PySem.Builtin.Str PySem.StrLaws

abbrev tl (x : Str) : List Nat := x.cps.toList

/-! ### the list functions -/
/-- S stands at the head of l -/
def pre (S l : List Nat) : Bool := l.take S.length == S
/-- l cut at each S from the left; k signs are still to be passed over -/
def spl (S : List Nat) : Nat → List Nat → List Nat → List (List Nat)
  | _, acc, [] => [acc]
  | 0, acc, c :: r => if pre S (c :: r) = true then acc :: spl S (S.length - 1) [] r else spl S 0 (acc ++ [c]) r
  | k + 1, acc, _ :: r => spl S k acc r
/-- what stands before the first S, and behind it -/
def par (S : List Nat) : List Nat → List Nat → Option (List Nat × List Nat)
  | _, [] => none
  | acc, c :: r => if pre S (c :: r) = true then some (acc, (c :: r).drop S.length) else par S (acc ++ [c]) r




/-! ### the model's split and partition are these -/




/-! ### computing spl and par -/

/-- joined lists -/
def joinL (S : List Nat) : List (List Nat) → List Nat
  | [] => []
  | [p] => p
  | p :: q :: r => p ++ (S ++ joinL S (q :: r))

/-! ### digits -/
/-- the signs of a number -/
def numL (n : Nat) : List Nat := (Nat.toDigits 10 n).map Char.toNat

/-! ### words: x.split() -/
def wstep (st : List (List Nat) × List Nat) (c : Nat) : List (List Nat) × List Nat :=
  if Unicode.isSpace c = true then (if st.2 = [] then st else (st.1 ++ [st.2], [])) else (st.1, st.2 ++ [c])
def wfin (st : List (List Nat) × List Nat) : List (List Nat) := if st.2 = [] then st.1 else st.1 ++ [st.2]
end TL
end 

namespace L2
open PySem PySem.Spec PyProof.Rows



/-- a new list of texts, tracked -/
def rNewStrs (ys : List Str) : Hp → VK → Prop := fun H Q => ∀ p, H p = none → Q (.ref p) (upd H p (.lst (ys.map V.str)))

section
variable {X : Cx} {pins : List (Addr × Obj)} {σ : St} {H : Hp} {s : Shared} {Q : VK}
end

section
variable {X : Cx}





/-! ### of a text alone -/

/-! ### of a text and a text -/

end

section
variable {X : Cx} {o e : Expr} {to te : TE}
def tM0 (r : V → List V → Hp → VK → Prop) (to : TE) : TE := fun σ H Q => to σ H fun x H1 => (∃ a, x = .str a) ∧ r x [] H1 Q
def tM1 (r : V → List V → Hp → VK → Prop) (to te : TE) : TE := fun σ H Q => to σ H fun x H1 => (∃ a, x = .str a) ∧ te σ H1 fun y H2 => r x [y] H2 Q

end
end L2

namespace L2
open PySem PySem.Spec PyProof.Rows

section
variable {X : Cx}
end

/-! ### slices of a text -/

/-- a part, clipped, as the text's slice reckons it -/
def clipS (n d : Nat) : Option Int → Int
  | none => (d : Int)
  | some i => max 0 (min (if i < 0 then i + (n : Int) else i) (n : Int))

/-- z[lo:hi] -/
def cutS (z : Str) (lo hi : Option Int) : Str :=
  ⟨((z.cps.toList.drop (HT.sIx z.length 0 lo)).take (HT.sIx z.length z.length hi - HT.sIx z.length 0 lo)).toArray⟩
def rSlS : V → Option Int → Option Int → Hp → VK → Prop := fun x lo hi H Q => ∃ z, x = .str z ∧ z.length ≤ sizeLine ∧ Q (.str (cutS z lo hi)) H
end L2

namespace Att
open PySem PySem.W PySem.Calls PyProof.Rows

/-! ### the script -/



/-! ### the attachment: holds_open's last premise (the goal 'hc' behind k_head) from a wpAny of the law's body -/



/-! ### rules over ANY heap (no ledger) from facts about the written part K: the library's own take a ledger (News) for what they write -/
section
variable {prog : Program} {w : World} {A : Around} {E : Value → Shared → Prop} {s : Shared} {K : Frag}





/-! the whole heap as the ledger: makes every rule that writes through a ledger a rule over any heap -/
def noObjs (h : Heap) : Heap := { h with objs := #[] }
def ledger (h : Heap) (L d : Addr) : List (Addr × Obj) := (List.range h.objs.size).filterMap fun a => if a = L ∨ a = d then none else (h.get? a).map fun o => (a, o)

end
end Att

namespace L2
open PySem PySem.Spec PyProof.Rows


/-- nothing is tracked but the script, known to the object (or it is an object of the module) -/
def Only (H : Hp) : Prop := ∀ b, H b = none ∨ ∃ o xs, H b = some (.frz o (.lst xs))

end L2

namespace L2
open PySem PySem.Spec PyProof.Rows

abbrev KOf {K : PySem.W.Frag} {h : Heap} (_ : K.In h) : PySem.W.Frag := K

end L2

/- THE LAST THEOREM (shape; LID, My.* are yours):
   My.Adr: a structure of the addresses that your layer names (classes, functions); My.Txt K t: a structure (Prop) of the equations over K;
   My.txt_mk : {K} {implicit addresses ..} (e1 : nsIn K mainGlobals "law" = some (some (.ref f))) (e2 : K.lookup f = some ⟨oc, od, .func (fnOf "law" "law" params body scope dV kV doc pm an cdv ct), sl⟩) (e3 : codeIn K cdv "law" = true) .. : ∃ t, My.Txt K t

set_option maxRecDepth 100000 in
set_option maxHeartbeats 0 in
theorem PySem.Challenge.cw_LID_holds : PySem.Challenge.rw_LID.Holds := by
  w_on; o_law; k_head; (case hw => w_witness2)
  k_fill
  refine L2.walk_of (l := PySem.Challenge.rw_LID) (n := 63) (k := 40) (x := "script") (CX := fun w => ..) (sp := fun _ => My.sp_law) rfl (by decide) rfl ⟨rfl, by decide, by decide⟩ (fun w h Y => PySem.W.kIn_of Y) ?F ?S ?C
  case F =>
    intro w mg fa h KX G hmg
    have T : ∃ t, My.Txt (L2.KOf KX) t := by
      dsimp only [L2.KOf]                          -- K must stand as «<heap const> w.params» for k_is
      refine' My.txt_mk ?e1 ?e2 ?e3 ..
      (case e1 => PySem.W.k_is)                    -- in the order: a name -> its address -> its object -> its parts
      (case e2 => PySem.W.k_is)
      ..
    obtain ⟨t, T⟩ := T
    have e0 := hmg.symm.trans (PySem.W.mg_of KX G T.law)
    cases e0                                       -- fa is the law's own address
    exact ⟨_, fun s u => .of_eq rfl, fun base kb nb => My.law_fn T kb nb⟩     -- if «.of_eq rfl» comes too early: refine' ⟨_, ?b, fun base kb nb => My.law_fn T kb nb⟩; exact fun s u => .of_eq rfl
  case S => exact fun w H a ns hl hO hS => ..
  case C => exact ..
(the tactic k_is has no namespace: write k_is) -/

/-! SHORT WORDS over the layer: a def of the text, its body, what a loop and a test want. -/
namespace L2
open PySem PySem.Spec PyProof.Rows

/-! ### the text by places -/
/-- the j-th statement of a class's body -/
def inClass (s : Stmt) (j : Nat) : Stmt := match s with
  | .ClassDef _ _ _ body _ _ _ _ _ _ _ => body.getD j (.Pass ⟨0, 0, 0, 0⟩)
  | _ => .Pass ⟨0, 0, 0, 0⟩
def defArgs (s : Stmt) : Arguments := match s with
  | .FunctionDef _ a _ _ _ _ _ _ _ _ => a
  | _ => { posonlyargs := [], args := [], vararg := none, kwonlyargs := [], kw_defaults := [], kwarg := none, defaults := [] }
def defBody (s : Stmt) : List Stmt := match s with
  | .FunctionDef _ _ b _ _ _ _ _ _ _ => b
  | _ => []
def defScope (s : Stmt) : Scope := match s with
  | .FunctionDef _ _ _ _ _ _ sc _ _ _ => sc
  | _ => { kind := .function, names := [], isGenerator := false, isCoroutine := false }

/-! ### no exception leaves a def -/
abbrev CX0 : CXT := fun _ _ _ _ _ _ => False
abbrev E0 : XK := fun _ _ _ => False
theorem pass0 {X : Cx} : Passes CX0 X E0 := fun _ _ _ _ _ _ _ h => h.elim

/-! ### a def (or method) of the text as it stands behind the top -/
structure Fun (K : PySem.W.Frag) (x qual : Str) (st : Stmt) (f : Addr) (fd : FuncData) : Prop where
  ex : ∃ (oc : Value) (od : Option Addr) (kV doc pm : Value) (an : Option Addr) (cdv ct : Value) (osl : Array (Option Value)),
    fd = PySem.W.fnOf x qual (defArgs st) (defBody st) (defScope st) .none kV doc pm an cdv ct ∧ K.lookup f = some ⟨oc, od, .func fd, osl⟩ ∧ PySem.W.codeIn K cdv qual = true
  kp : PySem.W.keepIn K (.ref f) = true
section
variable {P : Program} {w : World} {K : PySem.W.Frag} {mg : Str → Option Value} {base : Heap}
/-- THE RULE for a def: its body as a term of rules, and the reading of that term -/
theorem Fun.ok {x qual : Str} {st : Stmt} {f : Addr} {fd : FuncData} {N ps : List Str} {k : Nat} {sp : Sp} (F : Fun K x qual st f fd) (S : FnScope N ps (defScope st)) (len : ∀ vs H Q E, sp vs H Q E → vs.length = ps.length)
    (hbody : ∀ (cdv : Value) (A : Around) (outer : List Env) (s : Shared) (H : Hp) (vs : List V) (Q : VK) (E : XK), Room k (A.deeper (envOfC qual (defScope st) s.heap.objs.size f cdv)) → sp vs H Q E →
      ∃ t, PSs (cxOf CX0 P w K mg base N qual (defScope st) f cdv A outer s H E).nox (defBody st) t ∧ t { nx := fun _ H' => Q .non H', rt := Q } (start N vs) H) : FnOk P w K mg base CX0 (k + 1) f fd ps sp := by
  obtain ⟨oc, od, kV, doc, pm, an, cdv, ct, osl, rfl, lk, hcd⟩ := F.ex
  refine fn_of lk hcd S len fun A outer s H vs Q E hr hsp => ?_
  obtain ⟨t, h, q⟩ := hbody cdv A outer s H vs Q E hr hsp
  exact ⟨t, h.nox, q⟩
/-- how its arguments bind (no defaults): h is «fun _ _ _ _ _ _ us hl => match us, hl with | [_, _], _ => rfl», one _ a parameter -/
theorem Fun.binds {x qual : Str} {st : Stmt} {f : Addr} {fd : FuncData} {ps : List Str} (F : Fun K x qual st f fd)
    (h : ∀ (kV doc pm : Value) (an : Option Addr) (cdv ct : Value) (us : List Value), us.length = ps.length → bindArgs (PySem.W.fnOf x qual (defArgs st) (defBody st) (defScope st) .none kV doc pm an cdv ct) ⟨us, []⟩ = pure (ps.zip us)) : Binds K fd ps [] := by
  obtain ⟨oc, od, kV, doc, pm, an, cdv, ct, osl, rfl, lk, hcd⟩ := F.ex
  exact .all (h kV doc pm an cdv ct)
theorem fun_mk {x qual : Str} {st : Stmt} {f : Addr} {oc : Value} {od an : Option Addr} {osl : Array (Option Value)} {kV doc pm cdv ct : Value} (l : K.lookup f = some ⟨oc, od, .func (PySem.W.fnOf x qual (defArgs st) (defBody st) (defScope st) .none kV doc pm an cdv ct), osl⟩)
    (c : PySem.W.codeIn K cdv qual = true) (k : PySem.W.keepIn K (.ref f) = true) : Fun K x qual st f (PySem.W.fnOf x qual (defArgs st) (defBody st) (defScope st) .none kV doc pm an cdv ct) := ⟨⟨oc, od, kV, doc, pm, an, cdv, ct, osl, rfl, l, c⟩, k⟩
end
theorem small1000 {n : Nat} (h : n ≤ 1000) : n < sizeLine := Nat.lt_of_le_of_lt h (by decide)

/-! ### expressions in short: the name that stands in the i-th slot -/
section
variable {X : Cx}
theorem pv (i : Nat) {x : Str} {pos : Pos} (hN : X.N[i]? = some x := by rfl) (hv : Vis X.env.scope x := by first | exact Or.inl rfl | exact Or.inr (Or.inl rfl) | exact Or.inr (Or.inr rfl)) (hd : (x == ("__debug__" : Str)) = false := by decide)
    (hcd : (x == ("__classdict__" : Str)) = false := by decide) : PE X (.Name x pos) (tVar i) := pe_var hN hv hd hcd
end

/-! ### tests -/
theorem iteF {A B : Prop} (h : B) : if false = true then A else B := by
  rw [if_neg Bool.false_ne_true]
  exact h
theorem iteT {A B : Prop} (h : A) : if true = true then A else B := by
  rw [if_pos rfl]
  exact h
theorem ite2 {c A B : Prop} [Decidable c] (h1 : c → A) (h2 : ¬ c → B) : if c then A else B := by
  by_cases h : c
  · rw [if_pos h]
    exact h1 h
  · rw [if_neg h]
    exact h2 h

/-! ### heaps -/
/-- all that was tracked is as it was -/
def Same (H H' : Hp) : Prop := ∀ b o, H b = some o → H' b = some o
theorem Same.refl (H : Hp) : Same H H := fun _ _ h => h
theorem Same.trans {H H1 H2 : Hp} (a : Same H H1) (b : Same H1 H2) : Same H H2 := fun c o h => b c o (a c o h)
theorem Same.free {H H' : Hp} (e : Same H H') {l : Addr} (h : H' l = Option.none) : H l = Option.none := by
  cases q : H l with
  | none => rfl
  | some o =>
    rw [e l o q] at h
    cases h
theorem Same.seq {K : PySem.W.Frag} {H H' : Hp} {a : Addr} {xs : List V} (e : Same H H') (h : SqL K H a xs) : SqL K H' a xs := by
  rcases h with (h | ⟨o, h⟩) | h
  · exact .inl (.inl (e _ _ h))
  · exact .inl (.inr ⟨o, e _ _ h⟩)
  · exact .inr h

/-! ### a dict's pairs: keys that differ -/
section
variable {κ : Type} [DecidableEq κ]
end
/-! ### lists -/
theorem at_of {xs : List V} {z : Int} {j : Nat} {v : V} (e : z = (j : Int)) (h : xs[j]? = some v) : atI xs z = some v := by
  rw [e]
  exact atI_nat h
/-- a new instance and its __init__ leave all that was tracked as it was -/
theorem Same.made {H H1 : Hp} {x dx C : Addr} (nx : H x = Option.none) (nd : H dx = Option.none) (k : ∀ b o, (upd (upd H dx (.own x)) x (.ins C dx [])) b = some o → b ≠ x → H1 b = some o) : Same H H1 := fun b o e =>
  k b o (by rw [upd_ne (ne_of_none e nx), upd_ne (ne_of_none e nd)]; exact e) (ne_of_none e nx)
end L2
end

section
section
set_option Elab.async false
set_option linter.all false
set_option maxRecDepth 100000
set_option maxHeartbeats 2000000
namespace L2
open PySem PySem.Spec PyProof.Rows
open PySem.W (WData Codec OpenSpec Well WellAll ReadsW ReadsAllW)
/-! ### an answer as data -/
mutual
/-- x stands for the datum d, lists and tuples all the way -/
inductive Dw (K : PySem.W.Frag) (H : Hp) : V → WData → Prop
  | non : Dw K H .non .none
  | bl (b : Bool) : Dw K H (.bl b) (.bool b)
  | int (i : Int) : Dw K H (.int i) (.int i)
  | str (x : Str) : Dw K H (.str x) (.str x)
  | byt (b : Array UInt8) : Dw K H (.byt b) (.bytes b.toList)
  | lst {a : Addr} {xs : List V} {ds : List WData} : SqL K H a xs → DwAll K H xs ds → Dw K H (.ref a) (.list ds)
  | tup {a : Addr} {xs : List V} {ds : List WData} : SqT K H a xs → DwAll K H xs ds → Dw K H (.ref a) (.tuple ds)
inductive DwAll (K : PySem.W.Frag) (H : Hp) : List V → List WData → Prop
  | nil : DwAll K H [] []
  | cons {v : V} {vs : List V} {d : WData} {ds : List WData} : Dw K H v d → DwAll K H vs ds → DwAll K H (v :: vs) (d :: ds)
end
theorem dw_ints {K : PySem.W.Frag} {H : Hp} : ∀ ns : List Int, DwAll K H (ns.map V.int) (ns.map WData.int)
  | [] => .nil
  | n :: r => .cons (.int n) (dw_ints r)
theorem ints_dw {K : PySem.W.Frag} {H : Hp} : ∀ (ns : List Int) (xs : List V), DwAll K H xs (ns.map WData.int) → xs = ns.map V.int
  | [], xs, h => by
    cases h
    rfl
  | n :: r, xs, h => by
    cases h with
    | cons h1 h2 =>
      cases h1
      rw [ints_dw r _ h2] <;> rfl
section
variable {P : Program} {w : World} {K : PySem.W.Frag} {H : Hp} {h : Heap} {R : PySem.W.WRecords} {cl : Str → Option Addr}
theorem sqL_at {a : Addr} {xs : List V} (hok : HOk P w H h) (KX : K.In h) (q : SqL K H a xs) : ∃ (its : List Value) (o : Obj) (n : Nat), Vals xs its ∧ h.get? a = some o ∧ o.cls = .type "list" ∧ o.data = .seq its.toArray n := by
  rcases q with q | ⟨o, its, n, e, hc, _, hd, _, hv⟩
  · obtain ⟨_, its, n, hv, e⟩ := (show ObjOk P w H h a (.lst xs) from q.ok hok)
    exact ⟨its, _, n, hv, e, rfl, rfl⟩
  · exact ⟨its.toList, o, n, hv, KX _ _ e, hc, by simp [hd]⟩
theorem sqT_at {a : Addr} {xs : List V} (hok : HOk P w H h) (KX : K.In h) (q : SqT K H a xs) : ∃ (its : List Value) (o : Obj) (n : Nat), Vals xs its ∧ h.get? a = some o ∧ o.cls = .type "tuple" ∧ o.data = .seq its.toArray n := by
  rcases q with q | ⟨o, its, n, e, hc, hd, _, hv⟩
  · obtain ⟨_, its, hv, o, e, hc, n, hd⟩ := (show ObjOk P w H h a (.tup xs) from q.ok hok)
    exact ⟨its, o, n, hv, e, hc, hd⟩
  · exact ⟨its.toList, o, n, hv, KX _ _ e, hc, by simp [hd]⟩
mutual
theorem Dw.reads (hok : HOk P w H h) (KX : K.In h) : ∀ (d : WData) (v : V) (u : Value), Dw K H v d → RelV v u → ∃ as, ReadsW R cl h u d as
  | .none, _, _, x, r => by
    cases x
    cases r
    exact ⟨_, ReadsW.none⟩
  | .bool b, _, _, x, r => by
    cases x
    cases r
    exact ⟨_, ReadsW.bool b⟩
  | .int i, _, _, x, r => by
    cases x
    obtain ⟨t, rfl⟩ := r
    exact ⟨_, ReadsW.int i t⟩
  | .str s, _, _, x, r => by
    cases x
    obtain ⟨t, rfl⟩ := r
    exact ⟨_, ReadsW.str s t⟩
  | .bytes b, _, _, x, r => by
    cases x
    obtain ⟨t, rfl⟩ := r
    exact ⟨_, ReadsW.bytes _ t⟩
  | .list ds, _, _, x, r => by
    cases x with
    | lst hs ha =>
      cases r
      obtain ⟨its, o, n, rv, ho, hc, hd⟩ := sqL_at hok KX hs
      obtain ⟨as, hr⟩ := Dw.readsAll hok KX ds _ its ha rv
      exact ⟨_, ReadsW.list ho hc hd hr⟩
  | .tuple ds, _, _, x, r => by
    cases x with
    | tup hs ha =>
      cases r
      obtain ⟨its, o, n, rv, ho, hc, hd⟩ := sqT_at hok KX hs
      obtain ⟨as, hr⟩ := Dw.readsAll hok KX ds _ its ha rv
      exact ⟨_, ReadsW.tuple ho hc hd hr⟩
  | .float _, _, _, x, _ => by cases x
  | .dict _, _, _, x, _ => by cases x
  | .bytearray _, _, _, x, _ => by cases x
  | .set _, _, _, x, _ => by cases x
  | .frozenset _, _, _, x, _ => by cases x
  | .obj _ _, _, _, x, _ => by cases x
theorem Dw.readsAll (hok : HOk P w H h) (KX : K.In h) : ∀ (ds : List WData) (vs : List V) (us : List Value), DwAll K H vs ds → Vals vs us → ∃ as, ReadsAllW R cl h us ds as
  | [], _, _, x, r => by
    cases x
    cases r
    exact ⟨_, ReadsAllW.nil⟩
  | d :: ds, _, _, x, r => by
    cases x with
    | cons h1 h2 =>
      cases r with
      | cons r1 r2 =>
        obtain ⟨as, q1⟩ := Dw.reads hok KX d _ _ h1 r1
        obtain ⟨bs, q2⟩ := Dw.readsAll hok KX ds _ _ h2 r2
        exact ⟨_, ReadsAllW.cons q1 q2⟩
end
end
/-! ### the arguments -/
mutual
/-- data that a codec tells -/
def plW : WData → Bool
  | .none => true
  | .bool _ => true
  | .int _ => true
  | .str _ => true
  | .bytes _ => true
  | .list xs => plWs xs
  | .tuple xs => plWs xs
  | _ => false
def plWs : List WData → Bool
  | [] => true
  | x :: r => plW x && plWs r
end
theorem plWs_map {α : Type} {f : α → WData} (h : ∀ a, plW (f a) = true) : ∀ l : List α, plWs (l.map f) = true
  | [] => rfl
  | x :: r => by
    show (plW (f x) && plWs (r.map f)) = true
    rw [h x, plWs_map h r] <;> rfl
theorem pl_enc : ∀ (c : Codec) (a : c.denote), plW (c.enc a) = true
  | .unit, _ => rfl
  | .bool, _ => rfl
  | .int _ _, _ => rfl
  | .nat _ _, _ => rfl
  | .u8, _ => rfl
  | .bytes _ _, _ => rfl
  | .text _ _ _ _, _ => rfl
  | .list _ _ c, a => plWs_map (fun x => pl_enc c x) a
  | .pair c d, a => by
    show (plW (c.enc a.1) && (plW (d.enc a.2) && true)) = true
    rw [pl_enc c a.1, pl_enc d a.2] <;> rfl
  | .triple c d e, a => by
    show (plW (c.enc a.1) && (plW (d.enc a.2.1) && (plW (e.enc a.2.2) && true))) = true
    rw [pl_enc c a.1, pl_enc d a.2.1, pl_enc e a.2.2] <;> rfl
  | .option c, none => rfl
  | .option c, some x => pl_enc c x
theorem pl_encAll : ∀ (cs : List Codec) (a : Codec.denoteAll cs), plWs (Codec.encAll cs a) = true
  | [], _ => rfl
  | c :: cs, a => by
    show (plW (c.enc a.1) && plWs (Codec.encAll cs a.2)) = true
    rw [pl_enc c a.1, pl_encAll cs a.2] <;> rfl
theorem weight_mem : ∀ {xs : List WData} {d : WData}, d ∈ xs → d.weight ≤ WData.weightAll xs
  | [], d, h => absurd h (by simp)
  | x :: r, d, h => by
    show d.weight ≤ x.weight + 1 + WData.weightAll r
    rcases List.mem_cons.mp h with e | m
    · rw [e]
      omega
    · have z := weight_mem m
      omega
def toV : Value → V
  | .none => .non
  | .bool b => .bl b
  | .int i _ => .int i
  | .str x _ => .str x
  | .bytes b _ => .byt b
  | .ref a => .ref a
  | _ => .non
/-- a value of the arguments, its objects among A -/
def OkU (A : List Addr) : Value → Prop
  | .none => True
  | .bool _ => True
  | .int _ _ => True
  | .str _ _ => True
  | .bytes _ _ => True
  | .ref a => a ∈ A
  | _ => False
theorem OkU.mono {A B : List Addr} (h : ∀ a ∈ A, a ∈ B) : ∀ {u : Value}, OkU A u → OkU B u := fun {u} x => by
  cases u with
  | ref a => exact h a x
  | none => trivial
  | bool b => trivial
  | int i t => trivial
  | str s t => trivial
  | bytes b t => trivial
  | _ => exact False.elim x
theorem relV_toV {A : List Addr} {u : Value} (x : OkU A u) : RelV (toV u) u := by
  cases u with
  | ref a => rfl
  | none => rfl
  | bool b => rfl
  | int i t => exact ⟨t, rfl⟩
  | str s t => exact ⟨t, rfl⟩
  | bytes b t => exact ⟨t, rfl⟩
  | _ => exact False.elim x
theorem vals_toV {A : List Addr} : ∀ {vs : List Value}, (∀ u ∈ vs, OkU A u) → Vals (vs.map toV) vs
  | [], _ => .nil
  | u :: r, h => .cons (relV_toV (h u (List.mem_cons_self ..))) (vals_toV fun x hx => h x (List.mem_cons_of_mem _ hx))
/-- an object of the arguments -/
def ArgOb (h : Heap) (A : List Addr) (a : Addr) : Prop := ∃ vs : List Value, vs.length ≤ sizeLine ∧ (∀ u ∈ vs, OkU A u) ∧
  (h.get? a = some { cls := .type "list", data := .seq vs.toArray } ∨ h.get? a = some { cls := .type "tuple", data := .seq vs.toArray })
theorem ArgOb.mono {h : Heap} {A B : List Addr} {a : Addr} (k : ∀ a ∈ A, a ∈ B) (x : ArgOb h A a) : ArgOb h B a := by
  obtain ⟨vs, h1, h2, h3⟩ := x
  exact ⟨vs, h1, fun u hu => (h2 u hu).mono k, h3⟩
theorem wellAll_len {P : Params} {h : Heap} : ∀ {vs : List Value} {ds : List WData}, WellAll P h vs ds → vs.length = ds.length
  | _, _, .nil => rfl
  | _, _, .cons _ b => by
    show _ + 1 = _ + 1
    rw [wellAll_len b]
theorem well_list {P : Params} {h : Heap} {v : Value} {ds : List WData} (x : Well P h v (.list ds)) : ∃ (a : Addr) (vs : List Value), v = .ref a ∧ h.get? a = some { cls := .type "list", data := .seq vs.toArray } ∧ WellAll P h vs ds := by
  cases x with
  | list ho hall => exact ⟨_, _, rfl, ho, hall⟩
theorem well_tuple {P : Params} {h : Heap} {v : Value} {ds : List WData} (x : Well P h v (.tuple ds)) : ∃ (a : Addr) (vs : List Value), v = .ref a ∧ h.get? a = some { cls := .type "tuple", data := .seq vs.toArray } ∧ WellAll P h vs ds := by
  cases x with
  | tuple ho hall => exact ⟨_, _, rfl, ho, hall⟩
theorem well_cons {P : Params} {h : Heap} {us : List Value} {d : WData} {ds : List WData} (x : WellAll P h us (d :: ds)) : ∃ (v : Value) (vs : List Value), us = v :: vs ∧ Well P h v d ∧ WellAll P h vs ds := by
  cases x with
  | cons a b => exact ⟨_, _, rfl, a, b⟩
theorem line_of {n : Nat} (h : n ≤ 1048576) : n ≤ sizeLine := Nat.le_trans h (by decide)
section
variable {P : Params} {h : Heap}
mutual
theorem area_one : ∀ (d : WData) (v : Value), Well P h v d → plW d = true → d.weight ≤ 1048576 → ∃ A : List Addr, OkU A v ∧ ∀ a ∈ A, ArgOb h A a
  | .none, _, x, _, _ => by
    cases x
    exact ⟨[], trivial, fun a m => absurd m (by simp)⟩
  | .bool b, _, x, _, _ => by
    cases x
    exact ⟨[], trivial, fun a m => absurd m (by simp)⟩
  | .int i, _, x, _, _ => by
    cases x
    exact ⟨[], trivial, fun a m => absurd m (by simp)⟩
  | .str s, _, x, _, _ => by
    cases x
    exact ⟨[], trivial, fun a m => absurd m (by simp)⟩
  | .bytes b, _, x, _, _ => by
    cases x
    exact ⟨[], trivial, fun a m => absurd m (by simp)⟩
  | .list ds, _, x, p, z => by
    obtain ⟨a, vs, rfl, ho, hall⟩ := well_list x
    have z2 : WData.weightAll ds ≤ 1048576 := z
    obtain ⟨A, h1, h2⟩ := area_all ds _ hall p fun d hd => Nat.le_trans (weight_mem hd) z2
    have k : ∀ b ∈ A, b ∈ a :: A := fun b hb => List.mem_cons_of_mem _ hb
    refine ⟨a :: A, List.mem_cons_self .., fun b hb => ?_⟩
    rcases List.mem_cons.mp hb with e | m
    · rw [e]
      exact ⟨vs, line_of (by rw [wellAll_len hall]; exact Nat.le_trans (PySem.W.length_le_weightAllW ds) z2), fun u hu => (h1 u hu).mono k, .inl ho⟩
    · exact (h2 b m).mono k
  | .tuple ds, _, x, p, z => by
    obtain ⟨a, vs, rfl, ho, hall⟩ := well_tuple x
    have z2 : WData.weightAll ds ≤ 1048576 := z
    obtain ⟨A, h1, h2⟩ := area_all ds _ hall p fun d hd => Nat.le_trans (weight_mem hd) z2
    have k : ∀ b ∈ A, b ∈ a :: A := fun b hb => List.mem_cons_of_mem _ hb
    refine ⟨a :: A, List.mem_cons_self .., fun b hb => ?_⟩
    rcases List.mem_cons.mp hb with e | m
    · rw [e]
      exact ⟨vs, line_of (by rw [wellAll_len hall]; exact Nat.le_trans (PySem.W.length_le_weightAllW ds) z2), fun u hu => (h1 u hu).mono k, .inr ho⟩
    · exact (h2 b m).mono k
  | .float _, _, _, p, _ => Bool.noConfusion (show false = true from p)
  | .dict _, _, _, p, _ => Bool.noConfusion (show false = true from p)
  | .bytearray _, _, _, p, _ => Bool.noConfusion (show false = true from p)
  | .set _, _, _, p, _ => Bool.noConfusion (show false = true from p)
  | .frozenset _, _, _, p, _ => Bool.noConfusion (show false = true from p)
  | .obj _ _, _, _, p, _ => Bool.noConfusion (show false = true from p)
theorem area_all : ∀ (ds : List WData) (vs : List Value), WellAll P h vs ds → plWs ds = true → (∀ d ∈ ds, d.weight ≤ 1048576) → ∃ A : List Addr, (∀ u ∈ vs, OkU A u) ∧ ∀ a ∈ A, ArgOb h A a
  | [], _, x, _, _ => by
    cases x
    exact ⟨[], fun u m => absurd m (by simp), fun a m => absurd m (by simp)⟩
  | d :: ds, _, x, p, z => by
    obtain ⟨v, vs, rfl, x1, x2⟩ := well_cons x
    have q : plW d = true ∧ plWs ds = true := Bool.and_eq_true_iff.mp p
    obtain ⟨A, a1, a2⟩ := area_one d v x1 q.1 (z d (List.mem_cons_self ..))
    obtain ⟨B, b1, b2⟩ := area_all ds vs x2 q.2 fun e he => z e (List.mem_cons_of_mem _ he)
    have kA : ∀ b ∈ A, b ∈ A ++ B := fun b hb => List.mem_append.mpr (.inl hb)
    have kB : ∀ b ∈ B, b ∈ A ++ B := fun b hb => List.mem_append.mpr (.inr hb)
    refine ⟨A ++ B, fun u hu => ?_, fun b hb => ?_⟩
    · rcases List.mem_cons.mp hu with e | m
      · rw [e]
        exact a1.mono kA
      · exact (b1 u m).mono kB
    · rcases List.mem_append.mp hb with m | m
      · exact (a2 b m).mono kA
      · exact (b2 b m).mono kB
end
end
/-- what is tracked of an argument's object -/
def hoOf (o : Obj) : Option HO := match o.data with
  | .seq vs _ => if (o.cls == Value.type "list") = true then some (.frz o (.lst (vs.toList.map toV))) else some (.frz o (.tup (vs.toList.map toV)))
  | _ => none
def argH (K : PySem.W.Frag) (h : Heap) (A : List Addr) : Hp := fun b => if b ∈ A then (if (K.lookup b).isNone = true then (h.get? b).bind hoOf else none) else none
/-- nothing is tracked but what is known to the object -/
def OnlyF (H : Hp) : Prop := ∀ b, H b = none ∨ ∃ o u, H b = some (.frz o u)
theorem hoOf_lst (vs : List Value) : hoOf { cls := .type "list", data := .seq vs.toArray } = some (.frz { cls := .type "list", data := .seq vs.toArray } (.lst (vs.map toV))) := by
  show (if (Value.type "list" == Value.type "list") = true then some (HO.frz { cls := .type "list", data := .seq vs.toArray } (.lst (vs.toArray.toList.map toV))) else some (HO.frz { cls := .type "list", data := .seq vs.toArray } (.tup (vs.toArray.toList.map toV)))) = _
  rw [if_pos (beq_self_eq_true _)]
theorem hoOf_tup (vs : List Value) : hoOf { cls := .type "tuple", data := .seq vs.toArray } = some (.frz { cls := .type "tuple", data := .seq vs.toArray } (.tup (vs.map toV))) := by
  show (if (Value.type "tuple" == Value.type "list") = true then some (HO.frz { cls := .type "tuple", data := .seq vs.toArray } (.lst (vs.toArray.toList.map toV))) else some (HO.frz { cls := .type "tuple", data := .seq vs.toArray } (.tup (vs.toArray.toList.map toV)))) = _
  rw [if_neg (by decide)]
section
variable {P : Program} {w : World} {K : PySem.W.Frag} {h : Heap} {A : List Addr}
theorem argH_at {b : Addr} {o : Obj} (hb : b ∈ A) (hk : K.lookup b = none) (e : h.get? b = some o) : argH K h A b = hoOf o := by
  unfold argH
  rw [if_pos hb, hk, if_pos (show (none : Option Obj).isNone = true from rfl), e] <;> rfl
theorem of_argH {b : Addr} {u : HO} (q : argH K h A b = some u) : b ∈ A ∧ K.lookup b = none := by
  unfold argH at q
  by_cases hb : b ∈ A
  · rw [if_pos hb] at q
    cases hk : K.lookup b with
    | none => exact ⟨hb, rfl⟩
    | some o =>
      rw [hk, if_neg (by simp)] at q
      cases q
  · rw [if_neg hb] at q
    cases q
/-- what stands tracked -/
theorem argH_is (ar : ∀ a ∈ A, ArgOb h A a) {b : Addr} {u : HO} (q : argH K h A b = some u) : K.lookup b = none ∧ ∃ vs : List Value, vs.length ≤ sizeLine ∧ (∀ u ∈ vs, OkU A u) ∧
    ((h.get? b = some { cls := .type "list", data := .seq vs.toArray } ∧ u = .frz { cls := .type "list", data := .seq vs.toArray } (.lst (vs.map toV))) ∨
     (h.get? b = some { cls := .type "tuple", data := .seq vs.toArray } ∧ u = .frz { cls := .type "tuple", data := .seq vs.toArray } (.tup (vs.map toV)))) := by
  obtain ⟨hb, hk⟩ := of_argH q
  obtain ⟨vs, h1, h2, h3⟩ := ar b hb
  refine ⟨hk, vs, h1, h2, ?_⟩
  rcases h3 with e | e
  · rw [argH_at hb hk e, hoOf_lst] at q
    exact .inl ⟨e, (Option.some.inj q).symm⟩
  · rw [argH_at hb hk e, hoOf_tup] at q
    exact .inr ⟨e, (Option.some.inj q).symm⟩
theorem argH_only (ar : ∀ a ∈ A, ArgOb h A a) : OnlyF (argH K h A) := fun b => by
  cases q : argH K h A b with
  | none => exact .inl rfl
  | some u =>
    obtain ⟨_, vs, _, _, ⟨_, e⟩ | ⟨_, e⟩⟩ := argH_is ar q
    · exact .inr ⟨_, _, by rw [e]⟩
    · exact .inr ⟨_, _, by rw [e]⟩
theorem argH_ok (ar : ∀ a ∈ A, ArgOb h A a) : HOk P w (argH K h A) h := fun b u q => by
  obtain ⟨_, vs, h1, h2, ⟨e, rfl⟩ | ⟨e, rfl⟩⟩ := argH_is ar q
  · exact ⟨e, by rw [List.length_map]; exact h1, vs, _, vals_toV h2, e⟩
  · exact ⟨e, by rw [List.length_map]; exact h1, vs, vals_toV h2, _, e, rfl, _, rfl⟩
theorem seq_inj {c c' : Value} {vs us : List Value} (e : (some { cls := c, data := .seq vs.toArray } : Option Obj) = some { cls := c', data := .seq us.toArray }) : c = c' ∧ vs = us := by
  have e1 := Option.some.inj e
  have e2 : c = c' := congrArg Obj.cls e1
  have e3 : Data.seq vs.toArray = Data.seq us.toArray := congrArg Obj.data e1
  injection e3 with e4
  refine ⟨e2, ?_⟩
  have e5 := congrArg Array.toList e4
  simpa using e5
/-- a list argument -/
theorem argL (KX : K.In h) (ar : ∀ a ∈ A, ArgOb h A a) {a : Addr} {vs : List Value} (ha : a ∈ A) (e : h.get? a = some { cls := .type "list", data := .seq vs.toArray }) : (∀ u ∈ vs, OkU A u) ∧ SqL K (argH K h A) a (vs.map toV) := by
  obtain ⟨us, h1, h2, h3⟩ := ar a ha
  have hu : us = vs := by
    rcases h3 with q | q
    · rw [e] at q
      exact (seq_inj q).2.symm
    · rw [e] at q
      exact absurd (Value.type.inj (seq_inj q).1) (by decide)
  subst hu
  refine ⟨h2, ?_⟩
  cases hk : K.lookup a with
  | none => exact .inl (.inr ⟨_, by rw [argH_at ha hk e, hoOf_lst]⟩)
  | some o =>
    have e2 := KX a o hk
    rw [e] at e2
    obtain rfl := Option.some.inj e2
    exact .inr ⟨_, us.toArray, _, hk, rfl, rfl, rfl, by rw [List.size_toArray]; exact h1, by simpa using vals_toV h2⟩
theorem argT (KX : K.In h) (ar : ∀ a ∈ A, ArgOb h A a) {a : Addr} {vs : List Value} (ha : a ∈ A) (e : h.get? a = some { cls := .type "tuple", data := .seq vs.toArray }) : (∀ u ∈ vs, OkU A u) ∧ SqT K (argH K h A) a (vs.map toV) := by
  obtain ⟨us, h1, h2, h3⟩ := ar a ha
  have hu : us = vs := by
    rcases h3 with q | q
    · rw [e] at q
      exact absurd (Value.type.inj (seq_inj q).1) (by decide)
    · rw [e] at q
      exact (seq_inj q).2.symm
  subst hu
  refine ⟨h2, ?_⟩
  cases hk : K.lookup a with
  | none => exact .inl (.inr ⟨_, by rw [argH_at ha hk e, hoOf_tup]⟩)
  | some o =>
    have e2 := KX a o hk
    rw [e] at e2
    obtain rfl := Option.some.inj e2
    exact .inr ⟨_, us.toArray, _, hk, rfl, rfl, by rw [List.size_toArray]; exact h1, by simpa using vals_toV h2⟩
mutual
theorem dw_one {Pm : Params} (KX : K.In h) (ar : ∀ a ∈ A, ArgOb h A a) : ∀ (d : WData) (v : Value), Well Pm h v d → plW d = true → OkU A v → Dw K (argH K h A) (toV v) d
  | .none, _, x, _, _ => by
    cases x
    exact .non
  | .bool b, _, x, _, _ => by
    cases x
    exact .bl b
  | .int i, _, x, _, _ => by
    cases x
    exact .int i
  | .str s, _, x, _, _ => by
    cases x
    exact .str s
  | .bytes b, _, x, _, _ => by
    cases x
    have z := Dw.byt (K := K) (H := argH K h A) b.toArray
    exact z
  | .list ds, _, x, p, hu => by
    obtain ⟨a, vs, rfl, ho, hall⟩ := well_list x
    obtain ⟨h2, hs⟩ := argL KX ar hu ho
    exact .lst hs (dw_all KX ar ds _ hall p h2)
  | .tuple ds, _, x, p, hu => by
    obtain ⟨a, vs, rfl, ho, hall⟩ := well_tuple x
    obtain ⟨h2, hs⟩ := argT KX ar hu ho
    exact .tup hs (dw_all KX ar ds _ hall p h2)
  | .float _, _, _, p, _ => Bool.noConfusion (show false = true from p)
  | .dict _, _, _, p, _ => Bool.noConfusion (show false = true from p)
  | .bytearray _, _, _, p, _ => Bool.noConfusion (show false = true from p)
  | .set _, _, _, p, _ => Bool.noConfusion (show false = true from p)
  | .frozenset _, _, _, p, _ => Bool.noConfusion (show false = true from p)
  | .obj _ _, _, _, p, _ => Bool.noConfusion (show false = true from p)
theorem dw_all {Pm : Params} (KX : K.In h) (ar : ∀ a ∈ A, ArgOb h A a) : ∀ (ds : List WData) (vs : List Value), WellAll Pm h vs ds → plWs ds = true → (∀ u ∈ vs, OkU A u) → DwAll K (argH K h A) (vs.map toV) ds
  | [], _, x, _, _ => by
    cases x
    exact .nil
  | d :: ds, _, x, p, hu => by
    obtain ⟨v, vs, rfl, x1, x2⟩ := well_cons x
    have q : plW d = true ∧ plWs ds = true := Bool.and_eq_true_iff.mp p
    exact .cons (dw_one KX ar d v x1 q.1 (hu _ (List.mem_cons_self ..))) (dw_all KX ar ds vs x2 q.2 fun u m => hu u (List.mem_cons_of_mem _ m))
end
end
/-! ### the call -/
theorem spec_call {P : Program} {w : World} {K : PySem.W.Frag} {mg mb : Str → Option Value} {CX : CXT} {k : Nat} {fa : Addr} {fd : FuncData} {ps : List Str} {sp : Sp} {s₁ : Shared} {vals : List Value} {ds : List WData} {R : PySem.W.WRecords} {cl : Str → Option Addr} {d0 : WData}
    (KX : K.In s₁.heap) (hns : s₁.heap.Ns mainGlobals mg) (hb : s₁.heap.Ns builtinsNs mb) (hbb : ∀ x : Str, x ≠ "__name__" → mb x = bootBuiltins x) (hlim : s₁.heap.NoLimit) (hg : s₁.gens = #[])
    (hwl : WellAll w.params s₁.heap vals ds) (hpl : plWs ds = true) (hwt : ∀ d ∈ ds, d.weight ≤ 1048576) (hr : Room k callerA)
    (F : ∀ base : Heap, K.In base → base.Ns mainGlobals mg → FnOk P w K mg base CX k fa fd ps sp) (hbind : ∀ (s : Shared) (us : List Value), us.length = ps.length → BindsTo s fd ⟨us, []⟩ (ps.zip us)) (hlen : ds.length = ps.length)
    (hsp : ∀ (H : Hp) (xs : List V), OnlyF H → DwAll K H xs ds → sp xs H (fun v H' => Dw K H' v d0) fun _ _ _ => False)
    (hCX : ∀ H e s', CX [] H s₁ (fun _ _ _ => False) e s' → False) :
    codeAny (model P w) callerA (.call (.ref fa) ⟨vals, []⟩) (fun r s' => ∃ u as, r = .ok (.ret u) ∧ ReadsW R cl s'.heap u d0 as ∧ OldK s₁.heap s'.heap ∧ s'.os = s₁.os ∧ AllBare s'.gens) s₁ := by
  obtain ⟨A, ho, ar⟩ := area_all ds vals hwl hpl hwt
  have hO : OnlyF (argH K s₁.heap A) := argH_only ar
  have hok : HOk P w (argH K s₁.heap A) s₁.heap := argH_ok ar
  have hS := dw_all KX ar ds vals hwl hpl ho
  have hV := vals_toV ho
  have hK : ∀ b u, argH K s₁.heap A b = some u → K.lookup b = none := fun b u q => (argH_is ar q).1
  have noA : ∀ {b : Addr} {o : Obj} {es : Array DictEntry} {ep : Nat}, s₁.heap.get? b = some o → o.data = .dict es ep → argH K s₁.heap A b = none := fun {b o es ep} e d => by
    cases q : argH K s₁.heap A b with
    | none => rfl
    | some u =>
      obtain ⟨_, vs, _, _, ⟨e2, _⟩ | ⟨e2, _⟩⟩ := argH_is ar q
      · rw [e2] at e
        cases e
        have d' : Data.seq vs.toArray _ = Data.dict es ep := d
        cases d'
      · rw [e2] at e
        cases e
        have d' : Data.seq vs.toArray _ = Data.dict es ep := d
        cases d'
  generalize argH K s₁.heap A = H at hO hok hS hK noA
  have base_of : ∀ {b : Addr} {o : Obj}, s₁.heap.get? b = some o → H b = none → (hidT s₁.heap H).get? b = some o := fun e n => hidT_get e n
  have nsK : ∀ {b : Addr} {m : Str → Option Value}, s₁.heap.Ns b m → (hidT s₁.heap H).Ns b m := fun {b m} ⟨o, es, ep, e, d, r⟩ => ⟨o, es, ep, base_of e (noA e d), d, r⟩
  have nK : ∀ b o, K.lookup b = some o → H b = none := fun b o e => by
    cases q : H b with
    | none => rfl
    | some u =>
      rw [hK b u q] at e
      cases e
  have hKb : K.In (hidT s₁.heap H) := fun b o e => base_of (KX b o e) (nK b o e)
  have hM : Mod K mg (hidT s₁.heap H) := ⟨hKb, nsK hns, ⟨mb, nsK hb, hbb⟩, let ⟨mc, h1, h2⟩ := hlim; ⟨mc, nsK h1, h2⟩⟩
  have e0 : Env0 P w K mg (hidT s₁.heap H) callerA [] s₁ H := ⟨rfl, hM, fun b o e => of_hidT e, Nat.le_of_eq (hidT_size _ _), trivial, fun b hb => absurd (show b ∈ ([] : List Addr) from hb) (by simp), hok, .of_eq hg⟩
  have hl : vals.length = ps.length := by rw [wellAll_len hwl]; exact hlen
  refine codeAny_mono ((F _ hKb (nsK hns)).run callerA [] s₁ H ⟨vals, []⟩ vals (vals.map toV) _ _ hr e0 (hbind s₁ vals hl) hV (hsp H _ hO hS)) fun r s' x => ?_
  cases r with
  | error e => exact (hCX H e s' x).elim
  | ok fl =>
    cases fl with
    | next => exact False.elim x
    | brk => exact False.elim x
    | cont => exact False.elim x
    | ret u =>
      obtain ⟨v, H', os, bare, un, hok', r', q⟩ := x
      have kept : ∀ b o, s₁.heap.get? b = some o → s'.heap.get? b = some o := fun b o e => by
        cases q2 : H b with
        | none => exact un.keep b o e q2 (by intro z; exact absurd (show b ∈ ([] : List Addr) from z) (by simp)) (by simp)
        | some u2 =>
          rcases hO b with z | ⟨ob, u3, z⟩
          · rw [q2] at z
            cases z
          · have z2 := un.frzs b ob _ z
            obtain ⟨e1, _⟩ := hok b _ z
            obtain ⟨e2, _⟩ := hok' b _ z2
            rw [e] at e1
            cases e1
            exact e2
      have KX' : K.In s'.heap := fun b o e => kept b o (KX b o e)
      obtain ⟨as, hrd⟩ := Dw.reads (R := R) (cl := cl) hok' KX' d0 v u q r'
      exact ⟨u, as, rfl, hrd, OldK.of_keep kept, os, bare⟩
/-! ### the row -/
theorem layable_weight {ds : List WData} (h : WData.layableAll ds = true) : ∀ d ∈ ds, d.weight ≤ 1048576 := fun d hd =>
  (PySem.W.layableW_iff.mp (List.all_eq_true.mp h d hd)).2.2
theorem encAll_len : ∀ (cs : List Codec) (a : Codec.denoteAll cs), (Codec.encAll cs a).length = cs.length
  | [], _ => rfl
  | c :: cs, a => by
    show (Codec.encAll cs a.2).length + 1 = cs.length + 1
    rw [encAll_len cs a.2]
/-- the goal that k_headS leaves (case hc), from the promise of the row's def: whatever the arguments that the codecs let and the row asks for, the def gives what stands for enc (f ..) -/
theorem walk_spec {r : OpenSpec} {k : Nat} {q : Program} {loose : List Str} {XP : (Str → Option Value) → Heap → Prop} {YP : World → Heap → Prop} {d : DefRec} {K : Params → PySem.W.Frag} {CX : World → CXT} {ps : List Str} {sp : World → Sp}
    (hwell : r.wellSaid = true) (hdf : d.params.defaults = []) (hlen : r.args.length = ps.length) (hr : Room k callerA)
    (hY : ∀ (w : World) (h : Heap), YP w h → (K w.params).In h)
    (F : ∀ (w : World) (mg : Str → Option Value) (fa : Addr) (h : Heap), YP w h → (K w.params).In h → h.Ns mainGlobals mg → mg d.name = some (.ref fa) →
      ∃ fd : FuncData, (∀ (s : Shared) (us : List Value), us.length = ps.length → BindsTo s fd ⟨us, []⟩ (ps.zip us)) ∧
        ∀ base : Heap, (K w.params).In base → base.Ns mainGlobals mg → FnOk r.prog w (K w.params) mg base (CX w) k fa fd ps (sp w))
    (hsp : ∀ (w : World) (H : Hp) (xs : List V) (a : Codec.denoteAll r.args), OnlyF H → Codec.withinAll r.args a = true → Codec.app r.args r.asked a = true → DwAll (K w.params) H xs (Codec.encAll r.args a) →
      sp w xs H (fun v H' => Dw (K w.params) H' v (r.ret.enc (Codec.app r.args r.f a))) fun _ _ _ => False)
    (hCX : ∀ (w : World) (H : Hp) (s : Shared) (e : Value) (s' : Shared), CX w [] H s (fun _ _ _ => False) e s' → False) :
    PySem.W.WalkOS q loose XP YP r d [] (fun f vs => PySem.call f vs) := by
  intro w s_0 s₁ mg mb G Y fa o pm cd doc dV kV ho hd hcd hD hmg hg args vals as hpre hlay hrd hwl hlo
  obtain ⟨a, e1, e2⟩ := PySem.W.os_pre_some hpre
  obtain ⟨e3, hwi⟩ := Codec.encAll_of_decAll r.args args a e1
  subst e3
  have KX := hY w _ Y
  obtain ⟨fd, hb, hF⟩ := F w mg fa _ Y KX G.T.g hmg
  refine PySem.W.enter_call (codeAny_mono (spec_call (R := []) (cl := classAt s_0.heap) (d0 := r.ret.enc (Codec.app r.args r.f a)) KX G.T.g G.T.b G.T.builtins G.T.nolimit hg hwl (pl_encAll _ _) (layable_weight hlay) hr hF hb (by rw [encAll_len]; exact hlen)
    (fun H xs hO hS => hsp w H xs a hO hwi e2 hS) fun H e s' => hCX w H s₁ e s') fun r' s' hq => ?_)
  obtain ⟨u, as', rfl, h1, h2, h3, h4⟩ := hq
  exact ⟨.inl ⟨u, _, as', rfl, fun _ => rfl, h1, (OpenSpec.post_iff hwell hwi _ _).mpr rfl, fun z => Bool.noConfusion (show false = true from z)⟩, h2, h3, h4⟩
/-- the same where the promise hangs on the written part alone -/
theorem walk_specK {r : OpenSpec} {k : Nat} {q : Program} {loose : List Str} {XP : (Str → Option Value) → Heap → Prop} {YP : World → Heap → Prop} {d : DefRec} {K : Params → PySem.W.Frag} {CX : CXT} {ps : List Str} {sp : PySem.W.Frag → Sp}
    (hwell : r.wellSaid = true) (hdf : d.params.defaults = []) (hlen : r.args.length = ps.length) (hr : Room k callerA)
    (hY : ∀ (w : World) (h : Heap), YP w h → (K w.params).In h)
    (F : ∀ (w : World) (mg : Str → Option Value) (fa : Addr) (h : Heap), YP w h → (K w.params).In h → h.Ns mainGlobals mg → mg d.name = some (.ref fa) →
      ∃ fd : FuncData, (∀ (s : Shared) (us : List Value), us.length = ps.length → BindsTo s fd ⟨us, []⟩ (ps.zip us)) ∧
        ∀ base : Heap, (K w.params).In base → base.Ns mainGlobals mg → FnOk r.prog w (K w.params) mg base CX k fa fd ps (sp (K w.params)))
    (hsp : ∀ (K : PySem.W.Frag) (H : Hp) (xs : List V) (a : Codec.denoteAll r.args), OnlyF H → Codec.withinAll r.args a = true → Codec.app r.args r.asked a = true → DwAll K H xs (Codec.encAll r.args a) →
      sp K xs H (fun v H' => Dw K H' v (r.ret.enc (Codec.app r.args r.f a))) fun _ _ _ => False)
    (hCX : ∀ (H : Hp) (s : Shared) (e : Value) (s' : Shared), CX [] H s (fun _ _ _ => False) e s' → False) :
    PySem.W.WalkOS q loose XP YP r d [] (fun f vs => PySem.call f vs) :=
  walk_spec (K := K) (CX := fun _ => CX) (sp := fun w => sp (K w.params)) hwell hdf hlen hr hY F (fun w H xs a h1 h2 h3 h4 => hsp (K w.params) H xs a h1 h2 h3 h4) fun _ H s e s' => hCX H s e s'
end L2
end
end

section
/-! Sets as numbers: bits of whole numbers, sums of powers of two. -/
namespace Be
open PySem PyProof.Rows

theorem band_nat (a b : Nat) : Builtin.bitAnd (a : Int) (b : Int) = ((a &&& b : Nat) : Int) := by
  rw [bitAnd_pp (Int.natCast_nonneg a) (Int.natCast_nonneg b)]; simp
theorem bor_nat (a b : Nat) : Builtin.bitOr (a : Int) (b : Int) = ((a ||| b : Nat) : Int) := by
  have n1 : ¬ (0 : Int) ≤ Builtin.bitNot (a : Int) := by unfold Builtin.bitNot; omega
  have n2 : ¬ (0 : Int) ≤ Builtin.bitNot (b : Int) := by unfold Builtin.bitNot; omega
  unfold Builtin.bitOr
  rw [bitAnd_nn n1 n2]
  have e : ∀ x : Int, Builtin.bitNot (Builtin.bitNot x) = x := fun x => by unfold Builtin.bitNot; omega
  rw [e, e, e]
  simp
/-- numbers without a common bit: their sum has the bits of both -/
theorem add_or {a b : Nat} (h : a &&& b = 0) : a + b = a ||| b := by
  have e := bitOr_and (a : Int) (b : Int)
  rw [bor_nat, band_nat, h] at e
  omega
theorem xor_add (a b : Nat) : (a &&& b) + (a ^^^ b) = a ||| b := by
  have h : (a &&& b) &&& (a ^^^ b) = 0 := by
    apply Nat.eq_of_testBit_eq
    intro i
    rw [Nat.testBit_and, Nat.testBit_and, Nat.testBit_xor, Nat.zero_testBit]
    cases a.testBit i <;> cases b.testBit i <;> rfl
  rw [add_or h]
  apply Nat.eq_of_testBit_eq
  intro i
  rw [Nat.testBit_or, Nat.testBit_and, Nat.testBit_xor, Nat.testBit_or]
  cases a.testBit i <;> cases b.testBit i <;> rfl
theorem bxor_nat (a b : Nat) : Builtin.bitXor (a : Int) (b : Int) = ((a ^^^ b : Nat) : Int) := by
  unfold Builtin.bitXor
  rw [bor_nat, band_nat]
  have := xor_add a b
  omega
/-- the bits of a that b has not -/
def minus (a b : Nat) : Nat := a - (a &&& b)
theorem minus_tb (a b i : Nat) : (minus a b).testBit i = (a.testBit i && !b.testBit i) := by
  have hd : (a &&& b) &&& (a ^^^ (a &&& b)) = 0 := by
    apply Nat.eq_of_testBit_eq
    intro i
    rw [Nat.testBit_and, Nat.testBit_and, Nat.testBit_xor, Nat.testBit_and, Nat.zero_testBit]
    cases a.testBit i <;> cases b.testBit i <;> rfl
  have e : (a &&& b) + (a ^^^ (a &&& b)) = a := by
    rw [add_or hd]
    apply Nat.eq_of_testBit_eq
    intro i
    rw [Nat.testBit_or, Nat.testBit_xor, Nat.testBit_and]
    cases a.testBit i <;> cases b.testBit i <;> rfl
  have e2 : minus a b = a ^^^ (a &&& b) := by
    unfold minus
    omega
  rw [e2, Nat.testBit_xor, Nat.testBit_and]
  cases a.testBit i <;> cases b.testBit i <;> rfl
theorem minus_le (a b : Nat) : minus a b ≤ a := Nat.sub_le _ _
theorem band_not (a b : Nat) : Builtin.bitAnd (a : Int) (Builtin.bitNot (b : Int)) = ((minus a b : Nat) : Int) := by
  rw [bitAnd_not, band_nat]
  have : a &&& b ≤ a := Nat.and_le_left
  unfold minus
  omega
/-- one bit -/
theorem and_pow (m p : Nat) : m &&& 2 ^ p = if m.testBit p then 2 ^ p else 0 := by
  apply Nat.eq_of_testBit_eq
  intro i
  rw [Nat.testBit_and, Nat.testBit_two_pow]
  by_cases h : p = i
  · subst h
    cases e : m.testBit p <;> simp
  · cases e : m.testBit p <;> simp [h]
theorem and_pow_ne (m p : Nat) : decide (¬ (((m &&& 2 ^ p : Nat) : Int) = 0)) = m.testBit p := by
  have hp : 0 < 2 ^ p := Nat.two_pow_pos p
  rw [and_pow]
  cases e : m.testBit p with
  | true =>
    rw [if_pos rfl]
    exact decide_eq_true (by omega)
  | false =>
    rw [if_neg Bool.false_ne_true]
    exact decide_eq_false (by simp)
/-- a sum of different powers -/
def pows (l : List Nat) : Nat := (l.map fun x => 2 ^ x).sum
theorem pows_tb : ∀ (l : List Nat), l.Nodup → ∀ i, (pows l).testBit i = decide (i ∈ l)
  | [], _, i => by simp [pows]
  | x :: l, h, i => by
    obtain ⟨h1, h2⟩ := List.nodup_cons.mp h
    have ih := pows_tb l h2
    have hd : 2 ^ x &&& pows l = 0 := by
      rw [Nat.and_comm, and_pow, ih x, if_neg (by simp [h1])]
    have e : pows (x :: l) = 2 ^ x ||| pows l := by
      rw [← add_or hd]
      simp [pows]
    rw [e, Nat.testBit_or, ih i, Nat.testBit_two_pow]
    by_cases hi : i = x
    · subst hi; simp
    · have : ¬ x = i := fun z => hi z.symm
      simp [this, hi]
/-- all below n -/
theorem full_tb (n i : Nat) : (2 ^ n - 1).testBit i = decide (i < n) := Nat.testBit_two_pow_sub_one n i
/-- a number's size in bits -/
theorem bits_lt (s : Nat) : s < 2 ^ (Builtin.Int.intBits (s : Int)) := by
  unfold Builtin.Int.intBits
  by_cases h : s = 0
  · subst h; simp
  · rw [if_neg (by simp [h])]
    simp only [Int.natAbs_natCast]
    exact Nat.lt_log2_self
theorem bits_le {s n : Nat} (h : s < 2 ^ n) : Builtin.Int.intBits (s : Int) ≤ n := by
  unfold Builtin.Int.intBits
  by_cases h0 : s = 0
  · subst h0; simp
  · rw [if_neg (by simp [h0])]
    simp only [Int.natAbs_natCast]
    have := (Nat.log2_lt h0).mpr h
    omega
/-- the members below a, below b, are the same if the set is below both -/
theorem members_eq {s a b : Nat} (ha : s < 2 ^ a) (hab : a ≤ b) : (List.range b).filter (fun i => s.testBit i) = (List.range a).filter (fun i => s.testBit i) := by
  obtain ⟨d, rfl⟩ : ∃ d, b = a + d := ⟨b - a, by omega⟩
  clear hab
  induction d with
  | zero => rfl
  | succ d ih =>
    rw [← Nat.add_assoc, List.range_succ, List.filter_append, ih]
    have e : s.testBit (a + d) = false := Nat.testBit_lt_two_pow (Nat.lt_of_lt_of_le ha (Nat.pow_le_pow_right (by decide) (by omega)))
    simp [e]
def mem (s : Nat) : List Nat := (List.range (Builtin.Int.intBits (s : Int))).filter fun i => s.testBit i
theorem mem_eq {s n : Nat} (h : s < 2 ^ n) : mem s = (List.range n).filter fun i => s.testBit i := (members_eq (bits_lt s) (bits_le h)).symm
/-- (s >> i) & 1 -/
theorem shr_one (s i : Nat) : Builtin.bitAnd ((s : Int) / 2 ^ i) 1 = if s.testBit i then 1 else 0 := by
  rw [bitAnd_m1, Nat.testBit_eq_decide_div_mod_eq]
  have e : (s : Int) / 2 ^ i = ((s / 2 ^ i : Nat) : Int) := by
    rw [Int.natCast_ediv]; simp
  rw [e]
  by_cases h : s / 2 ^ i % 2 = 1
  · simp [h]; omega
  · simp [h]; omega
/-- the sum of a number's bits, place by place -/
theorem sum_bits (m : Nat) : ∀ L : Nat, (List.range L).foldl (fun a k => a + (if m.testBit k then 2 ^ k else 0)) 0 = m % 2 ^ L
  | 0 => by simp [Nat.mod_one]
  | L + 1 => by
    rw [List.range_succ, List.foldl_append, sum_bits m L, Nat.mod_pow_succ]
    simp only [List.foldl_cons, List.foldl_nil, Nat.testBit_eq_decide_div_mod_eq]
    by_cases h : m / 2 ^ L % 2 = 1
    · simp [h]
    · have h0 : m / 2 ^ L % 2 = 0 := by omega
      simp [h0]
theorem xor_lt {m p L : Nat} (hm : m < 2 ^ L) (hp : p < L) : m ^^^ 2 ^ p < 2 ^ L := Nat.xor_lt_two_pow hm (Nat.pow_lt_pow_right (by decide) hp)
end Be
end

section
/-! The specification's leagues by the games' number. -/
namespace Be
open Kqm5

def gms (n : Nat) : Nat := n * (n - 1) / 2
theorem pairs_len {n : Nat} (h : n ≤ 7) : (pairs n).length = gms n := by
  have k : ∀ n : Nat, n < 8 → (pairs n).length = gms n := by decide +kernel
  exact k n (by omega)
/-- where the game of i and j (i below j) stands -/
def spot (n i j : Nat) : Nat := i * (2 * n - i - 1) / 2 + (j - i - 1)
theorem place_spot {n i j : Nat} (h : n ≤ 7) (hi : i < j) (hj : j < n) : place n i j = spot n i j ∧ place n j i = spot n i j ∧ spot n i j < gms n := by
  have k : ∀ n : Nat, n < 8 → ∀ j : Nat, j < n → ∀ i : Nat, i < j → place n i j = spot n i j ∧ place n j i = spot n i j ∧ spot n i j < gms n := by decide +kernel
  exact k n (by omega) j hj i hi
theorem place_comm (n i j : Nat) : place n i j = place n j i := by
  unfold place
  rw [Nat.min_comm, Nat.max_comm]
theorem place_lt {n i j : Nat} (h : n ≤ 7) (hi : i < n) (hj : j < n) (ne : i ≠ j) : place n i j < gms n := by
  rcases Nat.lt_or_gt_of_ne ne with h1 | h1
  · have := place_spot h h1 hj
    omega
  · have := place_spot h h1 hi
    omega

theorem bits_games (n m : Nat) (h : n ≤ 7) : (bits n m).games.length = gms n := by
  unfold bits
  simp [pairs_len h]
theorem bits_getD {n m k : Nat} (h : n ≤ 7) (hk : k < gms n) : (bits n m).games.getD k false = m.testBit k := by
  unfold bits
  simp [pairs_len h, hk]
/-- i beat j, by the games' number -/
def bt (n m i j : Nat) : Bool := if i < j then !(m.testBit (place n i j)) else decide (j < i) && m.testBit (place n i j)
theorem beats_bits {n m i j : Nat} (h : n ≤ 7) (hi : i < n) (hj : j < n) : beats (bits n m) i j = bt n m i j := by
  unfold beats bt
  have e : (bits n m).players = n := rfl
  rw [e]
  by_cases h1 : i < j
  · rw [if_pos h1, if_pos h1, bits_getD h (place_lt h hi hj (by omega))]
  · rw [if_neg h1, if_neg h1]
    by_cases h2 : j < i
    · rw [bits_getD h (place_lt h hi hj (by omega))]
    · simp [h2]
theorem bt_self (n m i : Nat) : bt n m i i = false := by simp [bt]
theorem bt_swap {n m i j : Nat} (ne : i ≠ j) : bt n m j i = !bt n m i j := by
  unfold bt
  rw [place_comm n j i]
  rcases Nat.lt_or_gt_of_ne ne with h1 | h1
  · simp [h1, show ¬ j < i by omega]
  · simp [h1, show ¬ i < j by omega]
theorem fresh_bits (n : Nat) : fresh n = bits n 0 := by
  unfold fresh bits
  congr 1
  apply List.ext_getElem?
  intro i
  by_cases h : i < (pairs n).length
  · simp [h]
  · simp [h]
theorem turned_bits {n m i j : Nat} (h : n ≤ 7) (hi : i < n) (hj : j < n) (ne : i ≠ j) : turned (bits n m) i j = bits n (m ^^^ 2 ^ place n i j) := by
  have hp := place_lt h hi hj ne
  unfold turned
  rw [show (bits n m).players = n from rfl, bits_getD h hp]
  show (⟨n, ((bits n m).games.set (place n i j) (!(m.testBit (place n i j))))⟩ : League) = bits n (m ^^^ 2 ^ place n i j)
  unfold bits
  congr 1
  apply List.ext_getElem?
  intro k
  rw [List.getElem?_set]
  by_cases hk : place n i j = k
  · subst hk
    simp [pairs_len h, hp, Nat.testBit_xor, Nat.testBit_two_pow_self]
  · rw [if_neg hk]
    by_cases hl : k < gms n
    · simp [pairs_len h, hl, Nat.testBit_xor, Nat.testBit_two_pow, hk]
    · simp [pairs_len h, hl]
theorem number_bits {n m : Nat} (h : n ≤ 7) (hm : m < 2 ^ gms n) : number (bits n m) = m := by
  unfold number
  rw [bits_games n m h]
  have e : (List.range (gms n)).foldl (fun a k => a + (if (bits n m).games.getD k false then 2 ^ k else 0)) 0 = (List.range (gms n)).foldl (fun a k => a + (if m.testBit k then 2 ^ k else 0)) 0 := by
    have g : ∀ (l : List Nat) (a : Nat), (∀ k ∈ l, k < gms n) → l.foldl (fun a k => a + (if (bits n m).games.getD k false then 2 ^ k else 0)) a = l.foldl (fun a k => a + (if m.testBit k then 2 ^ k else 0)) a := by
      intro l
      induction l with
      | nil => intro a _; rfl
      | cons x l ih =>
        intro a hl
        rw [List.foldl_cons, List.foldl_cons, bits_getD h (hl x (List.mem_cons_self ..)), ih _ fun k hk => hl k (List.mem_cons_of_mem _ hk)]
    exact g _ 0 fun k hk => List.mem_range.mp hk
  rw [e, sum_bits, Nat.mod_eq_of_lt hm]
theorem squares3 : bySquares 3 = bits 3 2 := by
  have e : (bySquares 3).games = (bits 3 2).games := by decide +kernel
  exact congrArg (League.mk 3) e
theorem squares7 : bySquares 7 = bits 7 (number (bySquares 7)) := by
  have e : (bySquares 7).games = (bits 7 (number (bySquares 7))).games := by decide +kernel
  exact congrArg (League.mk 7) e

/-! ### sets -/
theorem of_bits (n m s : Nat) : of_ (bits n m) s = (List.range n).filter fun i => s.testBit i := rfl
theorem of_mem {n m s : Nat} (h : s < 2 ^ n) : of_ (bits n m) s = mem s := (mem_eq h).symm
theorem mem_lt {s n i : Nat} (h : s < 2 ^ n) (hi : i ∈ mem s) : i < n := by
  rw [mem_eq h] at hi
  exact List.mem_range.mp (List.mem_filter.mp hi).1
theorem mem_tb {s i : Nat} (hi : i ∈ mem s) : s.testBit i = true := (List.mem_filter.mp hi).2
theorem mem_iff {s i : Nat} : i ∈ mem s ↔ s.testBit i = true := by
  refine ⟨mem_tb, fun h => List.mem_filter.mpr ⟨List.mem_range.mpr ?_, h⟩⟩
  refine Nat.lt_of_not_le fun q => ?_
  have := Nat.testBit_lt_two_pow (Nat.lt_of_lt_of_le (bits_lt s) (Nat.pow_le_pow_right (by decide) q))
  rw [this] at h
  cases h
theorem all_bits (n m : Nat) : all (bits n m) = List.range n := rfl
theorem wins_bits {n m i : Nat} (h : n ≤ 7) (hi : i < n) : wins (bits n m) i = ((List.range n).filter fun j => bt n m i j).length := by
  unfold wins
  rw [all_bits]
  congr 1
  apply List.filter_congr
  intro j hj
  rw [beats_bits h hi (List.mem_range.mp hj)]
/-- those whom i beat, and i -/
def beaten (n m i : Nat) : List Nat := (List.range n).filter fun j => bt n m i j
def reach (n m i : Nat) : Nat := pows (i :: beaten n m i)
theorem reach_tb {n m i : Nat} (j : Nat) : (reach n m i).testBit j = (decide (j = i) || (decide (j < n) && bt n m i j)) := by
  have nd : (i :: beaten n m i).Nodup := by
    refine List.nodup_cons.mpr ⟨fun h => ?_, List.Pairwise.filter _ List.nodup_range⟩
    have := (List.mem_filter.mp h).2
    rw [bt_self] at this
    cases this
  unfold reach
  rw [pows_tb _ nd j]
  simp [beaten]
/-- what is left by a set: the loop over its members -/
def leftN (n m s : Nat) : Nat := (mem s).foldl (fun r i => minus r (reach n m i)) (2 ^ n - 1)
theorem fold_minus (f : Nat → Nat) : ∀ (l : List Nat) (r j : Nat), (l.foldl (fun r i => minus r (f i)) r).testBit j = (r.testBit j && l.all fun i => !(f i).testBit j)
  | [], r, j => by simp
  | x :: l, r, j => by
    rw [List.foldl_cons, fold_minus f l, minus_tb, List.all_cons, Bool.and_assoc]
theorem leftN_tb {n m s j : Nat} (h : n ≤ 7) (hs : s < 2 ^ n) : (leftN n m s).testBit j = (decide (j < n) && (!s.testBit j && (of_ (bits n m) s).all fun i => !(beats (bits n m) i j))) := by
  unfold leftN
  rw [fold_minus, full_tb, of_mem hs]
  by_cases hj : j < n
  · simp only [hj, decide_true, Bool.true_and]
    rw [Bool.eq_iff_iff, Bool.and_eq_true, List.all_eq_true, List.all_eq_true]
    constructor
    · intro a
      refine ⟨?_, fun i hi => ?_⟩
      · cases e : s.testBit j with
        | false => rfl
        | true =>
          have := a j (mem_iff.mpr e)
          rw [reach_tb] at this
          simp at this
      · have := a i hi
        rw [reach_tb] at this
        rw [beats_bits h (mem_lt hs hi) hj]
        simp [hj] at this
        rw [this.2]
        rfl
    · rintro ⟨a1, a2⟩ i hi
      have := a2 i hi
      rw [beats_bits h (mem_lt hs hi) hj] at this
      rw [reach_tb]
      have ne : ¬ j = i := by
        intro q
        subst q
        rw [mem_tb hi] at a1
        cases a1
      simp only [ne, hj, decide_false, decide_true, Bool.false_or, Bool.true_and]
      exact this
  · simp [hj]
theorem leftN_lt {n m s : Nat} (h : n ≤ 7) (hs : s < 2 ^ n) : leftN n m s < 2 ^ n := by
  apply Nat.lt_pow_two_of_testBit
  intro i hi
  rw [leftN_tb h hs]
  simp [show ¬ i < n by omega]
theorem left_bits {n m s : Nat} (h : n ≤ 7) (hs : s < 2 ^ n) : left (bits n m) s = mem (leftN n m s) := by
  rw [mem_eq (leftN_lt h hs)]
  unfold left
  rw [all_bits]
  apply List.filter_congr
  intro j hj
  rw [leftN_tb h hs, decide_eq_true (List.mem_range.mp hj), Bool.true_and]
theorem mem_nil {s : Nat} : mem s = [] ↔ s = 0 := by
  constructor
  · intro h
    apply Nat.eq_of_testBit_eq
    intro i
    rw [Nat.zero_testBit]
    cases e : s.testBit i with
    | false => rfl
    | true =>
      have := mem_iff.mpr e
      rw [h] at this
      cases this
  · intro h
    subst h
    rfl
theorem covers_bits {n m s : Nat} (h : n ≤ 7) (hs : s < 2 ^ n) : covers (bits n m) s = decide (leftN n m s = 0) := by
  unfold covers
  rw [left_bits h hs]
  by_cases e : leftN n m s = 0
  · rw [decide_eq_true e, e]; rfl
  · rw [decide_eq_false e]
    have : ¬ mem (leftN n m s) = [] := fun q => e (mem_nil.mp q)
    simpa using this
end Be
end

section
/-! The fewest, the first of them: by the first best of a list. -/
namespace Be
open Kqm5

theorem foldl_min_eq {α : Type} (f : α → Nat) : ∀ (l : List α) (a b : Nat), b ≤ a → (∀ x ∈ l, b ≤ f x) → (b = a ∨ ∃ x ∈ l, f x = b) → l.foldl (fun a s => min a (f s)) a = b
  | [], a, b, h1, h2, h3 => by
    rcases h3 with h3 | ⟨x, hx, _⟩
    · exact h3.symm
    · cases hx
  | y :: l, a, b, h1, h2, h3 => by
    rw [List.foldl_cons]
    have hy := h2 y (List.mem_cons_self ..)
    refine foldl_min_eq f l (min a (f y)) b (by omega) (fun x hx => h2 x (List.mem_cons_of_mem _ hx)) ?_
    rcases h3 with h3 | ⟨x, hx, e⟩
    · exact .inl (by omega)
    · rcases List.mem_cons.mp hx with rfl | hx
      · exact .inl (by omega)
      · exact .inr ⟨x, hx, e⟩
theorem find_first {α : Type} {p : α → Bool} : ∀ {l : List α} {i : Nat} {x : α}, l[i]? = some x → p x = true → (∀ j y, j < i → l[j]? = some y → p y = false) → l.find? p = some x
  | [], _, _, h, _, _ => by simp at h
  | a :: l, 0, x, h, hp, _ => by
    have e : a = x := Option.some.inj h
    subst e
    rw [List.find?_cons, hp]
  | a :: l, i + 1, x, h, hp, hb => by
    rw [List.find?_cons, hb 0 a (by omega) rfl]
    exact find_first (l := l) (i := i) h hp fun j y hj hy => hb (j + 1) y (by omega) hy
/-- the sets that are enough -/
def enough (n m : Nat) : List Nat := (List.range (2 ^ n)).filter fun s => decide (leftN n m s = 0)
theorem enough_covers {n m : Nat} (h : n ≤ 7) : ((sets (bits n m)).filter fun s => covers (bits n m) s) = enough n m := by
  unfold sets enough
  apply List.filter_congr
  intro s hs
  exact covers_bits h (List.mem_range.mp hs)
theorem enough_lt {n m s : Nat} (h : s ∈ enough n m) : s < 2 ^ n := List.mem_range.mp (List.mem_filter.mp h).1
/-- all together are enough -/
theorem enough_all {n m : Nat} (h : n ≤ 7) : 2 ^ n - 1 ∈ enough n m := by
  have hp : 0 < 2 ^ n := Nat.two_pow_pos n
  refine List.mem_filter.mpr ⟨List.mem_range.mpr (by omega), decide_eq_true ?_⟩
  apply Nat.eq_of_testBit_eq
  intro j
  rw [leftN_tb h (by omega), Nat.zero_testBit, full_tb]
  cases decide (j < n) <;> simp
theorem enough_pos {n m : Nat} (h : n ≤ 7) : 0 < (enough n m).length := List.length_pos_of_mem (enough_all h)
theorem mem_len {s n : Nat} (h : s < 2 ^ n) : (mem s).length ≤ n := by
  rw [mem_eq h]
  exact Nat.le_trans (List.length_filter_le _ _) (by simp)
theorem fewest_is {n m i s : Nat} (h : n ≤ 7) (hi : (enough n m)[i]? = some s) (hb : ∀ (j t : Nat), (enough n m)[j]? = some t → (mem s).length ≤ (mem t).length) : fewest (bits n m) = (mem s).length := by
  unfold fewest
  rw [enough_covers h]
  have hs := List.mem_of_getElem? hi
  have e : (enough n m).foldl (fun a s => min a (of_ (bits n m) s).length) n = (enough n m).foldl (fun a s => min a (mem s).length) n := by
    have g : ∀ (l : List Nat) (a : Nat), (∀ s ∈ l, s < 2 ^ n) → l.foldl (fun a s => min a (of_ (bits n m) s).length) a = l.foldl (fun a s => min a (mem s).length) a := by
      intro l
      induction l with
      | nil => intro a _; rfl
      | cons x l ih =>
        intro a hl
        rw [List.foldl_cons, List.foldl_cons, of_mem (hl x (List.mem_cons_self ..)), ih _ fun k hk => hl k (List.mem_cons_of_mem _ hk)]
    exact g _ _ fun s hs => enough_lt hs
  show (enough n m).foldl (fun a s => min a (of_ (bits n m) s).length) n = _
  rw [e]
  refine foldl_min_eq _ _ _ _ (mem_len (enough_lt hs)) (fun x hx => ?_) (.inr ⟨s, hs, rfl⟩)
  obtain ⟨j, hj⟩ := List.getElem?_of_mem hx
  exact hb j x hj
theorem first_is {n m i s : Nat} (h : n ≤ 7) (hi : (enough n m)[i]? = some s) (hb : ∀ (j t : Nat), (enough n m)[j]? = some t → (mem s).length ≤ (mem t).length ∧ (j < i → (mem s).length < (mem t).length)) : first (bits n m) = s := by
  have ef := fewest_is h hi fun j t ht => (hb j t ht).1
  unfold first
  have e : ((sets (bits n m)).find? fun s => (of_ (bits n m) s).length == fewest (bits n m) && covers (bits n m) s) = some s := by
    have e1 : ((sets (bits n m)).find? fun s => (of_ (bits n m) s).length == fewest (bits n m) && covers (bits n m) s) = (enough n m).find? fun t => (of_ (bits n m) t).length == fewest (bits n m) := by
      rw [← enough_covers h, List.find?_filter]
      congr 1
      funext t
      rw [Bool.eq_iff_iff]
      simp [Bool.and_eq_true, and_comm]
    rw [e1, ef]
    have hs := enough_lt (List.mem_of_getElem? hi)
    refine find_first hi (by rw [of_mem hs]; exact beq_self_eq_true _) fun j t hj ht => ?_
    have ht2 := enough_lt (List.mem_of_getElem? ht)
    rw [of_mem ht2]
    have := (hb j t ht).2 hj
    exact beq_eq_false_iff_ne.mpr (by omega)
  show (Option.getD _ 0) = s
  rw [e]
  rfl
end Be
end

section
/-! The flat list of calls: what the specification reads, call by call. -/
namespace Be
open Kqm5 PyKqm5

def takes : List Nat := [1, 1, 2, 2, 1, 1, 1, 0, 0, 0, 0, 1, 1, 0, 1, 1, 0, 0]
theorem shape_inv {p : Int} {k r : Nat} (h : shape p = some (k, r)) : ∃ c : Nat, p = (c : Int) ∧ r = 0 ∧ takes[c]? = some k := by
  unfold shape at h
  by_cases h0 : 0 ≤ p ∧ p < 18
  · obtain ⟨c, rfl⟩ : ∃ c : Nat, p = (c : Int) := ⟨p.toNat, by omega⟩
    have hc : c < 18 := by omega
    refine ⟨c, rfl, ?_⟩
    have key : ∀ c : Nat, c < 18 → ∀ k r : Nat, shape (c : Int) = some (k, r) → r = 0 ∧ takes[c]? = some k := by
      intro c hc k r h
      have e : ∀ c : Nat, c < 18 → shape (c : Int) = (takes[c]?).map fun k => (k, 0) := by decide
      rw [e c hc] at h
      cases ht : takes[c]? with
      | none =>
        rw [ht] at h
        cases h
      | some k' =>
        rw [ht] at h
        have h' : (k', 0) = (k, r) := Option.some.inj h
        injection h' with h1 h2
        exact ⟨h2.symm, by rw [h1]⟩
    exact key c hc k r h
  · exfalso
    have ne : ∀ z : Int, 0 ≤ z → z < 18 → p ≠ z := fun z h1 h2 e => h0 (by omega)
    have : shape p = none := by
      unfold shape
      simp only [ne 0 (by omega) (by omega), ne 1 (by omega) (by omega), ne 2 (by omega) (by omega), ne 3 (by omega) (by omega), ne 4 (by omega) (by omega), ne 5 (by omega) (by omega), ne 6 (by omega) (by omega), ne 7 (by omega) (by omega), ne 8 (by omega) (by omega), ne 9 (by omega) (by omega), ne 10 (by omega) (by omega), ne 11 (by omega) (by omega), ne 12 (by omega) (by omega), ne 13 (by omega) (by omega), ne 14 (by omega) (by omega), ne 15 (by omega) (by omega), ne 16 (by omega) (by omega), ne 17 (by omega) (by omega), if_false]
    have h2 : shape p = some (k, r) := h
    rw [this] at h2
    cases h2
theorem whole_eq (c : List (List Int)) : whole c = c := by
  unfold whole
  split <;> rfl
theorem whole_map (cs : List (List (List Int))) : cs.map whole = cs := by
  have : whole = id := funext whole_eq
  rw [this]
  simp
/-- one call is read off -/
theorem calls_cons {f : Nat} {p : Int} {r : List Int} {cs : List (List (List Int))} (h : PyFlat.calls shape f (p :: r) = some cs) :
    ∃ (c k f' : Nat) (cs' : List (List (List Int))), p = (c : Int) ∧ takes[c]? = some k ∧ k ≤ r.length ∧ cs = [p :: r.take k] :: cs' ∧ PyFlat.calls shape f' (r.drop k) = some cs' := by
  cases f with
  | zero => cases h
  | succ f =>
    have h1 : (match PyFlat.call shape (p :: r) with
      | none => none
      | some (c, t) => match PyFlat.calls shape f t with
        | none => none
        | some cs => some (c :: cs)) = some cs := h
    cases e : PyFlat.call shape (p :: r) with
    | none =>
      rw [e] at h1
      cases h1
    | some q =>
      obtain ⟨c, t⟩ := q
      rw [e] at h1
      have h2 : (match PyFlat.calls shape f t with
        | none => none
        | some cs => some (c :: cs)) = some cs := h1
      have e1 : (match shape p with
        | none => none
        | some (n, k) => if r.length < n then none else match PyFlat.rows k (r.drop n) with
          | none => none
          | some (xs, t) => some ((p :: r.take n) :: xs, t)) = some (c, t) := e
      cases es : shape p with
      | none =>
        rw [es] at e1
        cases e1
      | some q2 =>
        obtain ⟨n, k⟩ := q2
        obtain ⟨cN, rfl, rfl, ht⟩ := shape_inv es
        rw [es] at e1
        have e2 : (if r.length < n then none else some ([(cN : Int) :: r.take n], r.drop n)) = some (c, t) := e1
        by_cases hl : r.length < n
        · rw [if_pos hl] at e2
          cases e2
        · rw [if_neg hl] at e2
          obtain ⟨e3, e4⟩ := Prod.mk.inj (Option.some.inj e2)
          subst e3 e4
          cases ec : PyFlat.calls shape f (r.drop n) with
          | none =>
            rw [ec] at h2
            cases h2
          | some cs' =>
            rw [ec] at h2
            exact ⟨cN, n, f, cs', rfl, ht, by omega, (Option.some.inj h2).symm, ec⟩
theorem calls_nil {f : Nat} {cs : List (List (List Int))} (h : PyFlat.calls shape f [] = some cs) : cs = [] := by
  cases f <;> exact (Option.some.inj h).symm
/-- what is still to be told from a state -/
def due (st : Option League) (cs : List (List (List Int))) : List Int := PyFlat.told (PyFlat.played Kqm5Neutral.step st cs)
theorem due_nil (st : Option League) : due st [] = [] := rfl
theorem due_cons (st : Option League) (c : List (List Int)) (cs : List (List (List Int))) : due st (c :: cs) = ((Kqm5Neutral.step st c).2.length : Int) :: (Kqm5Neutral.step st c).2 ++ due (Kqm5Neutral.step st c).1 cs := by
  unfold due PyFlat.told
  rw [PyFlat.played, List.flatMap_cons]
theorem answers_due {l : List Int} {cs : List (List (List Int))} (h : PyFlat.calls shape l.length l = some cs) : PyKqm5.answers l = due none cs := by
  unfold PyKqm5.answers PyKqm5.calls
  rw [h]
  show PyFlat.told (PyFlat.played Kqm5Neutral.step Kqm5Neutral.start (cs.map whole)) = _
  rw [whole_map]
  rfl
/-- the state by players and number -/
def Rep (st : Option League) (n m : Nat) : Prop := (n = 0 ∧ m = 0 ∧ st = none) ∨ (1 ≤ n ∧ n ≤ 7 ∧ m < 2 ^ gms n ∧ st = some (bits n m))
end Be
end

section
/-! What each call does, by players and number, against the specification's step. No program here. -/
namespace Be
open Kqm5
abbrev AnsF := Nat → Nat → List Nat → (Nat × Nat) × List Int
/-- a call on a league does as the specification says -/
def Did (c : Int) (as : List Nat) (n m : Nat) (r : (Nat × Nat) × List Int) : Prop :=
  Rep (Kqm5Neutral.step (some (bits n m)) [c :: as.map fun (x : Nat) => (x : Int)]).1 r.1.1 r.1.2 ∧ (Kqm5Neutral.step (some (bits n m)) [c :: as.map fun (x : Nat) => (x : Int)]).2 = r.2
theorem did_of {c : Int} {as : List Nat} {n m n' m' : Nat} {x : Call} {st' : Option League} {an : Kqm5.Ans} {out : List Int} (hc : Kqm5Neutral.callOf [c :: as.map fun (x : Nat) => (x : Int)] = some x) (hs : Kqm5.step (some (bits n m)) x = (st', an)) (hr : Rep st' n' m') (ht : Kqm5Neutral.tell an = out) : Did c as n m ((n', m'), out) := by
  have e : Kqm5Neutral.step (some (bits n m)) [c :: as.map fun (x : Nat) => (x : Int)] = (st', Kqm5Neutral.tell an) := by
    unfold Kqm5Neutral.step
    rw [hc]
    show ((Kqm5.step (some (bits n m)) x).1, Kqm5Neutral.tell (Kqm5.step (some (bits n m)) x).2) = _
    rw [hs]
  unfold Did
  rw [e]
  exact ⟨hr, ht⟩
section
variable {n m : Nat} (h1 : 1 ≤ n) (h7 : n ≤ 7) (hm : m < 2 ^ gms n)
theorem rep_bits {m : Nat} (h1 : 1 ≤ n) (h7 : n ≤ 7) (hm : m < 2 ^ gms n) : Rep (some (bits n m)) n m := .inr ⟨h1, h7, hm, rfl⟩
include h1 h7 hm
theorem didStart (x : Nat) : Did 0 [x] n m (if x < 1 ∨ 7 < x then ((n, m), [-22]) else ((x, 0), [0])) := by
  by_cases q : x < 1 ∨ 7 < x
  · rw [if_pos q]
    refine did_of (x := .start x) (st' := some (bits n m)) (an := .num (-22)) rfl ?_ (rep_bits h1 h7 hm) rfl
    show (if x = 0 ∨ MOST < x then _ else _) = _
    rw [if_pos (by unfold MOST; omega)]
  · rw [if_neg q]
    refine did_of (x := .start x) (st' := some (fresh x)) (an := .num 0) rfl ?_ (by rw [fresh_bits]; exact rep_bits (by omega) (by omega) (Nat.two_pow_pos _)) rfl
    show (if x = 0 ∨ MOST < x then _ else _) = _
    rw [if_neg (by unfold MOST; omega)]
theorem didGames (x : Nat) : Did 1 [x] n m (if 2 ^ gms n ≤ x then ((n, m), [-22]) else ((n, x), [((gms n : Nat) : Int)])) := by
  have e : Kqm5.step (some (bits n m)) (.games x) = if 2 ^ gms n ≤ x then (some (bits n m), .num (-22)) else (some (bits n x), .num ((gms n : Nat) : Int)) := by
    show (if 2 ^ (bits n m).games.length ≤ x then _ else _) = _
    rw [bits_games n m h7]
    rfl
  by_cases q : 2 ^ gms n ≤ x
  · rw [if_pos q] at e ⊢
    exact did_of (x := .games x) rfl e (rep_bits h1 h7 hm) rfl
  · rw [if_neg q] at e ⊢
    exact did_of (x := .games x) rfl e (rep_bits h1 h7 (by omega)) rfl
theorem didTurn (i j : Nat) : Did 2 [i, j] n m (if n ≤ i ∨ n ≤ j then ((n, m), [-2]) else if i = j then ((n, m), [-22]) else ((n, m ^^^ 2 ^ place n i j), [if bt n m i j then (j : Int) else (i : Int)])) := by
  have e : Kqm5.step (some (bits n m)) (.turn i j) = if n ≤ i ∨ n ≤ j then (some (bits n m), .num (-2)) else if i = j then (some (bits n m), .num (-22)) else (some (turned (bits n m) i j), .num (if beats (bits n m) i j then j else i)) := rfl
  by_cases q : n ≤ i ∨ n ≤ j
  · rw [if_pos q] at e ⊢
    exact did_of (x := .turn i j) rfl e (rep_bits h1 h7 hm) rfl
  · rw [if_neg q] at e ⊢
    by_cases q2 : i = j
    · rw [if_pos q2] at e ⊢
      exact did_of (x := .turn i j) rfl e (rep_bits h1 h7 hm) rfl
    · rw [if_neg q2] at e ⊢
      rw [turned_bits h7 (by omega) (by omega) q2, beats_bits h7 (by omega) (by omega)] at e
      exact did_of (x := .turn i j) rfl e (rep_bits h1 h7 (xor_lt hm (place_lt h7 (by omega) (by omega) q2))) rfl
theorem didBeats (i j : Nat) : Did 3 [i, j] n m ((n, m), if n ≤ i ∨ n ≤ j then [-2] else [if bt n m i j then 1 else 0]) := by
  have e : Kqm5.step (some (bits n m)) (.beats i j) = (some (bits n m), if n ≤ i ∨ n ≤ j then .num (-2) else .num (if beats (bits n m) i j then 1 else 0)) := rfl
  refine did_of (x := .beats i j) rfl e (rep_bits h1 h7 hm) ?_
  by_cases q : n ≤ i ∨ n ≤ j
  · rw [if_pos q, if_pos q]
    rfl
  · rw [if_neg q, if_neg q, beats_bits h7 (by omega) (by omega)]
    rfl
theorem didWins (i : Nat) : Did 4 [i] n m ((n, m), if n ≤ i then [-2] else [((beaten n m i).length : Int)]) := by
  have e : Kqm5.step (some (bits n m)) (.wins i) = (some (bits n m), if n ≤ i then .num (-2) else .num (wins (bits n m) i)) := rfl
  refine did_of (x := .wins i) rfl e (rep_bits h1 h7 hm) ?_
  by_cases q : n ≤ i
  · rw [if_pos q, if_pos q]
    rfl
  · rw [if_neg q, if_neg q, wins_bits h7 (by omega)]
    rfl
theorem didCovers (s : Nat) : Did 5 [s] n m ((n, m), if 2 ^ n ≤ s then [-22] else [if leftN n m s = 0 then 1 else 0]) := by
  have e : Kqm5.step (some (bits n m)) (.covers s) = (some (bits n m), if 2 ^ n ≤ s then .num (-22) else .num (if covers (bits n m) s then 1 else 0)) := rfl
  refine did_of (x := .covers s) rfl e (rep_bits h1 h7 hm) ?_
  by_cases q : 2 ^ n ≤ s
  · rw [if_pos q, if_pos q]
    rfl
  · rw [if_neg q, if_neg q, covers_bits h7 (by omega)]
    by_cases z : leftN n m s = 0
    · rw [decide_eq_true z, if_pos z]
      rfl
    · rw [decide_eq_false z, if_neg z]
      rfl
/-- how many, then they -/
def tellsN (l : List Nat) : List Int := (l.length : Int) :: l.map fun (x : Nat) => (x : Int)
omit h1 h7 hm in
theorem tell_told (l : List Nat) : Kqm5Neutral.tell (told l) = tellsN l := rfl
theorem didLeft (s : Nat) : Did 6 [s] n m ((n, m), if 2 ^ n ≤ s then [-22] else tellsN (mem (leftN n m s))) := by
  have e : Kqm5.step (some (bits n m)) (.left s) = (some (bits n m), if 2 ^ n ≤ s then .num (-22) else told (left (bits n m) s)) := rfl
  refine did_of (x := .left s) rfl e (rep_bits h1 h7 hm) ?_
  by_cases q : 2 ^ n ≤ s
  · rw [if_pos q, if_pos q]
    rfl
  · rw [if_neg q, if_neg q, left_bits h7 (by omega), tell_told]
theorem didFewest : Did 7 [] n m ((n, m), [(fewest (bits n m) : Int)]) := did_of (x := .fewest) rfl rfl (rep_bits h1 h7 hm) rfl
theorem didFirst (hs : first (bits n m) < 2 ^ n) : Did 8 [] n m ((n, m), (first (bits n m) : Int) :: (mem (first (bits n m))).map fun (x : Nat) => (x : Int)) := by
  refine did_of (x := .first) rfl rfl (rep_bits h1 h7 hm) ?_
  show _ :: (of_ (bits n m) (first (bits n m))).map _ = _
  rw [of_mem hs]
theorem didMany : Did 9 [] n m ((n, m), [((((sets (bits n m)).filter fun t => (of_ (bits n m) t).length == fewest (bits n m) && covers (bits n m) t).length : Nat) : Int)]) := did_of (x := .many) rfl rfl (rep_bits h1 h7 hm) rfl
theorem didGreedy : Did 10 [] n m ((n, m), tellsN (greedy (bits n m) n (List.range n))) := did_of (x := .greedy) rfl rfl (rep_bits h1 h7 hm) rfl
theorem didOver (s : Nat) : Did 11 [s] n m ((n, m), if 2 ^ n ≤ s then [-22] else tellsN (over (bits n m) s)) := by
  have e : Kqm5.step (some (bits n m)) (.over s) = (some (bits n m), if 2 ^ n ≤ s then .num (-22) else told (over (bits n m) s)) := rfl
  refine did_of (x := .over s) rfl e (rep_bits h1 h7 hm) ?_
  by_cases q : 2 ^ n ≤ s
  · rw [if_pos q, if_pos q]
    rfl
  · rw [if_neg q, if_neg q, tell_told]
theorem didAny (k : Nat) : Did 12 [k] n m ((n, m), [if anyBeaten (bits n m) k then 1 else 0]) := did_of (x := .any k) rfl rfl (rep_bits h1 h7 hm) rfl
theorem didDeep : Did 13 [] n m ((n, m), [(deep (bits n m) : Int)]) := did_of (x := .deep) rfl rfl (rep_bits h1 h7 hm) rfl
theorem didSquares (x : Nat) : Did 14 [x] n m (if x ≠ 3 ∧ x ≠ 7 then ((n, m), [-22]) else ((x, number (bySquares x)), [(number (bySquares x) : Int)])) := by
  have e : Kqm5.step (some (bits n m)) (.squares x) = if x ≠ 3 ∧ x ≠ 7 then (some (bits n m), .num (-22)) else (some (bySquares x), .num (number (bySquares x))) := rfl
  by_cases q : x ≠ 3 ∧ x ≠ 7
  · rw [if_pos q] at e ⊢
    exact did_of (x := .squares x) rfl e (rep_bits h1 h7 hm) rfl
  · rw [if_neg q] at e ⊢
    refine did_of (x := .squares x) rfl e ?_ rfl
    have hx : x = 3 ∨ x = 7 := by omega
    rcases hx with rfl | rfl
    · exact .inr ⟨by decide, by decide, by decide +kernel, congrArg some (by
        have e : (bySquares 3).games = (bits 3 (number (bySquares 3))).games := by decide +kernel
        exact congrArg (League.mk 3) e)⟩
    · exact .inr ⟨by decide, by decide, by decide +kernel, congrArg some squares7⟩
theorem didNeeds (k : Nat) : Did 15 [k] n m ((n, m), if 20 < k then [-22] else [((2 ^ (k + 1) - 1 : Nat) : Int)]) := by
  have e : Kqm5.step (some (bits n m)) (.needs k) = (some (bits n m), if 20 < k then .num (-22) else .num ((2 ^ (k + 1) - 1 : Nat) : Int)) := rfl
  refine did_of (x := .needs k) rfl e (rep_bits h1 h7 hm) ?_
  by_cases q : 20 < k
  · rw [if_pos q, if_pos q]
    rfl
  · rw [if_neg q, if_neg q]
    rfl
theorem didBare : Did 16 [] n m ((n, m), tellsN ((List.range n).filter fun i => ((beaten n m i).length == 0))) := by
  have e : Kqm5.step (some (bits n m)) .bare = (some (bits n m), told ((all (bits n m)).filter fun i => wins (bits n m) i == 0)) := rfl
  refine did_of (x := .bare) rfl e (rep_bits h1 h7 hm) ?_
  rw [tell_told, all_bits]
  congr 1
  apply List.filter_congr
  intro i hi
  rw [wins_bits h7 (List.mem_range.mp hi)]
  rfl
theorem didState : Did 17 [] n m ((n, m), [(n : Int), (m : Int)]) := by
  refine did_of (x := .state) rfl rfl (rep_bits h1 h7 hm) ?_
  show [((bits n m).players : Int), (number (bits n m) : Int)] = _
  rw [number_bits h7 hm]
  rfl
end
/-! ### before a start -/
theorem none_start (x : Nat) : Rep (Kqm5Neutral.step none [[0, (x : Int)]]).1 (if x < 1 ∨ 7 < x then 0 else x) 0 ∧ (Kqm5Neutral.step none [[0, (x : Int)]]).2 = if x < 1 ∨ 7 < x then [-22] else [0] := by
  have e : Kqm5Neutral.step none [[0, (x : Int)]] = ((Kqm5.step none (.start x)).1, Kqm5Neutral.tell (Kqm5.step none (.start x)).2) := rfl
  have e2 : Kqm5.step none (.start x) = if x = 0 ∨ MOST < x then (none, .num (-22)) else (some (fresh x), .num 0) := rfl
  rw [e]
  by_cases q : x < 1 ∨ 7 < x
  · rw [if_pos (show x = 0 ∨ MOST < x by unfold MOST; omega)] at e2
    rw [e2, if_pos q, if_pos q]
    exact ⟨.inl ⟨rfl, rfl, rfl⟩, rfl⟩
  · rw [if_neg (show ¬ (x = 0 ∨ MOST < x) by unfold MOST; omega)] at e2
    rw [e2, if_neg q, if_neg q]
    exact ⟨.inr ⟨by omega, by omega, Nat.two_pow_pos _, congrArg some (fresh_bits x)⟩, rfl⟩
theorem len0 {as : List Nat} (h : as.length = 0) : as = [] := List.length_eq_zero_iff.mp h
theorem len1 {as : List Nat} (h : as.length = 1) : ∃ x, as = [x] := List.length_eq_one_iff.mp h
theorem len2 {as : List Nat} (h : as.length = 2) : ∃ x y, as = [x, y] := by
  match as, h with
  | [x, y], _ => exact ⟨x, y, rfl⟩
theorem none_other {c : Nat} {as : List Nat} (h : takes[c]? = some as.length) (h0 : c ≠ 0) : Kqm5Neutral.step none [(c : Int) :: as.map fun (x : Nat) => (x : Int)] = (none, [-11]) := by
  have hc : c < 18 := (List.getElem?_eq_some_iff.mp h).1
  match c, hc, h, h0 with
  | 0, _, _, h0 => exact absurd rfl h0
  | 1, _, h, _ => obtain ⟨x, rfl⟩ := len1 (Option.some.inj h).symm; rfl
  | 2, _, h, _ => obtain ⟨x, y, rfl⟩ := len2 (Option.some.inj h).symm; rfl
  | 3, _, h, _ => obtain ⟨x, y, rfl⟩ := len2 (Option.some.inj h).symm; rfl
  | 4, _, h, _ => obtain ⟨x, rfl⟩ := len1 (Option.some.inj h).symm; rfl
  | 5, _, h, _ => obtain ⟨x, rfl⟩ := len1 (Option.some.inj h).symm; rfl
  | 6, _, h, _ => obtain ⟨x, rfl⟩ := len1 (Option.some.inj h).symm; rfl
  | 7, _, h, _ => obtain rfl := len0 (Option.some.inj h).symm; rfl
  | 8, _, h, _ => obtain rfl := len0 (Option.some.inj h).symm; rfl
  | 9, _, h, _ => obtain rfl := len0 (Option.some.inj h).symm; rfl
  | 10, _, h, _ => obtain rfl := len0 (Option.some.inj h).symm; rfl
  | 11, _, h, _ => obtain ⟨x, rfl⟩ := len1 (Option.some.inj h).symm; rfl
  | 12, _, h, _ => obtain ⟨x, rfl⟩ := len1 (Option.some.inj h).symm; rfl
  | 13, _, h, _ => obtain rfl := len0 (Option.some.inj h).symm; rfl
  | 14, _, h, _ => obtain ⟨x, rfl⟩ := len1 (Option.some.inj h).symm; rfl
  | 15, _, h, _ => obtain ⟨x, rfl⟩ := len1 (Option.some.inj h).symm; rfl
  | 16, _, h, _ => obtain rfl := len0 (Option.some.inj h).symm; rfl
  | 17, _, h, _ => obtain rfl := len0 (Option.some.inj h).symm; rfl
  | c + 18, hc, _, _ => omega
end Be
end

section
/-! Over a set, any so many, deep, one by one: by players and number. -/
namespace Be
open Kqm5
/-- over a set are just those that are left by it -/
theorem over_left {n m s : Nat} (h : n ≤ 7) (hs : s < 2 ^ n) : over (bits n m) s = left (bits n m) s := by
  unfold over left
  rw [all_bits]
  apply List.filter_congr
  intro i hi
  have hi := List.mem_range.mp hi
  cases e : s.testBit i with
  | true => rfl
  | false =>
    congr 1
    rw [Bool.eq_iff_iff, List.all_eq_true, List.all_eq_true]
    have key : ∀ j ∈ of_ (bits n m) s, beats (bits n m) i j = !beats (bits n m) j i := fun j hj => by
      rw [of_mem hs] at hj
      have hjn := mem_lt hs hj
      have ne : j ≠ i := fun q => by
        rw [← q, mem_tb hj] at e
        cases e
      rw [beats_bits h hi hjn, beats_bits h hjn hi, bt_swap ne]
    constructor
    · intro a j hj
      rw [← key j hj]
      exact a j hj
    · intro a j hj
      rw [key j hj]
      exact a j hj
theorem over_bits {n m s : Nat} (h : n ≤ 7) (hs : s < 2 ^ n) : over (bits n m) s = mem (leftN n m s) := by
  rw [over_left h hs, left_bits h hs]
theorem over_nil {n m s : Nat} (h : n ≤ 7) (hs : s < 2 ^ n) : (over (bits n m) s != []) = decide (¬ leftN n m s = 0) := by
  rw [over_bits h hs]
  by_cases e : leftN n m s = 0
  · rw [e]
    rfl
  · rw [decide_eq_true e]
    exact bne_iff_ne.mpr fun q => e (mem_nil.mp q)
/-- any k players: no set of k that is enough -/
theorem any_bits {n m k : Nat} (h : n ≤ 7) : anyBeaten (bits n m) k = (List.range (2 ^ n)).all fun s => (mem s).length != k || decide (¬ leftN n m s = 0) := by
  unfold anyBeaten sets
  show (List.range (2 ^ n)).all _ = _
  rw [Bool.eq_iff_iff, List.all_eq_true, List.all_eq_true]
  constructor
  · intro a s hs
    have := a s hs
    have hs := List.mem_range.mp hs
    rw [of_mem hs, over_nil h hs] at this
    exact this
  · intro a s hs
    have := a s hs
    have hs := List.mem_range.mp hs
    rw [of_mem hs, over_nil h hs]
    exact this
theorem any_iff {n m k : Nat} (h : n ≤ 7) : anyBeaten (bits n m) k = true ↔ ∀ s ∈ enough n m, (mem s).length ≠ k := by
  rw [any_bits h, List.all_eq_true]
  constructor
  · intro a s hs
    obtain ⟨h1, h2⟩ := List.mem_filter.mp hs
    have := a s h1
    have h2 := of_decide_eq_true h2
    simp [h2] at this
    exact this
  · intro a s hs
    by_cases e : leftN n m s = 0
    · have := a s (List.mem_filter.mpr ⟨hs, decide_eq_true e⟩)
      simp [this]
    · simp [e]
theorem any_big {n m k : Nat} (h : n ≤ 7) (hk : n < k) : anyBeaten (bits n m) k = true := (any_iff h).mpr fun s hs => by
  have := mem_len (enough_lt hs)
  omega
theorem any_zero {n m : Nat} (h : n ≤ 7) (h1 : 1 ≤ n) : anyBeaten (bits n m) 0 = true := (any_iff h).mpr fun s hs q => by
  have e : mem s = [] := List.length_eq_zero_iff.mp q
  have e0 := mem_nil.mp e
  subst e0
  have z := of_decide_eq_true (List.mem_filter.mp hs).2
  have : (leftN n m 0).testBit 0 = true := by
    rw [leftN_tb h (Nat.two_pow_pos n), of_bits]
    have : 0 < n := h1
    simp [this]
  rw [z] at this
  simp at this
theorem any_all {n m : Nat} (h : n ≤ 7) : anyBeaten (bits n m) n = false := by
  cases e : anyBeaten (bits n m) n with
  | false => rfl
  | true =>
    have := (any_iff h).mp e _ (enough_all (m := m) h)
    refine absurd ?_ this
    have hp : 0 < 2 ^ n := Nat.two_pow_pos n
    rw [mem_eq (show 2 ^ n - 1 < 2 ^ n by omega)]
    have : (List.range n).filter (fun i => (2 ^ n - 1).testBit i) = List.range n := List.filter_eq_self.mpr fun i hi => by
      rw [full_tb]
      exact decide_eq_true (List.mem_range.mp hi)
    rw [this, List.length_range]
/-- the greatest k up to which it's so -/
theorem deep_is {n m d : Nat} (hd : d ≤ n) (ha : ∀ j, j ≤ d → anyBeaten (bits n m) j = true) (hb : d = n ∨ anyBeaten (bits n m) (d + 1) = false) : deep (bits n m) = d := by
  unfold deep
  show ((List.range (n + 1)).filter fun k => (List.range (k + 1)).all (anyBeaten (bits n m))).length - 1 = d
  have p : ∀ k, k ≤ n → ((List.range (k + 1)).all (anyBeaten (bits n m))) = decide (k ≤ d) := fun k hk => by
    rw [Bool.eq_iff_iff, List.all_eq_true, decide_eq_true_eq]
    constructor
    · intro a
      refine Nat.le_of_not_lt fun q => ?_
      rcases hb with hb | hb
      · omega
      · have := a (d + 1) (List.mem_range.mpr (by omega))
        rw [hb] at this
        cases this
    · intro q j hj
      exact ha j (by have := List.mem_range.mp hj; omega)
  have e : (List.range (n + 1)).filter (fun k => (List.range (k + 1)).all (anyBeaten (bits n m))) = (List.range (n + 1)).filter fun k => decide (k ≤ d) := by
    apply List.filter_congr
    intro k hk
    exact p k (by have := List.mem_range.mp hk; omega)
  have g : ∀ N, d < N → ((List.range N).filter fun k => decide (k ≤ d)).length = d + 1 := by
    intro N hN
    induction N with
    | zero => omega
    | succ N ih =>
      rw [List.range_succ, List.filter_append, List.length_append]
      by_cases q : d < N
      · rw [ih q]
        simp [show ¬ N ≤ d by omega]
      · have : N = d := by omega
        subst this
        have e1 : (List.range N).filter (fun k => decide (k ≤ N)) = List.range N := List.filter_eq_self.mpr fun k hk => decide_eq_true (by have := List.mem_range.mp hk; omega)
        rw [e1]
        simp
  rw [e, g (n + 1) (by omega)]
  omega

/-! ### one by one -/
theorem takes_reach {n m i j : Nat} (h : n ≤ 7) (hi : i < n) (hj : j < n) : (i == j || beats (bits n m) i j) = (reach n m i).testBit j := by
  rw [reach_tb, beats_bits h hi hj]
  have e : (i == j) = decide (j = i) := by
    by_cases q : i = j
    · subst q
      simp
    · have q2 : ¬ j = i := fun z => q z.symm
      simp [q, q2]
  rw [e]
  simp [hj]
theorem takes_bits {n m i r : Nat} (h : n ≤ 7) (hi : i < n) (hr : r < 2 ^ n) : Kqm5.takes (bits n m) (mem r) i = (mem (r &&& reach n m i)).length := by
  have hl : r &&& reach n m i < 2 ^ n := Nat.lt_of_le_of_lt Nat.and_le_left hr
  unfold Kqm5.takes
  rw [mem_eq hl, mem_eq hr, List.filter_filter]
  congr 1
  apply List.filter_congr
  intro j hj
  rw [Nat.testBit_and, takes_reach h hi (List.mem_range.mp hj), Bool.and_comm]
theorem rest_bits {n m i r : Nat} (h : n ≤ 7) (hi : i < n) (hr : r < 2 ^ n) : ((mem r).filter fun j => !(i == j || beats (bits n m) i j)) = mem (minus r (reach n m i)) := by
  have hl : minus r (reach n m i) < 2 ^ n := Nat.lt_of_le_of_lt (minus_le _ _) hr
  rw [mem_eq hl, mem_eq hr, List.filter_filter]
  apply List.filter_congr
  intro j hj
  rw [minus_tb, takes_reach h hi (List.mem_range.mp hj), Bool.and_comm]
theorem greedy_nil (n m f : Nat) : greedy (bits n m) f (mem 0) = [] := by
  cases f with
  | zero => rfl
  | succ f =>
    show (if mem 0 = [] then [] else _) = []
    rw [if_pos (mem_nil.mpr rfl)]
/-- one is taken: the first of those who take most -/
theorem greedy_cons {n m f r i : Nat} (h : n ≤ 7) (hr : r < 2 ^ n) (h0 : r ≠ 0) (hi : i < n)
    (hb : ∀ j, j < n → (mem (r &&& reach n m j)).length ≤ (mem (r &&& reach n m i)).length ∧ (j < i → (mem (r &&& reach n m j)).length < (mem (r &&& reach n m i)).length)) :
    greedy (bits n m) (f + 1) (mem r) = i :: greedy (bits n m) f (mem (minus r (reach n m i))) := by
  have hne : ¬ mem r = [] := fun q => h0 (mem_nil.mp q)
  have hf : ((all (bits n m)).find? fun i => (all (bits n m)).all fun j => decide (Kqm5.takes (bits n m) (mem r) j ≤ Kqm5.takes (bits n m) (mem r) i)) = some i := by
    rw [all_bits]
    refine find_first (i := i) (by simp [hi]) ?_ fun j y hj hy => ?_
    · rw [List.all_eq_true]
      intro j hj
      have hj := List.mem_range.mp hj
      rw [takes_bits h hj hr, takes_bits h hi hr]
      exact decide_eq_true (hb j hj).1
    · have hjn : j < n := by omega
      have e : y = j := by
        rw [List.getElem?_range hjn] at hy
        exact (Option.some.inj hy).symm
      subst e
      rw [← Bool.not_eq_true, List.all_eq_true]
      intro a
      have := of_decide_eq_true (a i (List.mem_range.mpr hi))
      rw [takes_bits h hi hr, takes_bits h hjn hr] at this
      have := (hb y hjn).2 hj
      omega
  show (if mem r = [] then [] else match (all (bits n m)).find? fun i => (all (bits n m)).all fun j => decide (Kqm5.takes (bits n m) (mem r) j ≤ Kqm5.takes (bits n m) (mem r) i) with
    | none => []
    | some i => i :: greedy (bits n m) f ((mem r).filter fun j => !(i == j || beats (bits n m) i j))) = _
  rw [if_neg hne, hf]
  show i :: greedy (bits n m) f ((mem r).filter fun j => !(i == j || beats (bits n m) i j)) = _
  rw [rest_bits h hi hr]
theorem range_full (n : Nat) : List.range n = mem (2 ^ n - 1) := by
  have hp : 0 < 2 ^ n := Nat.two_pow_pos n
  rw [mem_eq (show 2 ^ n - 1 < 2 ^ n by omega)]
  exact (List.filter_eq_self.mpr fun i hi => by rw [full_tb]; exact decide_eq_true (List.mem_range.mp hi)).symm
/-- the sets of the fewest -/
theorem many_bits {n m : Nat} (h : n ≤ 7) : ((sets (bits n m)).filter fun t => (of_ (bits n m) t).length == fewest (bits n m) && covers (bits n m) t) = (enough n m).filter fun t => (mem t).length == fewest (bits n m) := by
  rw [← enough_covers h, List.filter_filter]
  apply List.filter_congr
  intro t ht
  have ht2 : t < 2 ^ n := List.mem_range.mp ht
  rw [of_mem (m := m) ht2]
end Be
end

section
/-! More rules: calls by a def's name in short, a call of a def held by a local, bit_length, comprehensions whose parts change nothing. -/
set_option Elab.async false
set_option linter.all false
set_option maxRecDepth 100000
namespace Be
open PySem PySem.Spec PyProof.Rows L2

/-- a def that may be called by its name, with its promise -/
def Cal (P : Program) (w : World) (K : PySem.W.Frag) (mg : Str → Option Value) (base : Heap) (k : Nat) (x : Str) (ps : List Str) (sp : Sp) : Prop :=
  ∃ (f : Addr) (fd : FuncData), mg x = some (.ref f) ∧ PySem.W.keepIn K (.ref f) = true ∧ Binds K fd ps [] ∧ FnOk P w K mg base CX0 k f fd ps sp
/-- a def of the text as it stands behind the top -/
def Df (K : PySem.W.Frag) (mg : Str → Option Value) (x : Str) (st : Stmt) (ps : List Str) : Prop :=
  ∃ (f : Addr) (fd : FuncData), mg x = some (.ref f) ∧ Fun K x x st f fd ∧ Binds K fd ps []
section
variable {P : Program} {w : World} {K : PySem.W.Frag} {mg : Str → Option Value} {base : Heap}
theorem Df.cal {x : Str} {st : Stmt} {N ps : List Str} {k : Nat} {sp : Sp} (F : Df K mg x st ps) (S : FnScope N ps (defScope st)) (len : ∀ vs H Q E, sp vs H Q E → vs.length = ps.length)
    (body : ∀ (f : Addr) (cdv : Value) (A : Around) (outer : List Env) (s : Shared) (H : Hp) (vs : List V) (Q : VK) (E : XK), Room k (A.deeper (envOfC x (defScope st) s.heap.objs.size f cdv)) → sp vs H Q E →
      ∃ t, PSs (cxOf CX0 P w K mg base N x (defScope st) f cdv A outer s H E).nox (defBody st) t ∧ t { nx := fun _ H' => Q .non H', rt := Q } (start N vs) H) : Cal P w K mg base (k + 1) x ps sp := by
  obtain ⟨f, fd, h1, h2, h3⟩ := F
  exact ⟨f, fd, h1, h2.kp, h3, h2.ok S len (body f)⟩
theorem Cal.mono {x : Str} {ps : List Str} {j k : Nat} {sp : Sp} (c : Cal P w K mg base j x ps sp) (h : j ≤ k) : Cal P w K mg base k x ps sp := by
  obtain ⟨f, fd, h1, h2, h3, h4⟩ := c
  exact ⟨f, fd, h1, h2, h3, h4.mono h⟩
end
section
variable {X : Cx} {k : Nat} {ps : List Str} {sp : Sp} {x : Str} {p pos : Pos} {e : Expr} {es : List Expr} {t : TA} {tf : TE}
theorem pe_cal (c : Cal X.prog X.w X.K X.mg X.base k x ps sp) (hr : Room k X.A) (ha : PA X (e :: es) t) (hg : Gl X x := by rfl) (hdb : (x == ("__debug__" : Str)) = false := by decide)
    (he : starEach (e :: es) X.env = (false, eval e X.env) :: starEach es X.env := by rfl) (hpl : (backTo pos (starEach es X.env)).any (·.1) = false := by rfl) : PE X (.Call (.Name x p) (e :: es) [] pos) (tCall sp [] E0 t) := by
  obtain ⟨f, fd, h1, h2, h3, h4⟩ := c
  exact pe_call h4 hr hg h1 h2 h3 .nil pass0 ha hdb he hpl
/-- g(e, ..) where the local g holds a def -/
def tCalV (X : Cx) (k : Nat) (tf : TE) (t : TA) : TE := fun σ H Q => tf σ H fun v H1 => ∃ (f : Addr) (fd : FuncData) (ps : List Str) (sp : Sp), v = .ref f ∧ PySem.W.keepIn X.K (.ref f) = true ∧ Binds X.K fd ps [] ∧
  FnOk X.prog X.w X.K X.mg X.base CX0 k f fd ps sp ∧ t σ H1 fun vs H2 => sp (vs ++ []) H2 Q E0
theorem pe_calV (hf : PE X (.Name x p) tf) (hr : Room k X.A) (ha : PA X (e :: es) t)
    (he : starEach (e :: es) X.env = (false, eval e X.env) :: starEach es X.env := by rfl) (hpl : (backTo pos (starEach es X.env)).any (·.1) = false := by rfl) : PE X (.Call (.Name x p) (e :: es) [] pos) (tCalV X k tf t) := by
  intro pins s σ H Q I h
  refine wpAny_Call_Name_kw (thn (hf pins s σ H _ I h) fun u s1 hu => ?_)
  obtain ⟨v, H1, I1, r1, f, fd, ps, sp, rfl, hk, hb, hF, q⟩ := hu
  obtain rfl : u = Value.ref f := r1
  refine PySem.W.callWith_K (h₀ := X.base) I1.ok.mod.kin hk (thn (ha pos pins s1 σ H1 _ I1 q) fun us s2 hus => ?_) he hpl
  obtain ⟨vs, H2, I2, r2, q2⟩ := hus
  exact ⟨I2.kIn, run_fn hF hr hb .nil pass0 I2 r2 q2⟩
/-- n.bit_length() -/
theorem mt_bitlen : MtR X "int.bit_length" (fun x xs H Q => ∃ i, x = .int i ∧ xs = [] ∧ Q (.int (Builtin.Int.intBits i : Nat)) H) := by
  intro pins s σ H x xs v us Q I rx rv h
  obtain ⟨i, rfl, rfl, q⟩ := h
  obtain ⟨t, rfl⟩ := rx
  cases rv
  exact call_int_bit_length ⟨.int _, H, I.tok _, ⟨_, rfl⟩, q⟩
end

/-- a whole number as a test -/
def tNum (ta : TE) : TT := fun σ H Q => ta σ H fun x H' => ∃ i, x = .int i ∧ Q (i != 0) H'
theorem pt_num {X : Cx} {a : Expr} {ta : TE} (ha : PE X a ta) (he : ∀ whole, isTrue a X.env whole = (do let v ← whole; standAt a.pos; holding [v] (truthy v)) := by intro _; rfl) : PT X a (tNum ta) := by
  intro pins s σ H Q I h
  refine isTrue_plain (thn (ha pins s σ H _ I h) fun v s1 hv => ?_) (he _)
  obtain ⟨x, H1, I1, r1, i, rfl, q⟩ := hv
  obtain ⟨t, rfl⟩ := r1
  exact PySem.P.truthy_int ⟨H1, I1, q⟩

/-! ### expressions and tests that change nothing that is tracked -/
def Ev (t : TE) (σ : L2.St) (H : Hp) (v : V) : Prop := ∀ Q : VK, (∀ H', Same H H' → Q v H') → t σ H Q
def Et (t : TT) (σ : L2.St) (H : Hp) (b : Bool) : Prop := ∀ Q : Bool → Hp → Prop, (∀ H', Same H H' → Q b H') → t σ H Q
theorem Et.yes {σ : L2.St} {H : Hp} : Et tYes σ H true := fun Q h => h H (Same.refl H)
theorem Same.upd {H H' : Hp} {D : Addr} {o : HO} (h : Same H H') (hD : H D = none) : Same H (upd H' D o) := fun b u e => by
  rw [upd_ne (ne_of_none e hD)]
  exact h b u e
theorem wipe1 {σ : L2.St} {i : Nat} {v : V} : wipe ((wipe σ [i]).set i (some v)) [i] = wipe σ [i] := by
  show ((σ.set i none).set i (some v)).set i none = σ.set i none
  rw [List.set_set, List.set_set]
theorem filter_snoc (p : Nat → Bool) (j : Nat) : (List.range (j + 1)).filter p = (List.range j).filter p ++ if p j = true then [j] else [] := by
  rw [List.range_succ, List.filter_append]
  cases h : p j <;> simp [h]
theorem filter_len (p : Nat → Bool) (j : Nat) : ((List.range j).filter p).length ≤ j := Nat.le_trans (List.length_filter_le _ _) (by simp)
/-- [e for x in range(n) if t] -/
theorem lc_pure {n i : Nat} {tt : TT} {te : TE} {σ : L2.St} {H1 : Hp} {D : Addr} {Qd : Hp → Prop} (p : Nat → Bool) (f : Nat → V) (hn : n < sizeLine) (hD : H1 D = none)
    (ht : ∀ j H, j < n → Same H1 H → Et tt ((wipe σ [i]).set i (some (.int (0 + j)))) H (p j))
    (he : ∀ j H, j < n → Same H1 H → p j = true → Ev te ((wipe σ [i]).set i (some (.int (0 + j)))) H (f j))
    (hd : ∀ H, Same H1 H → H D = some (.lst (((List.range n).filter p).map f)) → Qd H) :
    ∃ W : Nat → Nat → Hp → Prop, (∃ m, W 0 m (upd H1 D (.lst []))) ∧ ∀ k m H, W k m H →
      ((Itr 0 n).stop k H ∧ Qd H) ∨ ((Itr 0 n).go k H ∧ ∃ Nx : Hp → Prop, (∀ H', Nx H' → ∃ m', m' < m ∧ W (k + 1) m' H') ∧ ∀ x H', (Itr 0 n).yld k H x H' → gName i x (wipe σ [i]) H' fun σ2 H2 => wipe σ2 [i] = wipe σ [i] ∧ tt σ2 H2 fun b H3 =>
        if b = true then te σ2 H3 fun y H4 => ∃ acc, H4 D = some (.lst acc) ∧ acc.length < sizeLine ∧ Nx (upd H4 D (.lst (acc ++ [y]))) else Nx H3) := by
  refine lc_range (lo := 0) (n := n) (fun j H => Same H1 H ∧ H D = some (.lst (((List.range j).filter p).map f))) ⟨Same.upd (Same.refl H1) hD, upd_same⟩ ?_ fun H h => hd H h.1 h.2
  rintro j H hj ⟨hs, hl⟩
  refine ⟨wipe1, ht j H hj hs _ fun H3 s3 => ?_⟩
  have e := filter_snoc p j
  cases hp : p j with
  | false =>
    rw [hp, if_neg Bool.false_ne_true, List.append_nil] at e
    rw [if_neg Bool.false_ne_true, e]
    exact ⟨hs.trans s3, s3 _ _ hl⟩
  | true =>
    rw [hp, if_pos rfl] at e
    rw [if_pos rfl]
    refine he j H3 hj (hs.trans s3) hp _ fun H4 s4 => ⟨_, s4 _ _ (s3 _ _ hl), ?_, Same.upd ((hs.trans s3).trans s4) hD, ?_⟩
    · rw [List.length_map]
      exact Nat.lt_of_le_of_lt (filter_len p j) (Nat.lt_trans hj hn)
    · rw [upd_same, e, List.map_append]
      rfl
/-- [e for x in xs], xs a list -/
theorem lc_pureL {K : PySem.W.Frag} {a : Addr} {xs : List V} {i : Nat} {te : TE} {σ : L2.St} {H1 : Hp} {D : Addr} {Qd : Hp → Prop} (f : V → V) (hn : xs.length ≤ sizeLine) (hD : H1 D = none) (hx : SqL K H1 a xs)
    (he : ∀ x H, x ∈ xs → Same H1 H → Ev te ((wipe σ [i]).set i (some x)) H (f x))
    (hd : ∀ H, Same H1 H → H D = some (.lst (xs.map f)) → Qd H) :
    ∃ W : Nat → Nat → Hp → Prop, (∃ m, W 0 m (upd H1 D (.lst []))) ∧ ∀ k m H, W k m H →
      ((Itl K a).stop k H ∧ Qd H) ∨ ((Itl K a).go k H ∧ ∃ Nx : Hp → Prop, (∀ H', Nx H' → ∃ m', m' < m ∧ W (k + 1) m' H') ∧ ∀ x H', (Itl K a).yld k H x H' → gName i x (wipe σ [i]) H' fun σ2 H2 => wipe σ2 [i] = wipe σ [i] ∧ tYes σ2 H2 fun b H3 =>
        if b = true then te σ2 H3 fun y H4 => ∃ acc, H4 D = some (.lst acc) ∧ acc.length < sizeLine ∧ Nx (upd H4 D (.lst (acc ++ [y]))) else Nx H3) := by
  refine lc_list (K := K) (a := a) (xs := xs) (fun j H => Same H1 H ∧ H D = some (.lst ((xs.take j).map f))) ⟨Same.upd (Same.refl H1) hD, upd_same⟩ (fun j H _ h => h.1.seq hx) ?_ fun H h => hd H h.1 (by rw [h.2, List.take_length])
  rintro j x H hj ⟨hs, hl⟩
  have hlt : j < xs.length := (List.getElem?_eq_some_iff.mp hj).1
  have e : xs.take (j + 1) = xs.take j ++ [x] := by
    rw [List.take_add_one, hj]
    rfl
  refine ⟨wipe1, Et.yes _ fun H3 s3 => ?_⟩
  rw [if_pos rfl]
  have hs := hs.trans s3
  have hl := s3 _ _ hl
  refine he x H3 (List.mem_of_getElem? hj) hs _ fun H4 s4 => ⟨_, s4 _ _ hl, ?_, Same.upd (hs.trans s4) hD, ?_⟩
  · rw [List.length_map, List.length_take]
    omega
  · rw [upd_same, e, List.map_append]
    rfl
end Be
end

section
/-! Comprehensions over a list with a test, and over enumerate of a list; parts that change nothing. -/
set_option Elab.async false
set_option linter.all false
set_option maxRecDepth 100000
namespace Be
open PySem PySem.Spec PyProof.Rows L2
theorem take_filter {xs : List V} {j : Nat} {x : V} (p : V → Bool) (hj : xs[j]? = some x) : (xs.take (j + 1)).filter p = (xs.take j).filter p ++ if p x = true then [x] else [] := by
  have e : xs.take (j + 1) = xs.take j ++ [x] := by
    rw [List.take_add_one, hj]
    rfl
  rw [e, List.filter_append]
  cases h : p x <;> simp [h]
/-- [e for x in xs if t], xs a list -/
theorem lc_pureF {K : PySem.W.Frag} {a : Addr} {xs : List V} {i : Nat} {tt : TT} {te : TE} {σ : L2.St} {H1 : Hp} {D : Addr} {Qd : Hp → Prop} (p : V → Bool) (f : V → V) (hn : xs.length ≤ sizeLine) (hD : H1 D = none) (hx : SqL K H1 a xs)
    (ht : ∀ x H, x ∈ xs → Same H1 H → Et tt ((wipe σ [i]).set i (some x)) H (p x))
    (he : ∀ x H, x ∈ xs → Same H1 H → p x = true → Ev te ((wipe σ [i]).set i (some x)) H (f x))
    (hd : ∀ H, Same H1 H → H D = some (.lst ((xs.filter p).map f)) → Qd H) :
    ∃ W : Nat → Nat → Hp → Prop, (∃ m, W 0 m (upd H1 D (.lst []))) ∧ ∀ k m H, W k m H →
      ((Itl K a).stop k H ∧ Qd H) ∨ ((Itl K a).go k H ∧ ∃ Nx : Hp → Prop, (∀ H', Nx H' → ∃ m', m' < m ∧ W (k + 1) m' H') ∧ ∀ x H', (Itl K a).yld k H x H' → gName i x (wipe σ [i]) H' fun σ2 H2 => wipe σ2 [i] = wipe σ [i] ∧ tt σ2 H2 fun b H3 =>
        if b = true then te σ2 H3 fun y H4 => ∃ acc, H4 D = some (.lst acc) ∧ acc.length < sizeLine ∧ Nx (upd H4 D (.lst (acc ++ [y]))) else Nx H3) := by
  refine lc_list (K := K) (a := a) (xs := xs) (fun j H => Same H1 H ∧ H D = some (.lst (((xs.take j).filter p).map f))) ⟨Same.upd (Same.refl H1) hD, upd_same⟩ (fun j H _ h => h.1.seq hx) ?_ fun H h => hd H h.1 (by rw [h.2, List.take_length])
  rintro j x H hj ⟨hs, hl⟩
  have hlt : j < xs.length := (List.getElem?_eq_some_iff.mp hj).1
  have hm := List.mem_of_getElem? hj
  refine ⟨wipe1, ht x H hm hs _ fun H3 s3 => ?_⟩
  have e := take_filter p hj
  cases hp : p x with
  | false =>
    rw [hp, if_neg Bool.false_ne_true, List.append_nil] at e
    rw [if_neg Bool.false_ne_true, e]
    exact ⟨hs.trans s3, s3 _ _ hl⟩
  | true =>
    rw [hp, if_pos rfl] at e
    rw [if_pos rfl]
    refine he x H3 hm (hs.trans s3) hp _ fun H4 s4 => ⟨_, s4 _ _ (s3 _ _ hl), ?_, Same.upd ((hs.trans s3).trans s4) hD, ?_⟩
    · rw [List.length_map]
      have := List.length_filter_le p (xs.take j)
      rw [List.length_take] at this
      omega
    · rw [upd_same, e, List.map_append]
      rfl
theorem wipe2 {σ : L2.St} {i j : Nat} {v u : V} (ne : i ≠ j) : wipe (((wipe σ [i, j]).set i (some v)).set j (some u)) [i, j] = wipe σ [i, j] := by
  show (((((σ.set j none).set i none).set i (some v)).set j (some u)).set j none).set i none = (σ.set j none).set i none
  rw [List.set_set, List.set_set, List.set_comm _ _ ne, List.set_set]
  first | done | rw [List.set_set]
/-- [e for i, x in enumerate(xs) if t], xs a list -/
theorem lc_pureE {K : PySem.W.Frag} {a : Addr} {xs : List V} {i i2 n : Nat} {tt : TT} {te : TE} {σ : L2.St} {H1 : Hp} {D : Addr} {Qd : Hp → Prop} (ne : i ≠ i2) (v : Nat → V) (p : Nat → Bool) (f : Nat → V) (hn : n < sizeLine) (hD : H1 D = none) (hx : SqL K H1 a xs)
    (hl : xs.length = n) (hv : ∀ j, j < n → xs[j]? = some (v j))
    (ht : ∀ j H, j < n → Same H1 H → Et tt (((wipe σ [i, i2]).set i (some (.int (j : Nat)))).set i2 (some (v j))) H (p j))
    (he : ∀ j H, j < n → Same H1 H → p j = true → Ev te (((wipe σ [i, i2]).set i (some (.int (j : Nat)))).set i2 (some (v j))) H (f j))
    (hd : ∀ H, Same H1 H → H D = some (.lst (((List.range n).filter p).map f)) → Qd H) :
    ∃ W : Nat → Nat → Hp → Prop, (∃ m, W 0 m (upd H1 D (.lst []))) ∧ ∀ k m H, W k m H →
      ((Ite K a).stop k H ∧ Qd H) ∨ ((Ite K a).go k H ∧ ∃ Nx : Hp → Prop, (∀ H', Nx H' → ∃ m', m' < m ∧ W (k + 1) m' H') ∧ ∀ x H', (Ite K a).yld k H x H' → gTup K 2 (gCons (gName i) (gCons (gName i2) gNil)) x (wipe σ [i, i2]) H' fun σ2 H2 => wipe σ2 [i, i2] = wipe σ [i, i2] ∧ tt σ2 H2 fun b H3 =>
        if b = true then te σ2 H3 fun y H4 => ∃ acc, H4 D = some (.lst acc) ∧ acc.length < sizeLine ∧ Nx (upd H4 D (.lst (acc ++ [y]))) else Nx H3) := by
  refine ⟨fun k m H => m = n - k ∧ k ≤ n ∧ Same H1 H ∧ H D = some (.lst (((List.range k).filter p).map f)), ⟨n, by simp, Nat.zero_le _, Same.upd (Same.refl H1) hD, upd_same⟩, ?_⟩
  rintro k m H ⟨rfl, hk, hs, hL⟩
  by_cases hlt : k < n
  · refine .inr ⟨⟨xs, v k, hs.seq hx, hv k hlt⟩, fun H' => Same H1 H' ∧ H' D = some (.lst (((List.range (k + 1)).filter p).map f)), fun H' q => ⟨n - (k + 1), by omega, rfl, hlt, q.1, q.2⟩, fun x H' y => ?_⟩
    obtain ⟨T, z, rfl, hT, rfl, hz⟩ := y
    have ez : z = v k := by
      have := hz xs (hs.seq hx)
      rw [hv k hlt] at this
      exact (Option.some.inj this).symm
    subst ez
    have s0 : Same H (upd H T (.tup [.int (k : Nat), v k])) := Same.upd (Same.refl H) hT
    refine ⟨T, _, rfl, SqT.of upd_same, rfl, _, _, rfl, _, _, rfl, rfl, wipe2 ne, ?_⟩
    refine ht k _ hlt (hs.trans s0) _ fun H3 s3 => ?_
    have s1 := (hs.trans s0).trans s3
    have hL3 := s3 _ _ (s0 _ _ hL)
    have e := filter_snoc p k
    cases hp : p k with
    | false =>
      rw [hp, if_neg Bool.false_ne_true, List.append_nil] at e
      rw [if_neg Bool.false_ne_true, e]
      exact ⟨s1, hL3⟩
    | true =>
      rw [hp, if_pos rfl] at e
      rw [if_pos rfl]
      refine he k H3 hlt s1 hp _ fun H4 s4 => ⟨_, s4 _ _ hL3, ?_, Same.upd (s1.trans s4) hD, ?_⟩
      · rw [List.length_map]
        exact Nat.lt_of_le_of_lt (filter_len p k) (Nat.lt_trans hlt hn)
      · rw [upd_same, e, List.map_append]
        rfl
  · have e : k = n := by omega
    subst e
    exact .inl ⟨⟨xs, hs.seq hx, Nat.le_of_eq hl⟩, hd H hs hL⟩
end Be
end

section
set_option Elab.async false
set_option linter.all false
set_option maxRecDepth 100000
namespace Be
open PySem PySem.Spec PyProof.Rows L2
open Kqm5 (place)

/-! ### the text by places -/
def top (i : Nat) : Stmt := PySem.Challenge.pw_beatall_s01_answers.main.body.getD i (.Pass ⟨0, 0, 0, 0⟩)
abbrev sGms : Stmt := top 10
abbrev sWgt : Stmt := top 11
abbrev sDid : Stmt := top 12
abbrev sBtn : Stmt := top 13
abbrev sSet : Stmt := top 14
abbrev sPls : Stmt := top 15
abbrev sSiz : Stmt := top 16
abbrev sBst : Stmt := top 17
abbrev sRch : Stmt := top 18
abbrev sLft : Stmt := top 19

/-! ### the league's object -/
def lf (n m : Nat) : List (Str × V) := putF "number" (.int m) (putF "players" (.int n) [])
theorem lf_pl (n m : Nat) : (lf n m).lookup ("players" : Str) = some (.int n) := by
  unfold lf
  rw [lookup_putF, if_neg (by decide), lookup_putF, if_pos rfl]
theorem lf_nu (n m : Nat) : (lf n m).lookup ("number" : Str) = some (.int m) := by
  unfold lf
  rw [lookup_putF, if_pos rfl]
def LgAt (C : Addr) (H : Hp) (a : Addr) (n m : Nat) : Prop := ∃ dx, H a = some (.ins C dx (lf n m))
theorem LgAt.same {C : Addr} {H H' : Hp} {a : Addr} {n m : Nat} (h : LgAt C H a n m) (s : Same H H') : LgAt C H' a n m := by
  obtain ⟨dx, e⟩ := h
  exact ⟨dx, s _ _ e⟩
structure Txt (K : PySem.W.Frag) (mg : Str → Option Value) (C : Addr) : Prop where
  cl : Cls K C
  nP : NoAttr K C "players"
  nN : NoAttr K C "number"
  mgC : mg "League" = some (.ref C)
  len : mg "len" = none
  min : mg "min" = none
  max : mg "max" = none
  sum : mg "sum" = none
  range : mg "range" = none
  enumerate : mg "enumerate" = none
  all : mg "all" = none

/-! ### promises -/
def spGms : Sp := fun vs H Q _ => ∃ n : Nat, vs = [.int n] ∧ n ≤ 7 ∧ ∀ H', Same H H' → Q (.int (gms n : Nat)) H'
def spWgt : Sp := fun vs H Q _ => ∃ n i j : Nat, vs = [.int n, .int i, .int j] ∧ n ≤ 7 ∧ i < n ∧ j < n ∧ i ≠ j ∧ ∀ H', Same H H' → Q (.int (2 ^ place n i j : Nat)) H'
def spDid (C : Addr) : Sp := fun vs H Q _ => ∃ (a : Addr) (n m i j : Nat), vs = [.ref a, .int i, .int j] ∧ LgAt C H a n m ∧ n ≤ 7 ∧ i < n ∧ j < n ∧ ∀ H', Same H H' → Q (.bl (bt n m i j)) H'

section
variable {P : Program} {w : World} {K : PySem.W.Frag} {mg : Str → Option Value} {base : Heap} {C : Addr}

theorem scGms : FnScope ["players"] ["players"] (defScope sGms) := ⟨rfl, rfl, rfl, by decide +kernel, rfl, by decide +kernel, by decide +kernel⟩
theorem gms_int {n : Nat} (h : n ≤ 7) : (n : Int) * ((n : Int) - 1) / 2 = (gms n : Nat) := by
  have k : ∀ n : Nat, n < 8 → (n : Int) * ((n : Int) - 1) / 2 = (gms n : Nat) := by decide
  exact k n (by omega)
theorem okGms (F : Df K mg "how_many_games" sGms ["players"]) : Cal P w K mg base 1 "how_many_games" ["players"] spGms := by
  refine F.cal scGms (fun vs H Q E h => ?_) (fun f cdv A outer s H vs Q E hr h => ?_)
  · obtain ⟨n, rfl, _⟩ := h
    rfl
  · obtain ⟨n, rfl, hn, k⟩ := h
    refine ⟨_, pss_one (ps_ret (pe_op op_fdiv (pe_op op_mul (pv 0) (pe_op op_sub (pv 0) pe_int)) pe_int)), ?_⟩
    refine ⟨_, rfl, _, rfl, _, _, rfl, rfl, _, _, rfl, rfl, .inl ⟨by omega, by omega⟩, _, _, rfl, rfl, ⟨by decide, by decide⟩, ?_⟩
    show Q (.int ((n : Int) * ((n : Int) - 1) / 2)) H
    rw [gms_int hn]
    exact k H (Same.refl H)

theorem scWgt : FnScope ["players", "one", "other", "lesser", "greater", "ahead"] ["players", "one", "other"] (defScope sWgt) := ⟨rfl, rfl, rfl, by decide +kernel, rfl, by decide +kernel, by decide +kernel⟩
def wle (i j : Int) : Int := if j < i then j else i
def wgr (i j : Int) : Int := if j > i then j else i
def wah (n i j : Int) : Int := wle i j * (2 * n - wle i j - 1) / 2
def wex (n i j : Int) : Int := wah n i j + wgr i j - wle i j - 1
theorem wex_ok {n i j : Nat} (h : n ≤ 7) (hi : i < n) (hj : j < n) (ne : i ≠ j) : 0 ≤ wex n i j ∧ wex n i j ≤ 1000000 ∧ (wex n i j).toNat = place n i j := by
  have k : ∀ n : Nat, n < 8 → ∀ i : Nat, i < n → ∀ j : Nat, j < n → i ≠ j → 0 ≤ wex n i j ∧ wex n i j ≤ 1000000 ∧ (wex n i j).toNat = place n i j := by decide +kernel
  exact k n (by omega) i hi j hj ne
theorem okWgt (T : Txt K mg C) (F : Df K mg "game_weight" sWgt ["players", "one", "other"]) : Cal P w K mg base 1 "game_weight" ["players", "one", "other"] spWgt := by
  refine F.cal scWgt (fun vs H Q E h => ?_) (fun f cdv A outer s H vs Q E hr h => ?_)
  · obtain ⟨n, i, j, rfl, _⟩ := h
    rfl
  · obtain ⟨n, i, j, rfl, hn, hi, hj, ne, k⟩ := h
    have nd := scWgt.nd
    refine ⟨_, pss_cons (ps_set (i := 3) nd rfl (Or.inl rfl) (pe_callB (call_min2 rfl) (by rfl) T.min (by decide +kernel) (pa_cons (pv 1) (pa_cons (pv 2) pa_nil))))
      (pss_cons (ps_set (i := 4) nd rfl (Or.inl rfl) (pe_callB (call_max2 rfl) (by rfl) T.max (by decide +kernel) (pa_cons (pv 1) (pa_cons (pv 2) pa_nil))))
      (pss_cons (ps_set (i := 5) nd rfl (Or.inl rfl) (pe_op op_fdiv (pe_op op_mul (pv 3) (pe_op op_sub (pe_op op_sub (pe_op op_mul pe_int (pv 0)) (pv 3)) pe_int)) pe_int))
      (pss_one (ps_ret (pe_op op_shl pe_int (pe_op op_sub (pe_op op_sub (pe_op op_add (pv 5) (pv 4)) (pv 3)) pe_int)))))), ?_⟩
    obtain ⟨w1, w2, w3⟩ := wex_ok hn hi hj ne
    refine ⟨_, rfl, _, rfl, _, _, rfl, ?_⟩
    refine ⟨_, rfl, _, rfl, _, _, rfl, ?_⟩
    refine ⟨_, rfl, _, rfl, _, _, rfl, rfl, .inl ⟨by decide, by decide⟩, _, rfl, _, _, rfl, rfl, _, _, rfl, rfl, _, _, rfl, rfl, .inl ⟨?_, ?_⟩, _, _, rfl, rfl, ⟨by decide, by decide⟩, ?_⟩
    · split <;> omega
    · split <;> omega
    refine ⟨_, rfl, _, rfl, _, _, rfl, rfl, _, rfl, _, _, rfl, rfl, _, _, rfl, rfl, _, _, rfl, rfl, ⟨w1, w2, by decide⟩, ?_⟩
    have e : (1 : Int) * 2 ^ (wex n i j).toNat = ((2 ^ place n i j : Nat) : Int) := by
      rw [w3, Int.one_mul]
      simp
    show Q (.int ((1 : Int) * 2 ^ (wex n i j).toNat)) H
    rw [e]
    exact k H (Same.refl H)
end
end Be
end

section
set_option Elab.async false
set_option linter.all false
set_option maxRecDepth 100000
namespace Be
open PySem PySem.Spec PyProof.Rows L2
open Kqm5 (place)
section
variable {P : Program} {w : World} {K : PySem.W.Frag} {mg : Str → Option Value} {base : Heap} {C : Addr}

theorem scDid : FnScope ["league", "one", "other", "greater_won"] ["league", "one", "other"] (defScope sDid) := ⟨rfl, rfl, rfl, by decide +kernel, rfl, by decide +kernel, by decide +kernel⟩
theorem bt_py {n m i j : Nat} (ne : i ≠ j) : decide (V.bl (!decide (V.int (Builtin.bitAnd (m : Int) ((2 ^ place n i j : Nat) : Int)) = V.int 0)) = V.bl (decide ((j : Int) < i))) = bt n m i j := by
  rw [dec_bl, dec_int, band_nat]
  have e := and_pow_ne m (place n i j)
  have e1 : (!(((m &&& 2 ^ place n i j : Nat) : Int) == 0)) = m.testBit (place n i j) := by
    show (!decide (((m &&& 2 ^ place n i j : Nat) : Int) = 0)) = _
    rw [← e, decide_not]
  rw [e1]
  unfold bt
  rcases Nat.lt_or_gt_of_ne ne with h | h
  · rw [if_pos h, decide_eq_false (by omega)]
    cases m.testBit (place n i j) <;> rfl
  · rw [if_neg (by omega), decide_eq_true (show (j : Int) < i by omega), decide_eq_true (show j < i from h)]
    cases m.testBit (place n i j) <;> rfl
theorem okDid (T : Txt K mg C) (F : Df K mg "did_beat" sDid ["league", "one", "other"]) (cW : Cal P w K mg base 1 "game_weight" ["players", "one", "other"] spWgt) : Cal P w K mg base 2 "did_beat" ["league", "one", "other"] (spDid C) := by
  refine F.cal scDid (fun vs H Q E h => ?_) (fun f cdv A outer s H vs Q E hr h => ?_)
  · obtain ⟨a, n, m, i, j, rfl, _⟩ := h
    rfl
  · obtain ⟨a, n, m, i, j, rfl, ⟨dx, hL⟩, hn, hi, hj, k⟩ := h
    have nd := scDid.nd
    refine ⟨_, pss_cons (ps_if (pt_cmpR op_eq (pv 1) (pv 2) (nomark _)) (pss_one (ps_ret pe_bl)) pss_nil)
      (pss_cons (ps_set (i := 3) nd rfl (Or.inl rfl) (pe_cmpR op_ne (pe_op op_and (pe_fld (pv 0) rfl) (pe_cal cW hr (pa_cons (pe_fld (pv 0) rfl) (pa_cons (pv 1) (pa_cons (pv 2) pa_nil))))) pe_int (nomark _)))
      (pss_one (ps_ret (pe_cmpR op_eq (pv 3) (pe_cmpR op_gt (pv 1) (pv 2) (nomark _)) (nomark _))))), ?_⟩
    refine ⟨_, rfl, _, rfl, rfl, _, rfl, ite2 (fun q => ?_) fun q => ?_⟩
    · have q1 : V.int (i : Int) = V.int j := of_decide_eq_true q
      have e : i = j := by
        injection q1 with q2
        omega
      subst e
      show Q (.bl false) H
      rw [← bt_self n m i]
      exact k H (Same.refl H)
    · have ne : i ≠ j := fun e => q (by subst e; exact decide_eq_true rfl)
      refine ⟨_, rfl, a, C, dx, _, _, rfl, hL, T.cl, T.nN, lf_nu n m, _, rfl, a, C, dx, _, _, rfl, hL, T.cl, T.nP, lf_pl n m, _, rfl, _, rfl, n, i, j, rfl, hn, hi, hj, ne, fun H1 s1 => ?_⟩
      refine ⟨_, _, rfl, rfl, rfl, ?_⟩
      refine ⟨_, rfl, _, rfl, _, rfl, _, _, rfl, rfl, rfl, ?_⟩
      show Q (.bl (decide (V.bl (!decide (V.int (Builtin.bitAnd (m : Int) ((2 ^ place n i j : Nat) : Int)) = V.int 0)) = V.bl (decide ((j : Int) < i))))) H1
      rw [bt_py ne]
      exact k H1 s1

/-! ### beaten_by -/
/-- a new list of whole numbers is handed back, all else stays -/
def NewL (H : Hp) (Q : VK) (ns : List Nat) : Prop := ∀ (H' : Hp) (p : Addr), Same H H' → H p = none → H' p = some (.lst (ns.map fun (x : Nat) => V.int (x : Int))) → Q (.ref p) H'
def spBtn (C : Addr) : Sp := fun vs H Q _ => ∃ (a : Addr) (n m i : Nat), vs = [.ref a, .int i] ∧ LgAt C H a n m ∧ n ≤ 7 ∧ i < n ∧ NewL H Q (beaten n m i)
theorem scBtn : FnScope ["league", "one", "other"] ["league", "one"] (defScope sBtn) := ⟨rfl, rfl, rfl, by decide +kernel, rfl, by decide +kernel, by decide +kernel⟩
theorem small7 {n : Nat} (h : n ≤ 7) : n < sizeLine := small1000 (by omega)
theorem okBtn (T : Txt K mg C) (F : Df K mg "beaten_by" sBtn ["league", "one"]) (cD : Cal P w K mg base 2 "did_beat" ["league", "one", "other"] (spDid C)) : Cal P w K mg base 3 "beaten_by" ["league", "one"] (spBtn C) := by
  refine F.cal scBtn (fun vs H Q E h => ?_) (fun f cdv A outer s H vs Q E hr h => ?_)
  · obtain ⟨a, n, m, i, rfl, _⟩ := h
    rfl
  · obtain ⟨a, n, m, i, rfl, hL, hn, hi, k⟩ := h
    have nd := scBtn.nd
    refine ⟨_, pss_one (ps_ret (pe_lc (own := [("other", 2)]) (g := gName 2) (by rfl) nd (pi_range1 rfl T.range (pa_cons (pe_fld (pv 0) rfl) pa_nil))
      (blkOk_by (own := [("other", 2)]) (N := ["league", "one", "other"]) (sc := defScope sBtn) (by decide +kernel)) (fun _ _ _ _ _ => pg_name (i := 2) nd rfl (Or.inl rfl))
      (fun _ _ _ _ _ => pts_one (pt_val (pe_cal cD hr (pa_cons (pv 0) (pa_cons (pv 1) (pa_cons (pv 2) pa_nil)))))) (fun _ _ _ _ _ => pv 2))), ?_⟩
    obtain ⟨dx, hL'⟩ := id hL
    refine ⟨_, rfl, a, C, dx, _, _, rfl, hL', T.cl, T.nP, lf_pl n m, n, rfl, by omega, by omega, fun D hD => ?_⟩
    refine lc_pure (n := n) (fun j => bt n m i j) (fun j => V.int (j : Int)) (small7 hn) hD (fun j H1 hj s1 Q1 q1 => ?_) (fun j H1 hj s1 _ Q1 q1 => ?_) fun H1 s1 h1 => k H1 D s1 hD h1
    · refine ⟨_, rfl, _, rfl, _, rfl, a, n, m, i, j, by simp, hL.same s1, hn, hi, hj, fun H2 s2 => ⟨_, rfl, q1 H2 s2⟩⟩
    · refine ⟨_, rfl, ?_⟩
      show Q1 (V.int (0 + (j : Int))) H1
      rw [Int.zero_add]
      exact q1 H1 (Same.refl H1)
end
end Be
end

section
set_option Elab.async false
set_option linter.all false
set_option maxRecDepth 100000
namespace Be
open PySem PySem.Spec PyProof.Rows L2
open Kqm5 (place)
def vi (x : Nat) : V := V.int (x : Int)
def pw2 : V → V
  | .int i => .int (1 * 2 ^ i.toNat)
  | v => v
theorem pw2_map (ns : List Nat) : (ns.map vi).map pw2 = (ns.map fun x => ((2 ^ x : Nat) : Int)).map V.int := by
  rw [List.map_map, List.map_map]
  apply List.map_congr_left
  intro x _
  show V.int (1 * 2 ^ ((x : Int)).toNat) = V.int ((2 ^ x : Nat) : Int)
  simp
theorem pow_sum : ∀ ns : List Nat, (ns.map fun x => ((2 ^ x : Nat) : Int)).sum = (pows ns : Nat)
  | [] => rfl
  | x :: ns => by
    rw [List.map_cons, List.sum_cons, pow_sum ns]
    simp [pows]
def spSet (K : PySem.W.Frag) : Sp := fun vs H Q _ => ∃ (b : Addr) (ns : List Nat), vs = [.ref b] ∧ SqL K H b (ns.map vi) ∧ ns.length ≤ 1000 ∧ (∀ x ∈ ns, x ≤ 1000) ∧ ∀ H', Same H H' → Q (.int (pows ns : Nat)) H'
def spPls : Sp := fun vs H Q _ => ∃ s : Nat, vs = [.int s] ∧ s < 2 ^ 32 ∧ NewL H Q (mem s)
def spSiz : Sp := fun vs H Q _ => ∃ s : Nat, vs = [.int s] ∧ s < 2 ^ 32 ∧ ∀ H', Same H H' → Q (.int ((mem s).length : Nat)) H'
def spRch (C : Addr) : Sp := fun vs H Q _ => ∃ (a : Addr) (n m : Nat), vs = [.ref a] ∧ LgAt C H a n m ∧ n ≤ 7 ∧ NewL H Q ((List.range n).map fun i => reach n m i)
/-- those whom i beat, as a set -/
def btn (n m i : Nat) : Nat := pows (beaten n m i)
def spBst (C : Addr) : Sp := fun vs H Q _ => ∃ (a : Addr) (n m : Nat), vs = [.ref a] ∧ LgAt C H a n m ∧ n ≤ 7 ∧ NewL H Q ((List.range n).map fun i => btn n m i)
section
variable {P : Program} {w : World} {K : PySem.W.Frag} {mg : Str → Option Value} {base : Heap} {C : Addr}
theorem scSet : FnScope ["players", "one"] ["players"] (defScope sSet) := ⟨rfl, rfl, rfl, by decide +kernel, rfl, by decide +kernel, by decide +kernel⟩
theorem okSet (T : Txt K mg C) (F : Df K mg "set_of" sSet ["players"]) : Cal P w K mg base 1 "set_of" ["players"] (spSet K) := by
  refine F.cal scSet (fun vs H Q E h => ?_) (fun f cdv A outer s H vs Q E hr h => ?_)
  · obtain ⟨b, ns, rfl, _⟩ := h
    rfl
  · obtain ⟨b, ns, rfl, hb, hl, hx, k⟩ := h
    have nd := scSet.nd
    refine ⟨_, pss_one (ps_ret (pe_callB (cr_sum rfl) (by rfl) T.sum (by decide +kernel) (pa_cons (pe_lc (own := [("one", 1)]) (g := gName 1) (by rfl) nd (pi_list (pv 0))
      (blkOk_by (own := [("one", 1)]) (N := ["players", "one"]) (sc := defScope sSet) (by decide +kernel)) (fun _ _ _ _ _ => pg_name (i := 1) nd rfl (Or.inl rfl))
      (fun _ _ _ _ _ => pts_nil) (fun _ _ _ _ _ => pe_op op_shl pe_int (pv 1))) pa_nil))), ?_⟩
    refine ⟨_, rfl, b, rfl, ⟨_, hb⟩, fun D hD => ?_⟩
    refine lc_pureL (xs := ns.map vi) pw2 (by rw [List.length_map]; exact Nat.le_of_lt (small1000 hl)) hD hb (fun x H1 hm s1 Q1 q1 => ?_) fun H1 s1 h1 => ?_
    · obtain ⟨y, hy, rfl⟩ := List.mem_map.mp hm
      have hy2 := hx y hy
      exact ⟨_, rfl, _, _, rfl, rfl, ⟨by omega, by omega, by decide⟩, q1 H1 (Same.refl H1)⟩
    · refine ⟨D, _, rfl, SqL.of (by rw [h1, pw2_map]), ?_⟩
      rw [pow_sum]
      exact k H1 s1

theorem scPls : FnScope ["chosen", "one"] ["chosen"] (defScope sPls) := ⟨rfl, rfl, rfl, by decide +kernel, rfl, by decide +kernel, by decide +kernel⟩
theorem okPls (T : Txt K mg C) (F : Df K mg "players_of" sPls ["chosen"]) : Cal P w K mg base 1 "players_of" ["chosen"] spPls := by
  refine F.cal scPls (fun vs H Q E h => ?_) (fun f cdv A outer s H vs Q E hr h => ?_)
  · obtain ⟨n, rfl, _⟩ := h
    rfl
  · obtain ⟨n, rfl, hn, k⟩ := h
    have nd := scPls.nd
    have hb : Builtin.Int.intBits (n : Int) ≤ 32 := bits_le hn
    refine ⟨_, pss_one (ps_ret (pe_lc (own := [("one", 1)]) (g := gName 1) (by rfl) nd (pi_range1 rfl T.range (pa_cons (pe_bm0 PySem.F.plainAttrs_int slot_int_bit_length type_int_bit_length mt_bitlen (pv 0)) pa_nil))
      (blkOk_by (own := [("one", 1)]) (N := ["chosen", "one"]) (sc := defScope sPls) (by decide +kernel)) (fun _ _ _ _ _ => pg_name (i := 1) nd rfl (Or.inl rfl))
      (fun _ _ _ _ _ => pts_one (pt_num (pe_op op_and (pe_op op_shr (pv 0) (pv 1)) pe_int))) (fun _ _ _ _ _ => pv 1))), ?_⟩
    refine ⟨_, rfl, rfl, _, rfl, rfl, _, rfl, by omega, by omega, fun D hD => ?_⟩
    refine lc_pure (n := Builtin.Int.intBits (n : Int)) (fun j => n.testBit j) (fun j => vi j) (small1000 (by omega)) hD (fun j H1 hj s1 Q1 q1 => ?_) (fun j H1 hj s1 _ Q1 q1 => ?_) fun H1 s1 h1 => k H1 D s1 hD h1
    · refine ⟨_, rfl, _, rfl, _, _, rfl, rfl, (by show (0 : Int) ≤ 0 + (j : Int); omega), _, _, rfl, rfl, _, rfl, ?_⟩
      have e : ((0 : Int) + (j : Int)).toNat = j := by omega
      have e2 : (Builtin.bitAnd ((n : Int) / 2 ^ ((0 : Int) + (j : Int)).toNat) 1 != 0) = n.testBit j := by
        rw [e, shr_one]
        cases n.testBit j <;> rfl
      show Q1 (Builtin.bitAnd ((n : Int) / 2 ^ ((0 : Int) + (j : Int)).toNat) 1 != 0) H1
      rw [e2]
      exact q1 H1 (Same.refl H1)
    · refine ⟨_, rfl, ?_⟩
      show Q1 (V.int (0 + (j : Int))) H1
      rw [Int.zero_add]
      exact q1 H1 (Same.refl H1)

theorem scSiz : FnScope ["chosen"] ["chosen"] (defScope sSiz) := ⟨rfl, rfl, rfl, by decide +kernel, rfl, by decide +kernel, by decide +kernel⟩
theorem okSiz (T : Txt K mg C) (F : Df K mg "set_size" sSiz ["chosen"]) (cP : Cal P w K mg base 1 "players_of" ["chosen"] spPls) : Cal P w K mg base 2 "set_size" ["chosen"] spSiz := by
  refine F.cal scSiz (fun vs H Q E h => ?_) (fun f cdv A outer s H vs Q E hr h => ?_)
  · obtain ⟨n, rfl, _⟩ := h
    rfl
  · obtain ⟨n, rfl, hn, k⟩ := h
    refine ⟨_, pss_one (ps_ret (pe_callB call_len_seq (by rfl) T.len PySem.boot_len (pa_cons (pe_cal cP hr (pa_cons (pv 0) pa_nil)) pa_nil))), ?_⟩
    refine ⟨_, rfl, n, rfl, hn, fun H1 p s1 hp h1 => ⟨p, _, rfl, .inl (SqL.of h1), ?_⟩⟩
    rw [List.length_map]
    exact k H1 s1

theorem beaten_lt {n m i x : Nat} (h : x ∈ beaten n m i) : x < n := List.mem_range.mp (List.mem_filter.mp h).1
theorem beaten_nd (n m i : Nat) : (beaten n m i).Nodup := List.Pairwise.filter _ List.nodup_range
theorem btn_tb {n m i : Nat} (j : Nat) : (btn n m i).testBit j = (decide (j < n) && bt n m i j) := by
  unfold btn
  rw [pows_tb _ (beaten_nd n m i)]
  simp [beaten]
theorem btn_or (n m i : Nat) : btn n m i ||| 2 ^ i = reach n m i := by
  apply Nat.eq_of_testBit_eq
  intro j
  rw [Nat.testBit_or, btn_tb, reach_tb, Nat.testBit_two_pow]
  have e : decide (i = j) = decide (j = i) := decide_eq_decide.mpr ⟨Eq.symm, Eq.symm⟩
  rw [e, Bool.or_comm]
theorem scBst : FnScope ["league", "one"] ["league"] (defScope sBst) := ⟨rfl, rfl, rfl, by decide +kernel, rfl, by decide +kernel, by decide +kernel⟩
theorem okBst (T : Txt K mg C) (F : Df K mg "beaten_sets" sBst ["league"]) (cS : Cal P w K mg base 1 "set_of" ["players"] (spSet K)) (cB : Cal P w K mg base 3 "beaten_by" ["league", "one"] (spBtn C)) : Cal P w K mg base 4 "beaten_sets" ["league"] (spBst C) := by
  refine F.cal scBst (fun vs H Q E h => ?_) (fun f cdv A outer s H vs Q E hr h => ?_)
  · obtain ⟨a, n, m, rfl, _⟩ := h
    rfl
  · obtain ⟨a, n, m, rfl, hL, hn, k⟩ := h
    have nd := scBst.nd
    have hr1 : Room 1 _ := hr.mono (by decide)
    refine ⟨_, pss_one (ps_ret (pe_lc (own := [("one", 1)]) (g := gName 1) (by rfl) nd (pi_range1 rfl T.range (pa_cons (pe_fld (pv 0) rfl) pa_nil))
      (blkOk_by (own := [("one", 1)]) (N := ["league", "one"]) (sc := defScope sBst) (by decide +kernel)) (fun _ _ _ _ _ => pg_name (i := 1) nd rfl (Or.inl rfl))
      (fun _ _ _ _ _ => pts_nil) (fun _ _ _ _ _ => pe_cal cS hr1 (pa_cons (pe_cal cB hr (pa_cons (pv 0) (pa_cons (pv 1) pa_nil))) pa_nil)))), ?_⟩
    obtain ⟨dx, hL'⟩ := id hL
    refine ⟨_, rfl, a, C, dx, _, _, rfl, hL', T.cl, T.nP, lf_pl n m, n, rfl, by omega, by omega, fun D hD => ?_⟩
    refine lc_pure (n := n) (fun _ => true) (fun j => vi (btn n m j)) (small7 hn) hD (fun j H1 hj s1 => Et.yes) (fun j H1 hj s1 _ Q1 q1 => ?_) fun H1 s1 h1 => k H1 D s1 hD ?_
    · refine ⟨_, rfl, _, rfl, a, n, m, j, by simp, hL.same s1, hn, hj, fun H3 r s3 hr3 h3 => ?_⟩
      refine ⟨r, beaten n m j, rfl, SqL.of h3, ?_, ?_, fun H5 s5 => ?_⟩
      · have := filter_len (fun x => bt n m j x) n
        unfold beaten
        omega
      · intro x hx
        have := beaten_lt hx
        omega
      · exact q1 H5 (s3.trans s5)
    · rw [h1, List.filter_eq_self.mpr (fun _ _ => rfl), List.map_map]
      rfl
theorem scRch : FnScope ["league", "one", "losers"] ["league"] (defScope sRch) := ⟨rfl, rfl, rfl, by decide +kernel, rfl, by decide +kernel, by decide +kernel⟩
theorem range_get {n j : Nat} (f : Nat → Nat) (h : j < n) : (((List.range n).map f).map vi)[j]? = some (vi (f j)) := by simp [h]
theorem okRch (T : Txt K mg C) (F : Df K mg "reaches" sRch ["league"]) (cB : Cal P w K mg base 4 "beaten_sets" ["league"] (spBst C)) : Cal P w K mg base 5 "reaches" ["league"] (spRch C) := by
  refine F.cal scRch (fun vs H Q E h => ?_) (fun f cdv A outer s H vs Q E hr h => ?_)
  · obtain ⟨a, n, m, rfl, _⟩ := h
    rfl
  · obtain ⟨a, n, m, rfl, hL, hn, k⟩ := h
    have nd := scRch.nd
    refine ⟨_, pss_one (ps_ret (pe_lc (own := [("one", 1), ("losers", 2)]) (g := gTup K 2 (gCons (gName 1) (gCons (gName 2) gNil))) (by rfl) nd (pi_enum rfl T.enumerate (pa_cons (pe_cal cB hr (pa_cons (pv 0) pa_nil)) pa_nil))
      (blkOk_by (own := [("one", 1), ("losers", 2)]) (N := ["league", "one", "losers"]) (sc := defScope sRch) (by decide +kernel)) (fun _ _ _ _ _ => pg_tup (by rfl) (pgs_cons (pg_name (i := 1) nd rfl (Or.inl rfl)) (pgs_cons (pg_name (i := 2) nd rfl (Or.inl rfl)) pgs_nil)))
      (fun _ _ _ _ _ => pts_nil) (fun _ _ _ _ _ => pe_op op_or (pv 2) (pe_op op_shl pe_int (pv 1))))), ?_⟩
    refine ⟨_, rfl, a, n, m, by simp, hL, hn, fun H1 r s1 hr1 h1 => ?_⟩
    refine ⟨r, _, rfl, SqL.of h1, fun D hD => ?_⟩
    refine lc_pureE (n := n) (by decide) (fun j => vi (btn n m j)) (fun _ => true) (fun j => vi (reach n m j)) (small7 hn) hD (SqL.of h1) (by simp) (fun j hj => range_get _ hj) (fun j H2 hj s2 => Et.yes) (fun j H2 hj s2 _ Q1 q1 => ?_) fun H2 s2 h2 => k H2 D (s1.trans s2) (s1.free hD) ?_
    · refine ⟨_, rfl, _, rfl, _, _, rfl, rfl, ⟨by omega, by omega, by decide⟩, _, _, rfl, rfl, ?_⟩
      have e : Builtin.bitOr ((btn n m j : Nat) : Int) (1 * 2 ^ ((j : Nat) : Int).toNat) = ((reach n m j : Nat) : Int) := by
        have e1 : (1 : Int) * 2 ^ ((j : Nat) : Int).toNat = ((2 ^ j : Nat) : Int) := by simp
        rw [e1, bor_nat, btn_or]
      show Q1 (V.int (Builtin.bitOr ((btn n m j : Nat) : Int) (1 * 2 ^ ((j : Nat) : Int).toNat))) H2
      rw [e]
      exact q1 H2 (Same.refl H2)
    · rw [h2, List.filter_eq_self.mpr (fun _ _ => rfl), List.map_map]
      rfl
end
end Be
end

section
set_option Elab.async false
set_option linter.all false
set_option maxRecDepth 100000
namespace Be
open PySem PySem.Spec PyProof.Rows L2
open Kqm5 (place)
abbrev sMis : Stmt := top 27
abbrev sHas : Stmt := top 28
/-- what the loop over the members leaves of all -/
def leftR (rs : List Nat) (s : Nat) : Nat := (mem s).foldl (fun r i => minus r (rs.getD i 0)) (2 ^ rs.length - 1)
theorem leftR_eq {n m s : Nat} (hs : s < 2 ^ n) : leftR ((List.range n).map fun i => reach n m i) s = leftN n m s := by
  unfold leftR leftN
  rw [List.length_map, List.length_range]
  have g : ∀ (l : List Nat) (r : Nat), (∀ i ∈ l, i < n) → l.foldl (fun r i => minus r (((List.range n).map fun i => reach n m i).getD i 0)) r = l.foldl (fun r i => minus r (reach n m i)) r := by
    intro l
    induction l with
    | nil => intro r _; rfl
    | cons x l ih =>
      intro r hl
      have hx := hl x (List.mem_cons_self ..)
      have e : ((List.range n).map fun i => reach n m i).getD x 0 = reach n m x := by simp [hx]
      rw [List.foldl_cons, List.foldl_cons, ih _ fun k hk => hl k (List.mem_cons_of_mem _ hk), e]
  exact g _ _ fun i hi => mem_lt hs hi
def spLft (K : PySem.W.Frag) : Sp := fun vs H Q _ => ∃ (b : Addr) (rs : List Nat) (s : Nat), vs = [.ref b, .int s] ∧ SqL K H b (rs.map vi) ∧ rs.length ≤ 7 ∧ s < 2 ^ rs.length ∧ ∀ H', Same H H' → Q (.int (leftR rs s : Nat)) H'
def spMis (C : Addr) : Sp := fun vs H Q _ => ∃ (a : Addr) (n m i : Nat), vs = [.ref a, .int i] ∧ LgAt C H a n m ∧ ∀ H', Same H H' → Q (.bl (decide (n ≤ i))) H'
def spHas (C : Addr) : Sp := fun vs H Q _ => ∃ (a : Addr) (n m i : Nat), vs = [.ref a, .int i] ∧ LgAt C H a n m ∧ n ≤ 7 ∧ ∀ H', Same H H' → Q (.bl (decide (2 ^ n ≤ i))) H'
theorem snoc_fold {α β : Type} {f : β → α → β} {l : List α} {i : Nat} {x : α} {z : β} (h : l[i]? = some x) : (l.take (i + 1)).foldl f z = f ((l.take i).foldl f z) x := by
  rw [List.take_add_one, h, List.foldl_append]
  rfl
section
variable {P : Program} {w : World} {K : PySem.W.Frag} {mg : Str → Option Value} {base : Heap} {C : Addr}
theorem scLft : FnScope ["reached", "chosen", "remaining", "one"] ["reached", "chosen"] (defScope sLft) := ⟨rfl, rfl, rfl, by decide +kernel, rfl, by decide +kernel, by decide +kernel⟩
theorem okLft (T : Txt K mg C) (F : Df K mg "left_by" sLft ["reached", "chosen"]) (cP : Cal P w K mg base 1 "players_of" ["chosen"] spPls) : Cal P w K mg base 2 "left_by" ["reached", "chosen"] (spLft K) := by
  refine F.cal scLft (fun vs H Q E h => ?_) (fun f cdv A outer s H vs Q E hr h => ?_)
  · obtain ⟨b, rs, c, rfl, _⟩ := h
    rfl
  · obtain ⟨b, rs, c, rfl, hb, hl, hc, k⟩ := h
    have nd := scLft.nd
    have hc32 : c < 2 ^ 32 := Nat.lt_of_lt_of_le hc (Nat.pow_le_pow_right (by decide) (by omega))
    refine ⟨_, pss_cons (ps_set (i := 2) nd rfl (Or.inl rfl) (pe_op op_sub (pe_op op_shl pe_int (pe_callB call_len_seq (by rfl) T.len PySem.boot_len (pa_cons (pv 0) pa_nil))) pe_int))
      (pss_cons (ps_for PassesOwn.never rfl (pi_list (pe_cal cP hr (pa_cons (pv 1) pa_nil))) (pg_name (i := 3) nd rfl (Or.inl rfl))
        (pss_one (ps_set (i := 2) nd rfl (Or.inl rfl) (pe_op op_and (pv 2) (pe_un un_inv (pe_ix ix_list (pv 0) (pv 3) (fun _ _ => rfl)))))))
      (pss_one (ps_ret (pv 2)))), ?_⟩
    refine ⟨_, rfl, b, _, rfl, .inl hb, _, _, rfl, rfl, ⟨by omega, by rw [List.length_map]; omega, by decide⟩, _, _, rfl, rfl, ?_⟩
    refine ⟨_, rfl, c, rfl, hc32, fun H1 p s1 hp h1 => ⟨p, rfl, ⟨_, SqL.of h1⟩, ?_⟩⟩
    have e0 : (1 : Int) * 2 ^ ((((rs.map vi).length : Nat) : Int)).toNat - 1 = ((2 ^ rs.length - 1 : Nat) : Int) := by
      have : 0 < 2 ^ rs.length := Nat.two_pow_pos _
      rw [List.length_map, Int.one_mul, Int.toNat_natCast, Int.natCast_sub (by omega)]
      simp
    refine for_list (K := K) (a := p) (xs := (mem c).map fun (x : Nat) => V.int (x : Int)) (fun i σ H' => ∃ v : Option V, σ = [some (.ref b), some (.int c), some (.int (((mem c).take i).foldl (fun r i => minus r (rs.getD i 0)) (2 ^ rs.length - 1) : Nat)), v] ∧ Same H1 H') ?_ (fun i σ H' _ ⟨_, _, s5⟩ => SqL.of (s5 _ _ h1)) ?_ ?_
    · refine ⟨none, ?_, Same.refl H1⟩
      show [some (V.ref b), some (V.int c), some (V.int ((1 : Int) * 2 ^ ((((rs.map vi).length : Nat) : Int)).toNat - 1)), none] = _
      rw [e0]
      rfl
    · rintro i y σ H' hi ⟨v, rfl, s5⟩
      obtain ⟨z, hz, rfl⟩ : ∃ z, (mem c)[i]? = some z ∧ y = V.int (z : Int) := by
        rw [List.getElem?_map] at hi
        cases e : (mem c)[i]? with
        | none =>
          rw [e] at hi
          cases hi
        | some z =>
          rw [e] at hi
          exact ⟨z, rfl, (Option.some.inj hi).symm⟩
      have zl : z < rs.length := mem_lt hc (List.mem_of_getElem? hz)
      refine ⟨_, rfl, _, rfl, _, rfl, b, _, _, _, rfl, rfl, (s1.trans s5).seq hb, at_of (j := z) (v := vi (rs.getD z 0)) rfl ?_, _, rfl, _, _, rfl, rfl, ?_⟩
      · rw [List.getElem?_map, List.getElem?_eq_getElem zl]
        simp [zl]
      · refine ⟨some (V.int (z : Int)), ?_, s5⟩
        rw [snoc_fold hz]
        show [some (V.ref b), some (V.int c), some (V.int (Builtin.bitAnd _ (Builtin.bitNot ((rs.getD z 0 : Nat) : Int)))), some (V.int (z : Int))] = _
        rw [band_not]
    · rintro σ H' ⟨v, rfl, s5⟩
      rw [List.length_map, List.take_length]
      exact ⟨_, rfl, k H' (s1.trans s5)⟩

theorem scMis : FnScope ["league", "one"] ["league", "one"] (defScope sMis) := ⟨rfl, rfl, rfl, by decide +kernel, rfl, by decide +kernel, by decide +kernel⟩
theorem okMis (T : Txt K mg C) (F : Df K mg "is_missing" sMis ["league", "one"]) : Cal P w K mg base 1 "is_missing" ["league", "one"] (spMis C) := by
  refine F.cal scMis (fun vs H Q E h => ?_) (fun f cdv A outer s H vs Q E hr h => ?_)
  · obtain ⟨a, n, m, i, rfl, _⟩ := h
    rfl
  · obtain ⟨a, n, m, i, rfl, ⟨dx, hL⟩, k⟩ := h
    refine ⟨_, pss_one (ps_ret (pe_cmpR op_ge (pv 1) (pe_fld (pv 0) rfl) (nomark _))), ?_⟩
    refine ⟨_, rfl, _, rfl, a, C, dx, _, _, rfl, hL, T.cl, T.nP, lf_pl n m, _, _, rfl, rfl, ?_⟩
    have e : decide ((n : Int) ≤ i) = decide (n ≤ i) := decide_eq_decide.mpr (by omega)
    show Q (.bl (decide ((n : Int) ≤ i))) H
    rw [e]
    exact k H (Same.refl H)
theorem scHas : FnScope ["league", "chosen"] ["league", "chosen"] (defScope sHas) := ⟨rfl, rfl, rfl, by decide +kernel, rfl, by decide +kernel, by decide +kernel⟩
theorem pow_int (n : Nat) : (1 : Int) * 2 ^ ((n : Int)).toNat = ((2 ^ n : Nat) : Int) := by simp
theorem okHas (T : Txt K mg C) (F : Df K mg "has_missing" sHas ["league", "chosen"]) : Cal P w K mg base 1 "has_missing" ["league", "chosen"] (spHas C) := by
  refine F.cal scHas (fun vs H Q E h => ?_) (fun f cdv A outer s H vs Q E hr h => ?_)
  · obtain ⟨a, n, m, i, rfl, _⟩ := h
    rfl
  · obtain ⟨a, n, m, i, rfl, ⟨dx, hL⟩, hn, k⟩ := h
    refine ⟨_, pss_one (ps_ret (pe_cmpR op_ge (pv 1) (pe_op op_shl pe_int (pe_fld (pv 0) rfl)) (nomark _))), ?_⟩
    refine ⟨_, rfl, _, rfl, a, C, dx, _, _, rfl, hL, T.cl, T.nP, lf_pl n m, _, _, rfl, rfl, ⟨by omega, by omega, by decide⟩, _, _, rfl, rfl, ?_⟩
    have e : decide ((1 : Int) * 2 ^ ((n : Int)).toNat ≤ i) = decide (2 ^ n ≤ i) := by
      rw [pow_int]
      exact decide_eq_decide.mpr (by omega)
    show Q (.bl (decide ((1 : Int) * 2 ^ ((n : Int)).toNat ≤ i))) H
    rw [e]
    exact k H (Same.refl H)
end
end Be
end

section
set_option Elab.async false
set_option linter.all false
set_option maxRecDepth 100000
namespace Be
open PySem PySem.Spec PyProof.Rows L2
open Kqm5 (place)
abbrev sFws : Stmt := top 20
/-- the first of the least -/
theorem best_in {α : Type} (f : α → Nat) : ∀ (l : List α), 0 < l.length → ∃ i s, l[i]? = some s ∧ ∀ (j : Nat) (t : α), l[j]? = some t → f s ≤ f t ∧ (j < i → f s < f t)
  | [], h => absurd h (Nat.lt_irrefl 0)
  | [x], _ => ⟨0, x, rfl, fun j t ht => by
    match j, ht with
    | 0, ht =>
      have e : x = t := Option.some.inj ht
      subst e
      exact ⟨Nat.le_refl _, fun q => absurd q (Nat.lt_irrefl _)⟩
    | j + 1, ht => simp at ht⟩
  | x :: y :: l, _ => by
    obtain ⟨i, s, hi, hb⟩ := best_in f (y :: l) (Nat.zero_lt_succ _)
    by_cases q : f x ≤ f s
    · refine ⟨0, x, rfl, fun j t ht => ?_⟩
      match j, ht with
      | 0, ht =>
        have e : x = t := Option.some.inj ht
        subst e
        exact ⟨Nat.le_refl _, fun q => absurd q (Nat.lt_irrefl _)⟩
      | j + 1, ht => exact ⟨Nat.le_trans q (hb j t ht).1, fun q => absurd q (Nat.not_lt_zero _)⟩
    · refine ⟨i + 1, s, hi, fun j t ht => ?_⟩
      match j, ht with
      | 0, ht =>
        have e : x = t := Option.some.inj ht
        subst e
        exact ⟨by omega, fun _ => by omega⟩
      | j + 1, ht => exact ⟨(hb j t ht).1, fun q => (hb j t ht).2 (by omega)⟩
theorem first_lt {n m : Nat} (h : n ≤ 7) : Kqm5.first (Kqm5.bits n m) < 2 ^ n := by
  obtain ⟨i, s, hi, hb⟩ := best_in (fun s => (mem s).length) (enough n m) (enough_pos h)
  rw [first_is h hi hb]
  exact enough_lt (List.mem_of_getElem? hi)
/-- the sets of the fewest, rising -/
def fsets (n m : Nat) : List Nat := (enough n m).filter fun t => (mem t).length == Kqm5.fewest (Kqm5.bits n m)
theorem fsets_zero {n m : Nat} (h : n ≤ 7) : (fsets n m)[0]? = some (Kqm5.first (Kqm5.bits n m)) ∧ (mem (Kqm5.first (Kqm5.bits n m))).length = Kqm5.fewest (Kqm5.bits n m) := by
  obtain ⟨i, s, hi, hb⟩ := best_in (fun s => (mem s).length) (enough n m) (enough_pos h)
  have e1 := first_is h hi hb
  have e2 := fewest_is h hi fun j t ht => (hb j t ht).1
  rw [e1]
  refine ⟨?_, e2.symm⟩
  unfold fsets
  rw [← List.head?_eq_getElem?, List.head?_filter]
  refine find_first hi ?_ fun j y hj hy => ?_
  · rw [e2]
    exact beq_self_eq_true _
  · have := (hb j y hy).2 hj
    rw [e2]
    exact beq_eq_false_iff_ne.mpr (by omega)
theorem fsets_len {n m : Nat} (h : n ≤ 7) : (fsets n m).length ≤ 128 := by
  have h1 := List.length_filter_le (fun t => (mem t).length == Kqm5.fewest (Kqm5.bits n m)) (enough n m)
  have h2 := filter_len (fun s => decide (leftN n m s = 0)) (2 ^ n)
  have h3 : 2 ^ n ≤ 128 := Nat.pow_le_pow_right (n := 2) (by decide) h
  unfold fsets
  unfold enough at *
  omega
def spFws (C : Addr) : Sp := fun vs H Q _ => ∃ (a : Addr) (n m : Nat), vs = [.ref a] ∧ LgAt C H a n m ∧ n ≤ 7 ∧ NewL H Q (fsets n m)
def sizV : V → V
  | .int i => .int ((mem i.toNat).length : Nat)
  | v => v
section
variable {P : Program} {w : World} {K : PySem.W.Frag} {mg : Str → Option Value} {base : Heap} {C : Addr}
theorem scFws : FnScope ["league", "reached", "enough", "fewest", "chosen"] ["league"] (defScope sFws) := ⟨rfl, rfl, rfl, by decide +kernel, rfl, by decide +kernel, by decide +kernel⟩
theorem pow7 {n : Nat} (h : n ≤ 7) : 2 ^ n ≤ 128 := Nat.pow_le_pow_right (n := 2) (by decide) h
theorem sz_map (ns : List Nat) : (ns.map vi).map sizV = (ns.map fun t => (((mem t).length : Nat) : Int)).map V.int := by
  rw [List.map_map, List.map_map]
  apply List.map_congr_left
  intro x _
  show V.int ((mem ((x : Int)).toNat).length : Nat) = V.int ((mem x).length : Nat)
  rw [Int.toNat_natCast]
theorem filter_vi (ns : List Nat) (p : V → Bool) (q : Nat → Bool) (h : ∀ x ∈ ns, p (vi x) = q x) : (ns.map vi).filter p = (ns.filter q).map vi := by
  rw [List.filter_map]
  congr 1
  apply List.filter_congr
  intro x hx
  exact h x hx
theorem okFws (T : Txt K mg C) (F : Df K mg "fewest_sets" sFws ["league"]) (cR : Cal P w K mg base 5 "reaches" ["league"] (spRch C)) (cL : Cal P w K mg base 2 "left_by" ["reached", "chosen"] (spLft K)) (cS : Cal P w K mg base 2 "set_size" ["chosen"] spSiz) :
    Cal P w K mg base 6 "fewest_sets" ["league"] (spFws C) := by
  refine F.cal scFws (fun vs H Q E h => ?_) (fun f cdv A outer s H vs Q E hr h => ?_)
  · obtain ⟨a, n, m, rfl, _⟩ := h
    rfl
  · obtain ⟨a, n, m, rfl, hL, hn, k⟩ := h
    have nd := scFws.nd
    have hr2 : Room 2 _ := hr.mono (by decide)
    have h7 := pow7 hn
    refine ⟨_, pss_cons (ps_set (i := 1) nd rfl (Or.inr rfl) (pe_cal cR hr (pa_cons (pv 0) pa_nil)))
      (pss_cons (ps_setLc (i := 2) (own := [("chosen", 4)]) (g := gName 4) (by rfl) nd rfl rfl (sw_true rfl rfl rfl (by decide +kernel)) (pi_range1 rfl T.range (pa_cons (pe_op op_shl pe_int (pe_fld (pv 0) rfl)) pa_nil))
        (blkOk_by (own := [("chosen", 4)]) (N := ["league", "reached", "enough", "fewest", "chosen"]) (sc := defScope sFws) (by decide +kernel)) (fun _ _ _ _ _ => pg_name (i := 4) nd rfl (Or.inl rfl))
        (fun _ _ _ _ _ => pts_one (pt_cmpR op_eq (pe_cal cL hr2 (pa_cons (pv 1) (pa_cons (pv 4) pa_nil))) pe_int (nomark _))) (fun _ _ _ _ _ => pv 4))
      (pss_cons (ps_set (i := 3) nd rfl (Or.inr rfl) (pe_callB (cr_min rfl) (by rfl) T.min (by decide +kernel) (pa_cons (pe_lc (own := [("chosen", 4)]) (g := gName 4) (by rfl) nd (pi_list (pv 2))
        (blkOk_by (own := [("chosen", 4)]) (N := ["league", "reached", "enough", "fewest", "chosen"]) (sc := defScope sFws) (by decide +kernel)) (fun _ _ _ _ _ => pg_name (i := 4) nd rfl (Or.inl rfl))
        (fun _ _ _ _ _ => pts_nil) (fun _ _ _ _ _ => pe_cal cS hr2 (pa_cons (pv 4) pa_nil))) pa_nil)))
      (pss_one (ps_ret (pe_lc (own := [("chosen", 4)]) (g := gName 4) (by rfl) nd (pi_list (pv 2))
        (blkOk_by (own := [("chosen", 4)]) (N := ["league", "reached", "enough", "fewest", "chosen"]) (sc := defScope sFws) (by decide +kernel)) (fun _ _ _ _ _ => pg_name (i := 4) nd rfl (Or.inl rfl))
        (fun _ _ _ _ _ => pts_one (pt_cmpR op_eq (pe_cal cS hr2 (pa_cons (pv 4) pa_nil)) (pv 3) (nomark _))) (fun _ _ _ _ _ => pv 4)))))), ?_⟩
    refine ⟨_, rfl, a, n, m, rfl, hL, hn, fun H1 r s1 hr1 h1 => ?_⟩
    obtain ⟨dx, hL'⟩ := hL.same s1
    refine ⟨_, rfl, a, C, dx, _, _, rfl, hL', T.cl, T.nP, lf_pl n m, _, _, rfl, rfl, ⟨by omega, by omega, by decide⟩, _, rfl, ?_, ?_, fun D hD => ?_⟩
    · rw [pow_int]
      exact Int.le_trans (by decide) (Int.natCast_nonneg _)
    · rw [pow_int]
      omega
    have e0 : ((1 : Int) * 2 ^ ((n : Int)).toNat).toNat = 2 ^ n := by
      rw [pow_int]
      exact Int.toNat_natCast _
    show ∃ W : Nat → Nat → Hp → Prop, _ ∧ ∀ k m H, W k m H → ((Itr 0 ((1 : Int) * 2 ^ ((n : Int)).toNat).toNat).stop k H ∧ _) ∨ _
    rw [e0]
    refine lc_pure (n := 2 ^ n) (fun j => decide (leftN n m j = 0)) vi (small1000 (by omega)) hD (fun j H2 hj s2 Q1 q1 => ?_) (fun j H2 hj s2 _ Q1 q1 => ?_) fun H2 s2 h2 => ?_
    · have hjl : j < 2 ^ ((List.range n).map fun i => reach n m i).length := by
        rw [List.length_map, List.length_range]
        exact hj
      refine ⟨_, rfl, _, rfl, r, ((List.range n).map fun i => reach n m i), j, by simp, SqL.of (s2 _ _ h1), by rw [List.length_map, List.length_range]; exact hn, hjl, fun H3 s3 => ⟨rfl, _, rfl, ?_⟩⟩
      have e : decide (V.int ((leftR ((List.range n).map fun i => reach n m i) j : Nat) : Int) = V.int 0) = decide (leftN n m j = 0) := by
        rw [leftR_eq hj]
        exact decide_eq_decide.mpr ⟨fun q => by injection q with q; omega, fun q => by rw [q]; rfl⟩
      rw [e]
      exact q1 H3 s3
    · refine ⟨_, rfl, ?_⟩
      show Q1 (V.int (0 + (j : Int))) H2
      rw [Int.zero_add]
      exact q1 H2 (Same.refl H2)
    · have h2 : H2 D = some (.lst ((enough n m).map vi)) := h2
      have el : ((enough n m).map vi).length ≤ sizeLine := by
        have := filter_len (fun s => decide (leftN n m s = 0)) (2 ^ n)
        rw [List.length_map]
        unfold enough
        exact Nat.le_of_lt (small1000 (by omega))
      -- the least size
      refine ⟨_, rfl, D, rfl, ⟨_, SqL.of h2⟩, fun D2 hD2 => ?_⟩
      refine lc_pureL (xs := (enough n m).map vi) sizV el hD2 (SqL.of h2) (fun x H3 hm s3 Q1 q1 => ?_) fun H3 s3 h3 => ?_
      · obtain ⟨y, hy, rfl⟩ := List.mem_map.mp hm
        have hy2 := enough_lt hy
        exact ⟨_, rfl, y, rfl, by omega, fun H4 s4 => q1 H4 s4⟩
      · refine ⟨D2, _, rfl, SqL.of (by rw [h3, sz_map]), by rw [List.length_map]; exact enough_pos hn, fun x hx hle => ?_⟩
        obtain ⟨t0, ht0, rfl⟩ := List.mem_map.mp hx
        obtain ⟨i0, hi0⟩ := List.getElem?_of_mem ht0
        have ef : Kqm5.fewest (Kqm5.bits n m) = (mem t0).length := fewest_is hn hi0 fun j t ht => by
          have := hle _ (List.mem_map.mpr ⟨t, List.mem_of_getElem? ht, rfl⟩)
          omega
        rw [← ef]
        -- those of that size
        have s23 := s2.trans s3
        refine ⟨_, rfl, D, rfl, ⟨_, SqL.of (s3 _ _ h2)⟩, fun D3 hD3 => ?_⟩
        refine lc_pureF (xs := (enough n m).map vi) (fun v => match v with | .int i => (mem i.toNat).length == Kqm5.fewest (Kqm5.bits n m) | _ => false) id el hD3 (SqL.of (s3 _ _ h2)) (fun x H4 hm s4 Q1 q1 => ?_) (fun x H4 hm s4 _ Q1 q1 => ?_) fun H4 s4 h4 => ?_
        · obtain ⟨y, hy, rfl⟩ := List.mem_map.mp hm
          have hy2 := enough_lt hy
          refine ⟨_, rfl, y, rfl, by omega, fun H5 s5 => ⟨_, rfl, rfl, _, rfl, ?_⟩⟩
          have e : decide (V.int (((mem y).length : Nat) : Int) = V.int ((Kqm5.fewest (Kqm5.bits n m) : Nat) : Int)) = ((mem ((y : Int)).toNat).length == Kqm5.fewest (Kqm5.bits n m)) := by
            rw [Int.toNat_natCast, Bool.eq_iff_iff, decide_eq_true_eq, beq_iff_eq]
            exact ⟨fun q => by injection q with q; omega, fun q => by rw [q]⟩
          rw [e]
          exact q1 H5 s5
        · exact ⟨_, rfl, q1 H4 (Same.refl H4)⟩
        · refine k H4 D3 (s1.trans (s23.trans s4)) ((s1.trans s23).free hD3) ?_
          rw [h4, List.map_id, filter_vi _ _ (fun t => (mem t).length == Kqm5.fewest (Kqm5.bits n m)) fun x _ => ?_]
          · rfl
          · show ((mem ((x : Int)).toNat).length == Kqm5.fewest (Kqm5.bits n m)) = _
            rw [Int.toNat_natCast]
end
end Be
end

section
set_option Elab.async false
set_option linter.all false
set_option maxRecDepth 100000
namespace Be
open PySem PySem.Spec PyProof.Rows L2
open Kqm5 (place)
/-! ### what a call does: the players and the games' number, then what is answered -/
abbrev Ans := Nat → Nat → List Nat → (Nat × Nat) × List Int
def gStart : Ans := fun n m as => if as.getD 0 0 < 1 ∨ 7 < as.getD 0 0 then ((n, m), [-22]) else ((as.getD 0 0, 0), [0])
def gGames : Ans := fun n m as => if 2 ^ gms n ≤ as.getD 0 0 then ((n, m), [-22]) else ((n, as.getD 0 0), [(gms n : Nat)])
def gTurn : Ans := fun n m as => if n ≤ as.getD 0 0 ∨ n ≤ as.getD 1 0 then ((n, m), [-2]) else if as.getD 0 0 = as.getD 1 0 then ((n, m), [-22]) else
  ((n, m ^^^ 2 ^ place n (as.getD 0 0) (as.getD 1 0)), [if bt n m (as.getD 0 0) (as.getD 1 0) then ((as.getD 1 0 : Nat) : Int) else ((as.getD 0 0 : Nat) : Int)])
def gBeats : Ans := fun n m as => ((n, m), if n ≤ as.getD 0 0 ∨ n ≤ as.getD 1 0 then [-2] else [if bt n m (as.getD 0 0) (as.getD 1 0) then 1 else 0])
def gWins : Ans := fun n m as => ((n, m), if n ≤ as.getD 0 0 then [-2] else [((beaten n m (as.getD 0 0)).length : Nat)])
def gCovers : Ans := fun n m as => ((n, m), if 2 ^ n ≤ as.getD 0 0 then [-22] else [if leftN n m (as.getD 0 0) = 0 then 1 else 0])
def tellN (l : List Nat) : List Int := (l.length : Int) :: l.map fun (x : Nat) => (x : Int)
def gLeft : Ans := fun n m as => ((n, m), if 2 ^ n ≤ as.getD 0 0 then [-22] else tellN (mem (leftN n m (as.getD 0 0))))
def gFewest : Ans := fun n m _ => ((n, m), [(Kqm5.fewest (Kqm5.bits n m) : Nat)])
def gFirst : Ans := fun n m _ => ((n, m), (Kqm5.first (Kqm5.bits n m) : Int) :: (mem (Kqm5.first (Kqm5.bits n m))).map fun (x : Nat) => (x : Int))

/-- all that is tracked stays, but the league at a -/
def Keeps (a : Addr) (H H' : Hp) : Prop := ∀ b o, b ≠ a → H b = some o → H' b = some o
theorem Keeps.refl (a : Addr) (H : Hp) : Keeps a H H := fun _ _ _ h => h
theorem Keeps.same {a : Addr} {H H' H2 : Hp} (k : Keeps a H H') (s : Same H' H2) : Keeps a H H2 := fun b o hb h => s b o (k b o hb h)
theorem _root_.L2.Same.keeps {a : Addr} {H H' : Hp} (s : Same H H') : Keeps a H H' := fun b o _ h => s b o h
theorem Keeps.put {a : Addr} {H H' : Hp} {o : HO} (k : Keeps a H H') : Keeps a H (upd H' a o) := fun b u hb h => by
  rw [upd_ne hb]
  exact k b u hb h
def spA (C : Addr) (ok : Nat → Nat → List Nat → Prop) (g : Ans) : Sp := fun vs H Q _ => ∃ (a b : Addr) (n m : Nat) (as : List Nat), vs = [.ref a, .ref b] ∧ LgAt C H a n m ∧ H b = some (.lst (as.map vi)) ∧ ok n m as ∧
  ∀ (H' : Hp) (p : Addr), LgAt C H' a (g n m as).1.1 (g n m as).1.2 → Keeps a H H' → H p = none → H' p = some (.lst ((g n m as).2.map V.int)) → Q (.ref p) H'
theorem LgAt.ne {C : Addr} {H : Hp} {a l : Addr} {n m : Nat} (h : LgAt C H a n m) (hl : H l = none) : l ≠ a := by
  obtain ⟨dx, e⟩ := h
  intro q
  subst q
  rw [e] at hl
  cases hl
/-- a new list is handed back -/
theorem fin {C : Addr} {H H0 : Hp} {a l : Addr} {n m : Nat} {vs : List V} (hL : LgAt C H0 a n m) (hk : Keeps a H H0) (hl : H0 l = none) : LgAt C (upd H0 l (.lst vs)) a n m ∧ Keeps a H (upd H0 l (.lst vs)) ∧ H l = none := by
  have ne := hL.ne hl
  refine ⟨hL.same (Same.upd (Same.refl H0) hl), hk.same (Same.upd (Same.refl H0) hl), ?_⟩
  cases e : H l with
  | none => rfl
  | some o =>
    rw [hk l o ne e] at hl
    cases hl
theorem ne_pn : ¬ ("players" : Str) = "number" := by decide
theorem lf_eq (n m : Nat) : lf n m = [(("players" : Str), V.int (n : Int)), (("number" : Str), V.int (m : Int))] := by
  simp only [lf, putF, if_neg ne_pn]
theorem put_pl (n m x : Nat) : putF "players" (.int x) (lf n m) = lf x m := by
  rw [lf_eq, lf_eq]
  simp only [putF, if_pos]
theorem put_nu (n m x : Nat) : putF "number" (.int x) (lf n m) = lf n x := by
  rw [lf_eq, lf_eq]
  simp only [putF, if_neg ne_pn, if_pos]
/-- the written numbers of the top -/
structure Nums (mg : Str → Option Value) : Prop where
  oor : ∃ t, mg "OUT_OF_RANGE" = some (.int (-22) t)
  nsp : ∃ t, mg "NO_SUCH_PLAYER" = some (.int (-2) t)
  nst : ∃ t, mg "NOT_STARTED" = some (.int (-11) t)
  most : ∃ t, mg "MOST_PLAYERS" = some (.int 7 t)
  start : ∃ t, mg "START" = some (.int 0 t)
  need : ∃ t, mg "MOST_NEEDED_FOR" = some (.int 20 t)
theorem relI {i : Int} {t : Tok} : RelV (.int i) (.int i t) := ⟨t, rfl⟩
theorem at0 {as : List Nat} (h : 0 < as.length) : atI (as.map vi) 0 = some (vi (as.getD 0 0)) := at_of (j := 0) rfl (by
  rw [List.getElem?_map, List.getElem?_eq_getElem h]
  simp [h])
theorem at1 {as : List Nat} (h : 1 < as.length) : atI (as.map vi) 1 = some (vi (as.getD 1 0)) := at_of (j := 1) rfl (by
  rw [List.getElem?_map, List.getElem?_eq_getElem h]
  simp [h])
abbrev psA : List Str := ["league", "numbers"]
section
variable {P : Program} {w : World} {K : PySem.W.Frag} {mg : Str → Option Value} {base : Heap} {C : Addr}
abbrev sSta : Stmt := top 30
theorem scSta : FnScope ["league", "numbers", "players"] psA (defScope sSta) := ⟨rfl, rfl, rfl, by decide +kernel, rfl, by decide +kernel, by decide +kernel⟩
theorem okSta (T : Txt K mg C) (N : Nums mg) (F : Df K mg "answer_start" sSta psA) : Cal P w K mg base 1 "answer_start" psA (spA C (fun _ _ as => 0 < as.length) gStart) := by
  refine F.cal scSta (fun vs H Q E h => ?_) (fun f cdv A outer s H vs Q E hr h => ?_)
  · obtain ⟨a, b, n, m, as, rfl, _⟩ := h
    rfl
  · obtain ⟨a, b, n, m, as, rfl, hL, hb, ok, k⟩ := h
    have nd := scSta.nd
    obtain ⟨t1, h1⟩ := N.oor
    obtain ⟨t2, h2⟩ := N.most
    refine ⟨_, pss_cons (ps_set (i := 2) nd rfl (Or.inl rfl) (pe_ix ix_list (pv 1) pe_int (fun _ _ => rfl)))
      (pss_cons (ps_if (PW.pt (pw_or (pt_cmpR op_lt (pv 2) pe_int (nomark _)) (pw_or1 (pt_cmpR op_gt (pv 2) (pe_glob rfl h2 relI) (nomark _))))) (pss_one (ps_ret (pe_lst (pa_cons (pe_glob rfl h1 relI) pa_nil)))) pss_nil)
      (pss_cons (ps_fld (pv 0) (pv 2) rfl) (pss_cons (ps_fld (pv 0) pe_int rfl) (pss_one (ps_ret (pe_lst (pa_cons pe_int pa_nil))))))), ?_⟩
    obtain ⟨dx, hL'⟩ := id hL
    refine ⟨_, rfl, b, _, _, _, rfl, rfl, SqL.of hb, at0 ok, ?_⟩
    have bad : (as.getD 0 0 < 1 ∨ 7 < as.getD 0 0) → 1 ≤ sizeLine ∧ ∀ p, H p = none → Q (.ref p) (upd H p (.lst [.int (-22)])) := fun q => ⟨by decide, fun p hp => by
      have e : gStart n m as = ((n, m), [-22]) := if_pos q
      obtain ⟨f1, f2, f3⟩ := fin (vs := [.int (-22)]) hL (Keeps.refl a H) hp
      rw [e] at k
      exact k _ p f1 f2 f3 upd_same⟩
    have good : ¬ (as.getD 0 0 < 1 ∨ 7 < as.getD 0 0) → gStart n m as = ((as.getD 0 0, 0), [0]) := fun q => if_neg q
    refine ⟨_, rfl, _, _, rfl, rfl, _, rfl, ite2 (fun q => ?_) fun q => ?_⟩
    · refine iteT (bad (.inl ?_))
      have := of_decide_eq_true q
      omega
    · refine ⟨_, rfl, _, _, rfl, rfl, _, rfl, ite2 (fun q2 => ?_) fun q2 => ?_⟩
      · refine bad (.inr ?_)
        have := of_decide_eq_true q2
        omega
      · have c1 : ¬ (((as.getD 0 0 : Nat) : Int) < 1) := fun z => q (decide_eq_true z)
        have c2 : ¬ ((7 : Int) < ((as.getD 0 0 : Nat) : Int)) := fun z => q2 (decide_eq_true z)
        rw [good (by omega)] at k
        refine ⟨_, rfl, _, rfl, a, C, dx, _, rfl, hL', T.cl, T.nP, (by rw [lf_eq]; show 2 < 1000; decide), ?_⟩
        have u1 : upd H a (.ins C dx (putF "players" (.int ((as.getD 0 0 : Nat) : Int)) (lf n m))) a = some (.ins C dx (lf (as.getD 0 0) m)) := by rw [upd_same, put_pl]
        refine ⟨_, rfl, a, C, dx, _, rfl, u1, T.cl, T.nN, (by rw [lf_eq]; show 2 < 1000; decide), ?_⟩
        refine ⟨by decide, fun p hp => ?_⟩
        have hL2 : LgAt C (upd (upd H a (.ins C dx (putF "players" (.int ((as.getD 0 0 : Nat) : Int)) (lf n m)))) a (.ins C dx (putF "number" (.int 0) (lf (as.getD 0 0) m)))) a (as.getD 0 0) 0 := ⟨dx, by
          rw [upd_same]
          exact congrArg (fun q => some (HO.ins C dx q)) (put_nu (as.getD 0 0) m 0)⟩
        obtain ⟨f1, f2, f3⟩ := fin (vs := [.int 0]) hL2 (Keeps.put (Keeps.put (Keeps.refl a H))) hp
        exact k _ p f1 f2 f3 upd_same
end
end Be
end

section
set_option Elab.async false
set_option linter.all false
set_option maxRecDepth 100000
namespace Be
open PySem PySem.Spec PyProof.Rows L2
open Kqm5 (place)
theorem bt_turn {n m i j : Nat} (ne : i ≠ j) : bt n (m ^^^ 2 ^ place n i j) i j = !bt n m i j := by
  unfold bt
  have e : (m ^^^ 2 ^ place n i j).testBit (place n i j) = !m.testBit (place n i j) := by
    rw [Nat.testBit_xor, Nat.testBit_two_pow_self]
    cases m.testBit (place n i j) <;> rfl
  rw [e]
  rcases Nat.lt_or_gt_of_ne ne with h | h
  · rw [if_pos h, if_pos h]
  · rw [if_neg (by omega), if_neg (by omega), decide_eq_true (show j < i from h), Bool.true_and, Bool.true_and]
theorem one_le : 1 ≤ sizeLine := by decide
section
variable {P : Program} {w : World} {K : PySem.W.Frag} {mg : Str → Option Value} {base : Heap} {C : Addr}
abbrev sGam : Stmt := top 31
abbrev sTur : Stmt := top 32
abbrev sBea : Stmt := top 33
abbrev sWin : Stmt := top 34
abbrev sCov : Stmt := top 35
abbrev sLef : Stmt := top 36
abbrev sFew : Stmt := top 37
abbrev sFir : Stmt := top 38
def okG (k : Nat) : Nat → Nat → List Nat → Prop := fun n _ as => n ≤ 7 ∧ k ≤ as.length
theorem scGam : FnScope ["league", "numbers", "number", "games"] psA (defScope sGam) := ⟨rfl, rfl, rfl, by decide +kernel, rfl, by decide +kernel, by decide +kernel⟩
theorem okGam (T : Txt K mg C) (N : Nums mg) (F : Df K mg "answer_games" sGam psA) (cG : Cal P w K mg base 1 "how_many_games" ["players"] spGms) : Cal P w K mg base 2 "answer_games" psA (spA C (okG 1) gGames) := by
  refine F.cal scGam (fun vs H Q E h => ?_) (fun f cdv A outer s H vs Q E hr h => ?_)
  · obtain ⟨a, b, n, m, as, rfl, _⟩ := h
    rfl
  · obtain ⟨a, b, n, m, as, rfl, hL, hb, ⟨hn, ok⟩, k⟩ := h
    have nd := scGam.nd
    obtain ⟨t1, h1⟩ := N.oor
    refine ⟨_, pss_cons (ps_set (i := 2) nd rfl (Or.inl rfl) (pe_ix ix_list (pv 1) pe_int (fun _ _ => rfl)))
      (pss_cons (ps_set (i := 3) nd rfl (Or.inl rfl) (pe_cal cG hr (pa_cons (pe_fld (pv 0) rfl) pa_nil)))
      (pss_cons (ps_if (pt_cmpR op_ge (pv 2) (pe_op op_shl pe_int (pv 3)) (nomark _)) (pss_one (ps_ret (pe_lst (pa_cons (pe_glob rfl h1 relI) pa_nil)))) pss_nil)
      (pss_cons (ps_fld (pv 0) (pv 2) rfl) (pss_one (ps_ret (pe_lst (pa_cons (pv 3) pa_nil))))))), ?_⟩
    obtain ⟨dx, hL'⟩ := id hL
    refine ⟨_, rfl, b, _, _, _, rfl, rfl, SqL.of hb, at0 ok, ?_⟩
    refine ⟨_, rfl, a, C, dx, _, _, rfl, hL', T.cl, T.nP, lf_pl n m, n, rfl, hn, fun H1 s1 => ?_⟩
    have g21 : gms n ≤ 21 := (show ∀ n : Nat, n < 8 → gms n ≤ 21 by decide) n (by omega)
    refine ⟨_, rfl, _, rfl, _, _, rfl, rfl, ⟨by omega, by omega, by decide⟩, _, _, rfl, rfl, _, rfl, ite2 (fun q => ?_) fun q => ?_⟩
    · have q1 : (1 : Int) * 2 ^ ((gms n : Nat) : Int).toNat ≤ ((as.getD 0 0 : Nat) : Int) := of_decide_eq_true q
      rw [pow_int] at q1
      have e : gGames n m as = ((n, m), [-22]) := if_pos (by omega)
      rw [e] at k
      refine ⟨by decide, fun p hp => ?_⟩
      obtain ⟨f1, f2, f3⟩ := fin (vs := [.int (-22)]) (hL.same s1) s1.keeps hp
      exact k _ p f1 f2 f3 upd_same
    · have q1 : ¬ (1 : Int) * 2 ^ ((gms n : Nat) : Int).toNat ≤ ((as.getD 0 0 : Nat) : Int) := fun z => q (decide_eq_true z)
      rw [pow_int] at q1
      have e : gGames n m as = ((n, as.getD 0 0), [((gms n : Nat) : Int)]) := if_neg (by omega)
      rw [e] at k
      obtain ⟨dx1, hL1⟩ := hL.same s1
      refine ⟨_, rfl, _, rfl, a, C, dx1, _, rfl, hL1, T.cl, T.nN, (by rw [lf_eq]; show 2 < 1000; decide), ?_⟩
      refine ⟨_, rfl, one_le, fun p hp => ?_⟩
      have hL2 : LgAt C (upd H1 a (.ins C dx1 (putF "number" (.int ((as.getD 0 0 : Nat) : Int)) (lf n m)))) a n (as.getD 0 0) := ⟨dx1, by rw [upd_same, put_nu]⟩
      obtain ⟨f1, f2, f3⟩ := fin (vs := [.int ((gms n : Nat) : Int)]) hL2 (Keeps.put s1.keeps) hp
      exact k _ p f1 f2 f3 upd_same

theorem scTur : FnScope ["league", "numbers", "one", "other"] psA (defScope sTur) := ⟨rfl, rfl, rfl, by decide +kernel, rfl, by decide +kernel, by decide +kernel⟩
theorem okTur (T : Txt K mg C) (N : Nums mg) (F : Df K mg "answer_turn" sTur psA) (cM : Cal P w K mg base 1 "is_missing" ["league", "one"] (spMis C)) (cW : Cal P w K mg base 1 "game_weight" ["players", "one", "other"] spWgt)
    (cD : Cal P w K mg base 2 "did_beat" ["league", "one", "other"] (spDid C)) : Cal P w K mg base 3 "answer_turn" psA (spA C (okG 2) gTurn) := by
  refine F.cal scTur (fun vs H Q E h => ?_) (fun f cdv A outer s H vs Q E hr h => ?_)
  · obtain ⟨a, b, n, m, as, rfl, _⟩ := h
    rfl
  · obtain ⟨a, b, n, m, as, rfl, hL, hb, ⟨hn, ok⟩, k⟩ := h
    have nd := scTur.nd
    have hr1 : Room 1 _ := hr.mono (by decide)
    obtain ⟨t1, h1⟩ := N.oor
    obtain ⟨t2, h2⟩ := N.nsp
    refine ⟨_, pss_cons (ps_set (i := 2) nd rfl (Or.inl rfl) (pe_ix ix_list (pv 1) pe_int (fun _ _ => rfl)))
      (pss_cons (ps_set (i := 3) nd rfl (Or.inl rfl) (pe_ix ix_list (pv 1) pe_int (fun _ _ => rfl)))
      (pss_cons (ps_if (PW.pt (pw_or (pt_val (pe_cal cM hr1 (pa_cons (pv 0) (pa_cons (pv 2) pa_nil)))) (pw_or1 (pt_val (pe_cal cM hr1 (pa_cons (pv 0) (pa_cons (pv 3) pa_nil))))))) (pss_one (ps_ret (pe_lst (pa_cons (pe_glob rfl h2 relI) pa_nil)))) pss_nil)
      (pss_cons (ps_if (pt_cmpR op_eq (pv 2) (pv 3) (nomark _)) (pss_one (ps_ret (pe_lst (pa_cons (pe_glob rfl h1 relI) pa_nil)))) pss_nil)
      (pss_cons (ps_fld (pv 0) (pe_op op_xor (pe_fld (pv 0) rfl) (pe_cal cW hr1 (pa_cons (pe_fld (pv 0) rfl) (pa_cons (pv 2) (pa_cons (pv 3) pa_nil))))) rfl)
      (pss_one (ps_ret (pe_lst (pa_cons (pe_ifExp (pt_val (pe_cal cD hr (pa_cons (pv 0) (pa_cons (pv 2) (pa_cons (pv 3) pa_nil))))) (pv 2) (pv 3)) pa_nil)))))))), ?_⟩
    generalize hi : as.getD 0 0 = i
    generalize hj : as.getD 1 0 = j
    have a0 : atI (as.map vi) 0 = some (vi i) := by rw [← hi]; exact at0 (by omega)
    have a1 : atI (as.map vi) 1 = some (vi j) := by rw [← hj]; exact at1 (by omega)
    have miss : (n ≤ i ∨ n ≤ j) → ∀ H1, Same H H1 → 1 ≤ sizeLine ∧ ∀ p, H1 p = none → Q (.ref p) (upd H1 p (.lst [.int (-2)])) := fun q H1 s1 => ⟨by decide, fun p hp => by
      have e : gTurn n m as = ((n, m), [-2]) := if_pos (by rw [hi, hj]; exact q)
      rw [e] at k
      obtain ⟨f1, f2, f3⟩ := fin (vs := [.int (-2)]) (hL.same s1) s1.keeps hp
      exact k _ p f1 f2 f3 upd_same⟩
    refine ⟨_, rfl, b, _, _, _, rfl, rfl, SqL.of hb, a0, ?_⟩
    refine ⟨_, rfl, b, _, _, _, rfl, rfl, SqL.of hb, a1, ?_⟩
    refine ⟨_, rfl, _, rfl, a, n, m, i, rfl, hL, fun H1 s1 => ⟨_, rfl, ite2 (fun q => iteT ?_) fun q => ?_⟩⟩
    · exact miss (.inl (of_decide_eq_true q)) H1 s1
    have q' : ¬ n ≤ i := fun z => q (decide_eq_true z)
    refine ⟨_, rfl, _, rfl, a, n, m, j, rfl, hL.same s1, fun H2 s2 => ⟨_, rfl, ite2 (fun q2 => ?_) fun q2 => ?_⟩⟩
    · exact miss (.inr (of_decide_eq_true q2)) H2 (s1.trans s2)
    have q2' : ¬ n ≤ j := fun z => q2 (decide_eq_true z)
    have s12 := s1.trans s2
    refine ⟨_, rfl, _, rfl, rfl, _, rfl, ite2 (fun q3 => ?_) fun q3 => ?_⟩
    · have e1 : i = j := by
        have z : vi i = vi j := of_decide_eq_true q3
        injection z with z
        omega
      have e : gTurn n m as = ((n, m), [-22]) := by
        unfold gTurn
        rw [hi, hj, if_neg (by omega), if_pos e1]
      rw [e] at k
      refine ⟨by decide, fun p hp => ?_⟩
      obtain ⟨f1, f2, f3⟩ := fin (vs := [.int (-22)]) (hL.same s12) s12.keeps hp
      exact k _ p f1 f2 f3 upd_same
    have ne : i ≠ j := fun z => q3 (by rw [z]; exact decide_eq_true rfl)
    have e : gTurn n m as = ((n, m ^^^ 2 ^ place n i j), [if bt n m i j then (j : Int) else (i : Int)]) := by
      unfold gTurn
      rw [hi, hj, if_neg (by omega), if_neg ne]
    rw [e] at k
    obtain ⟨dx, hL'⟩ := hL.same s12
    refine ⟨_, rfl, a, C, dx, _, _, rfl, hL', T.cl, T.nN, lf_nu n m, _, rfl, a, C, dx, _, _, rfl, hL', T.cl, T.nP, lf_pl n m, _, rfl, _, rfl, n, i, j, rfl, hn, by omega, by omega, ne, fun H3 s3 => ?_⟩
    have hL3 := s3 _ _ hL'
    refine ⟨_, _, rfl, rfl, _, rfl, a, C, dx, _, rfl, hL3, T.cl, T.nN, (by rw [lf_eq]; show 2 < 1000; decide), ?_⟩
    have u : putF "number" (.int (Builtin.bitXor (m : Int) ((2 ^ place n i j : Nat) : Int))) (lf n m) = lf n (m ^^^ 2 ^ place n i j) := by rw [bxor_nat, put_nu]
    have hL4 : LgAt C (upd H3 a (.ins C dx (putF "number" (.int (Builtin.bitXor (m : Int) ((2 ^ place n i j : Nat) : Int))) (lf n m)))) a n (m ^^^ 2 ^ place n i j) := ⟨dx, by rw [upd_same, u]⟩
    have k4 : Keeps a H (upd H3 a (.ins C dx (putF "number" (.int (Builtin.bitXor (m : Int) ((2 ^ place n i j : Nat) : Int))) (lf n m)))) := Keeps.put (s12.trans s3).keeps
    refine ⟨_, rfl, _, rfl, _, rfl, a, n, m ^^^ 2 ^ place n i j, i, j, rfl, hL4, hn, by omega, by omega, fun H5 s5 => ⟨_, rfl, ?_⟩⟩
    rw [bt_turn ne]
    have fi : ∀ p v, H5 p = none → v = (if bt n m i j then (j : Int) else (i : Int)) → Q (.ref p) (upd H5 p (.lst [.int v])) := fun p v hp ev => by
      obtain ⟨f1, f2, f3⟩ := fin (vs := [.int v]) (hL4.same s5) (k4.same s5) hp
      subst ev
      exact k _ p f1 f2 f3 upd_same
    cases hbt : bt n m i j with
    | true => exact iteF ⟨_, rfl, one_le, fun p hp => fi p _ hp (by rw [hbt]; rfl)⟩
    | false => exact iteT ⟨_, rfl, one_le, fun p hp => fi p _ hp (by rw [hbt]; rfl)⟩
end
end Be
end

section
set_option Elab.async false
set_option linter.all false
set_option maxRecDepth 100000
namespace Be
open PySem PySem.Spec PyProof.Rows L2
open Kqm5 (place)
theorem vi_map (l : List Nat) : (l.map fun (x : Nat) => V.int (x : Int)) = l.map vi := rfl
theorem tell_map (l : List Nat) : V.int (l.length : Int) :: l.map vi = (tellN l).map V.int := by
  unfold tellN
  rw [List.map_cons, List.map_map]
  rfl
/-- counted's: how many, then they -/
def spCnt : Sp := fun vs H Q _ => ∃ (b : Addr) (ns : List Nat), vs = [.ref b] ∧ H b = some (.lst (ns.map vi)) ∧ ns.length ≤ 900 ∧ ∀ (H' : Hp) (p : Addr), Same H H' → H p = none → H' p = some (.lst ((tellN ns).map V.int)) → Q (.ref p) H'
abbrev sCnt : Stmt := top 29
section
variable {P : Program} {w : World} {K : PySem.W.Frag} {mg : Str → Option Value} {base : Heap} {C : Addr}
theorem scBea : FnScope ["league", "numbers", "one", "other"] psA (defScope sBea) := ⟨rfl, rfl, rfl, by decide +kernel, rfl, by decide +kernel, by decide +kernel⟩
theorem okBea (T : Txt K mg C) (N : Nums mg) (F : Df K mg "answer_beats" sBea psA) (cM : Cal P w K mg base 1 "is_missing" ["league", "one"] (spMis C)) (cD : Cal P w K mg base 2 "did_beat" ["league", "one", "other"] (spDid C)) :
    Cal P w K mg base 3 "answer_beats" psA (spA C (okG 2) gBeats) := by
  refine F.cal scBea (fun vs H Q E h => ?_) (fun f cdv A outer s H vs Q E hr h => ?_)
  · obtain ⟨a, b, n, m, as, rfl, _⟩ := h
    rfl
  · obtain ⟨a, b, n, m, as, rfl, hL, hb, ⟨hn, ok⟩, k⟩ := h
    have nd := scBea.nd
    have hr1 : Room 1 _ := hr.mono (by decide)
    obtain ⟨t2, h2⟩ := N.nsp
    refine ⟨_, pss_cons (ps_set (i := 2) nd rfl (Or.inl rfl) (pe_ix ix_list (pv 1) pe_int (fun _ _ => rfl)))
      (pss_cons (ps_set (i := 3) nd rfl (Or.inl rfl) (pe_ix ix_list (pv 1) pe_int (fun _ _ => rfl)))
      (pss_cons (ps_if (PW.pt (pw_or (pt_val (pe_cal cM hr1 (pa_cons (pv 0) (pa_cons (pv 2) pa_nil)))) (pw_or1 (pt_val (pe_cal cM hr1 (pa_cons (pv 0) (pa_cons (pv 3) pa_nil))))))) (pss_one (ps_ret (pe_lst (pa_cons (pe_glob rfl h2 relI) pa_nil)))) pss_nil)
      (pss_one (ps_ret (pe_lst (pa_cons (pe_ifExp (pt_val (pe_cal cD hr (pa_cons (pv 0) (pa_cons (pv 2) (pa_cons (pv 3) pa_nil))))) pe_int pe_int) pa_nil)))))), ?_⟩
    generalize hi : as.getD 0 0 = i
    generalize hj : as.getD 1 0 = j
    have a0 : atI (as.map vi) 0 = some (vi i) := by rw [← hi]; exact at0 (by omega)
    have a1 : atI (as.map vi) 1 = some (vi j) := by rw [← hj]; exact at1 (by omega)
    have out : ∀ z, gBeats n m as = ((n, m), [z]) → ∀ H1, Same H H1 → ∀ p, H1 p = none → Q (.ref p) (upd H1 p (.lst [.int z])) := fun z e H1 s1 p hp => by
      rw [e] at k
      obtain ⟨f1, f2, f3⟩ := fin (vs := [.int z]) (hL.same s1) s1.keeps hp
      exact k _ p f1 f2 f3 upd_same
    have miss : (n ≤ i ∨ n ≤ j) → gBeats n m as = ((n, m), [-2]) := fun q => by
      unfold gBeats
      rw [hi, hj, if_pos q]
    refine ⟨_, rfl, b, _, _, _, rfl, rfl, SqL.of hb, a0, ?_⟩
    refine ⟨_, rfl, b, _, _, _, rfl, rfl, SqL.of hb, a1, ?_⟩
    refine ⟨_, rfl, _, rfl, a, n, m, i, rfl, hL, fun H1 s1 => ⟨_, rfl, ite2 (fun q => iteT ?_) fun q => ?_⟩⟩
    · exact ⟨one_le, out _ (miss (.inl (of_decide_eq_true q))) H1 s1⟩
    have q' : ¬ n ≤ i := fun z => q (decide_eq_true z)
    refine ⟨_, rfl, _, rfl, a, n, m, j, rfl, hL.same s1, fun H2 s2 => ⟨_, rfl, ite2 (fun q2 => ?_) fun q2 => ?_⟩⟩
    · exact ⟨one_le, out _ (miss (.inr (of_decide_eq_true q2))) H2 (s1.trans s2)⟩
    have q2' : ¬ n ≤ j := fun z => q2 (decide_eq_true z)
    have e : gBeats n m as = ((n, m), [if bt n m i j then 1 else 0]) := by
      unfold gBeats
      rw [hi, hj, if_neg (by omega)]
    refine ⟨_, rfl, _, rfl, _, rfl, a, n, m, i, j, rfl, hL.same (s1.trans s2), hn, by omega, by omega, fun H5 s5 => ⟨_, rfl, ?_⟩⟩
    cases hbt : bt n m i j with
    | true =>
      rw [hbt, if_pos rfl] at e
      exact iteT ⟨one_le, out 1 e H5 ((s1.trans s2).trans s5)⟩
    | false =>
      rw [hbt, if_neg Bool.false_ne_true] at e
      exact iteF ⟨one_le, out 0 e H5 ((s1.trans s2).trans s5)⟩

theorem scWin : FnScope ["league", "numbers", "one"] psA (defScope sWin) := ⟨rfl, rfl, rfl, by decide +kernel, rfl, by decide +kernel, by decide +kernel⟩
theorem okWin (T : Txt K mg C) (N : Nums mg) (F : Df K mg "answer_wins" sWin psA) (cM : Cal P w K mg base 1 "is_missing" ["league", "one"] (spMis C)) (cB : Cal P w K mg base 3 "beaten_by" ["league", "one"] (spBtn C)) :
    Cal P w K mg base 4 "answer_wins" psA (spA C (okG 1) gWins) := by
  refine F.cal scWin (fun vs H Q E h => ?_) (fun f cdv A outer s H vs Q E hr h => ?_)
  · obtain ⟨a, b, n, m, as, rfl, _⟩ := h
    rfl
  · obtain ⟨a, b, n, m, as, rfl, hL, hb, ⟨hn, ok⟩, k⟩ := h
    have nd := scWin.nd
    have hr1 : Room 1 _ := hr.mono (by decide)
    obtain ⟨t2, h2⟩ := N.nsp
    refine ⟨_, pss_cons (ps_set (i := 2) nd rfl (Or.inl rfl) (pe_ix ix_list (pv 1) pe_int (fun _ _ => rfl)))
      (pss_cons (ps_if (pt_val (pe_cal cM hr1 (pa_cons (pv 0) (pa_cons (pv 2) pa_nil)))) (pss_one (ps_ret (pe_lst (pa_cons (pe_glob rfl h2 relI) pa_nil)))) pss_nil)
      (pss_one (ps_ret (pe_lst (pa_cons (pe_callB call_len_seq (by rfl) T.len PySem.boot_len (pa_cons (pe_cal cB hr (pa_cons (pv 0) (pa_cons (pv 2) pa_nil))) pa_nil)) pa_nil))))), ?_⟩
    generalize hi : as.getD 0 0 = i
    have a0 : atI (as.map vi) 0 = some (vi i) := by rw [← hi]; exact at0 (by omega)
    have out : ∀ z, gWins n m as = ((n, m), [z]) → ∀ H1, Same H H1 → ∀ p, H1 p = none → Q (.ref p) (upd H1 p (.lst [.int z])) := fun z e H1 s1 p hp => by
      rw [e] at k
      obtain ⟨f1, f2, f3⟩ := fin (vs := [.int z]) (hL.same s1) s1.keeps hp
      exact k _ p f1 f2 f3 upd_same
    refine ⟨_, rfl, b, _, _, _, rfl, rfl, SqL.of hb, a0, ?_⟩
    refine ⟨_, rfl, _, rfl, a, n, m, i, rfl, hL, fun H1 s1 => ⟨_, rfl, ite2 (fun q => ?_) fun q => ?_⟩⟩
    · refine ⟨one_le, out _ ?_ H1 s1⟩
      unfold gWins
      rw [hi, if_pos (of_decide_eq_true q)]
    have q' : ¬ n ≤ i := fun z => q (decide_eq_true z)
    refine ⟨_, rfl, _, rfl, a, n, m, i, rfl, hL.same s1, hn, by omega, fun H2 r s2 hr2 h2 => ⟨r, _, rfl, .inl (SqL.of h2), one_le, ?_⟩⟩
    rw [List.length_map]
    refine out _ ?_ H2 (s1.trans s2)
    unfold gWins
    rw [hi, if_neg q']

theorem scCov : FnScope ["league", "numbers", "chosen"] psA (defScope sCov) := ⟨rfl, rfl, rfl, by decide +kernel, rfl, by decide +kernel, by decide +kernel⟩
theorem okCov (T : Txt K mg C) (N : Nums mg) (F : Df K mg "answer_covers" sCov psA) (cH : Cal P w K mg base 1 "has_missing" ["league", "chosen"] (spHas C)) (cR : Cal P w K mg base 5 "reaches" ["league"] (spRch C)) (cL : Cal P w K mg base 2 "left_by" ["reached", "chosen"] (spLft K)) :
    Cal P w K mg base 6 "answer_covers" psA (spA C (okG 1) gCovers) := by
  refine F.cal scCov (fun vs H Q E h => ?_) (fun f cdv A outer s H vs Q E hr h => ?_)
  · obtain ⟨a, b, n, m, as, rfl, _⟩ := h
    rfl
  · obtain ⟨a, b, n, m, as, rfl, hL, hb, ⟨hn, ok⟩, k⟩ := h
    have nd := scCov.nd
    have hr1 : Room 1 _ := hr.mono (by decide)
    have hr2 : Room 2 _ := hr.mono (by decide)
    obtain ⟨t1, h1⟩ := N.oor
    refine ⟨_, pss_cons (ps_set (i := 2) nd rfl (Or.inl rfl) (pe_ix ix_list (pv 1) pe_int (fun _ _ => rfl)))
      (pss_cons (ps_if (pt_val (pe_cal cH hr1 (pa_cons (pv 0) (pa_cons (pv 2) pa_nil)))) (pss_one (ps_ret (pe_lst (pa_cons (pe_glob rfl h1 relI) pa_nil)))) pss_nil)
      (pss_one (ps_ret (pe_lst (pa_cons (pe_ifExp (pt_cmpR op_eq (pe_cal cL hr2 (pa_cons (pe_cal cR hr (pa_cons (pv 0) pa_nil)) (pa_cons (pv 2) pa_nil))) pe_int (nomark _)) pe_int pe_int) pa_nil))))), ?_⟩
    generalize hi : as.getD 0 0 = i
    have a0 : atI (as.map vi) 0 = some (vi i) := by rw [← hi]; exact at0 (by omega)
    have out : ∀ z, gCovers n m as = ((n, m), [z]) → ∀ H1, Same H H1 → ∀ p, H1 p = none → Q (.ref p) (upd H1 p (.lst [.int z])) := fun z e H1 s1 p hp => by
      rw [e] at k
      obtain ⟨f1, f2, f3⟩ := fin (vs := [.int z]) (hL.same s1) s1.keeps hp
      exact k _ p f1 f2 f3 upd_same
    refine ⟨_, rfl, b, _, _, _, rfl, rfl, SqL.of hb, a0, ?_⟩
    refine ⟨_, rfl, _, rfl, a, n, m, i, rfl, hL, hn, fun H1 s1 => ⟨_, rfl, ite2 (fun q => ?_) fun q => ?_⟩⟩
    · refine ⟨one_le, out _ ?_ H1 s1⟩
      unfold gCovers
      rw [hi, if_pos (of_decide_eq_true q)]
    have q' : ¬ 2 ^ n ≤ i := fun z => q (decide_eq_true z)
    have e : gCovers n m as = ((n, m), [if leftN n m i = 0 then 1 else 0]) := by
      unfold gCovers
      rw [hi, if_neg q']
    have hl : ((List.range n).map fun i => reach n m i).length = n := by rw [List.length_map, List.length_range]
    refine ⟨_, rfl, a, n, m, rfl, hL.same s1, hn, fun H2 r s2 hr2 h2 => ⟨_, rfl, r, ((List.range n).map fun i => reach n m i), i, rfl, SqL.of h2, by rw [hl]; exact hn, by rw [hl]; omega, fun H3 s3 => ⟨rfl, _, rfl, ?_⟩⟩⟩
    rw [leftR_eq (by omega)]
    refine ite2 (fun q2 => ?_) fun q2 => ?_
    · have z : leftN n m i = 0 := by
        have z := of_decide_eq_true q2
        injection z with z
        omega
      rw [if_pos z] at e
      exact ⟨one_le, out 1 e H3 ((s1.trans s2).trans s3)⟩
    · have z : ¬ leftN n m i = 0 := fun z => q2 (decide_eq_true (by rw [z]; rfl))
      rw [if_neg z] at e
      exact ⟨one_le, out 0 e H3 ((s1.trans s2).trans s3)⟩

theorem scCnt : FnScope ["players"] ["players"] (defScope sCnt) := ⟨rfl, rfl, rfl, by decide +kernel, rfl, by decide +kernel, by decide +kernel⟩
theorem okCnt (T : Txt K mg C) (F : Df K mg "counted" sCnt ["players"]) : Cal P w K mg base 1 "counted" ["players"] spCnt := by
  refine F.cal scCnt (fun vs H Q E h => ?_) (fun f cdv A outer s H vs Q E hr h => ?_)
  · obtain ⟨b, ns, rfl, _⟩ := h
    rfl
  · obtain ⟨b, ns, rfl, hb, hl, k⟩ := h
    refine ⟨_, pss_one (ps_ret (pe_op op_cat (pe_lst (pa_cons (pe_callB call_len_seq (by rfl) T.len PySem.boot_len (pa_cons (pv 0) pa_nil)) pa_nil)) (pv 0))), ?_⟩
    refine ⟨_, rfl, b, _, rfl, .inl (SqL.of hb), one_le, fun u hu => ⟨_, rfl, ?_⟩⟩
    rw [List.length_map]
    have s5 : Same H (upd H u (.lst [.int (ns.length : Int)])) := Same.upd (Same.refl H) hu
    refine ⟨u, b, _, _, rfl, rfl, upd_same, s5 _ _ hb, ?_, fun p hp => ?_⟩
    · rw [List.length_map]
      show 1 + ns.length ≤ sizeLine
      exact Nat.le_of_lt (small1000 (by omega))
    · refine k _ p (Same.upd s5 (s5.free hp)) (s5.free hp) ?_
      rw [upd_same, ← tell_map]
      rfl
theorem scLef : FnScope ["league", "numbers", "chosen"] psA (defScope sLef) := ⟨rfl, rfl, rfl, by decide +kernel, rfl, by decide +kernel, by decide +kernel⟩
theorem okLef (T : Txt K mg C) (N : Nums mg) (F : Df K mg "answer_left" sLef psA) (cH : Cal P w K mg base 1 "has_missing" ["league", "chosen"] (spHas C)) (cR : Cal P w K mg base 5 "reaches" ["league"] (spRch C)) (cL : Cal P w K mg base 2 "left_by" ["reached", "chosen"] (spLft K))
    (cP : Cal P w K mg base 1 "players_of" ["chosen"] spPls) (cC : Cal P w K mg base 1 "counted" ["players"] spCnt) : Cal P w K mg base 6 "answer_left" psA (spA C (okG 1) gLeft) := by
  refine F.cal scLef (fun vs H Q E h => ?_) (fun f cdv A outer s H vs Q E hr h => ?_)
  · obtain ⟨a, b, n, m, as, rfl, _⟩ := h
    rfl
  · obtain ⟨a, b, n, m, as, rfl, hL, hb, ⟨hn, ok⟩, k⟩ := h
    have nd := scLef.nd
    have hr1 : Room 1 _ := hr.mono (by decide)
    have hr2 : Room 2 _ := hr.mono (by decide)
    obtain ⟨t1, h1⟩ := N.oor
    refine ⟨_, pss_cons (ps_set (i := 2) nd rfl (Or.inl rfl) (pe_ix ix_list (pv 1) pe_int (fun _ _ => rfl)))
      (pss_cons (ps_if (pt_val (pe_cal cH hr1 (pa_cons (pv 0) (pa_cons (pv 2) pa_nil)))) (pss_one (ps_ret (pe_lst (pa_cons (pe_glob rfl h1 relI) pa_nil)))) pss_nil)
      (pss_one (ps_ret (pe_cal cC hr1 (pa_cons (pe_cal cP hr1 (pa_cons (pe_cal cL hr2 (pa_cons (pe_cal cR hr (pa_cons (pv 0) pa_nil)) (pa_cons (pv 2) pa_nil))) pa_nil)) pa_nil))))), ?_⟩
    generalize hi : as.getD 0 0 = i
    have a0 : atI (as.map vi) 0 = some (vi i) := by rw [← hi]; exact at0 (by omega)
    refine ⟨_, rfl, b, _, _, _, rfl, rfl, SqL.of hb, a0, ?_⟩
    refine ⟨_, rfl, _, rfl, a, n, m, i, rfl, hL, hn, fun H1 s1 => ⟨_, rfl, ite2 (fun q => ?_) fun q => ?_⟩⟩
    · refine ⟨one_le, fun p hp => ?_⟩
      have e : gLeft n m as = ((n, m), [-22]) := by
        unfold gLeft
        rw [hi, if_pos (of_decide_eq_true q)]
      rw [e] at k
      obtain ⟨f1, f2, f3⟩ := fin (vs := [.int (-22)]) (hL.same s1) s1.keeps hp
      exact k _ p f1 f2 f3 upd_same
    have q' : ¬ 2 ^ n ≤ i := fun z => q (decide_eq_true z)
    have e : gLeft n m as = ((n, m), tellN (mem (leftN n m i))) := by
      unfold gLeft
      rw [hi, if_neg q']
    rw [e] at k
    have hl : ((List.range n).map fun i => reach n m i).length = n := by rw [List.length_map, List.length_range]
    have h7 := pow7 hn
    refine ⟨_, rfl, a, n, m, rfl, hL.same s1, hn, fun H2 r s2 hr2 h2 => ⟨_, rfl, r, ((List.range n).map fun i => reach n m i), i, rfl, SqL.of h2, by rw [hl]; exact hn, by rw [hl]; omega, fun H3 s3 => ?_⟩⟩
    rw [leftR_eq (by omega)]
    have hlt := leftN_lt (m := m) hn (show i < 2 ^ n by omega)
    refine ⟨leftN n m i, rfl, by omega, fun H4 r4 s4 hr4 h4 => ?_⟩
    have ml := mem_len hlt
    have sm : Same H H4 := (s1.trans s2).trans (s3.trans s4)
    refine ⟨r4, mem (leftN n m i), rfl, h4, by omega, fun H5 p s5 hp h5 => ?_⟩
    exact k H5 p (hL.same (sm.trans s5)) (sm.trans s5).keeps (sm.free hp) h5

theorem at00 {xs : List V} {v : V} (h : xs[0]? = some v) : atI xs 0 = some v := at_of (j := 0) rfl h
theorem scFew : FnScope ["league", "numbers"] psA (defScope sFew) := ⟨rfl, rfl, rfl, by decide +kernel, rfl, by decide +kernel, by decide +kernel⟩
theorem okFew (F : Df K mg "answer_fewest" sFew psA) (cS : Cal P w K mg base 2 "set_size" ["chosen"] spSiz) (cF : Cal P w K mg base 6 "fewest_sets" ["league"] (spFws C)) : Cal P w K mg base 7 "answer_fewest" psA (spA C (okG 0) gFewest) := by
  refine F.cal scFew (fun vs H Q E h => ?_) (fun f cdv A outer s H vs Q E hr h => ?_)
  · obtain ⟨a, b, n, m, as, rfl, _⟩ := h
    rfl
  · obtain ⟨a, b, n, m, as, rfl, hL, hb, ⟨hn, ok⟩, k⟩ := h
    have hr2 : Room 2 _ := hr.mono (by decide)
    have h7 := pow7 hn
    refine ⟨_, pss_one (ps_ret (pe_lst (pa_cons (pe_cal cS hr2 (pa_cons (pe_ix ix_list (pe_cal cF hr (pa_cons (pv 0) pa_nil)) pe_int (fun _ _ => rfl)) pa_nil)) pa_nil))), ?_⟩
    obtain ⟨z1, z2⟩ := fsets_zero (m := m) hn
    have zl := first_lt (m := m) hn
    refine ⟨_, rfl, a, n, m, rfl, hL, hn, fun H1 r s1 hr1 h1 => ⟨r, _, _, _, rfl, rfl, SqL.of h1, at00 (v := vi (Kqm5.first (Kqm5.bits n m))) (by rw [List.getElem?_map, z1]; rfl), ?_⟩⟩
    refine ⟨_, rfl, by omega, fun H2 s2 => ⟨one_le, fun p hp => ?_⟩⟩
    obtain ⟨f1, f2, f3⟩ := fin (vs := [.int ((mem (Kqm5.first (Kqm5.bits n m))).length : Nat)]) (hL.same (s1.trans s2)) (s1.trans s2).keeps hp
    refine k _ p f1 f2 f3 ?_
    rw [upd_same, z2]
    rfl
theorem scFir : FnScope ["league", "numbers", "chosen"] psA (defScope sFir) := ⟨rfl, rfl, rfl, by decide +kernel, rfl, by decide +kernel, by decide +kernel⟩
theorem okFir (F : Df K mg "answer_first" sFir psA) (cP : Cal P w K mg base 1 "players_of" ["chosen"] spPls) (cF : Cal P w K mg base 6 "fewest_sets" ["league"] (spFws C)) : Cal P w K mg base 7 "answer_first" psA (spA C (okG 0) gFirst) := by
  refine F.cal scFir (fun vs H Q E h => ?_) (fun f cdv A outer s H vs Q E hr h => ?_)
  · obtain ⟨a, b, n, m, as, rfl, _⟩ := h
    rfl
  · obtain ⟨a, b, n, m, as, rfl, hL, hb, ⟨hn, ok⟩, k⟩ := h
    have nd := scFir.nd
    have hr1 : Room 1 _ := hr.mono (by decide)
    have h7 := pow7 hn
    refine ⟨_, pss_cons (ps_set (i := 2) nd rfl (Or.inl rfl) (pe_ix ix_list (pe_cal cF hr (pa_cons (pv 0) pa_nil)) pe_int (fun _ _ => rfl))) (pss_one (ps_ret (pe_op op_cat (pe_lst (pa_cons (pv 2) pa_nil)) (pe_cal cP hr1 (pa_cons (pv 2) pa_nil))))), ?_⟩
    obtain ⟨z1, z2⟩ := fsets_zero (m := m) hn
    have hz := first_lt (m := m) hn
    refine ⟨_, rfl, a, n, m, rfl, hL, hn, fun H0 r0 s0 hr0 h0 => ⟨r0, _, _, _, rfl, rfl, SqL.of h0, at00 (v := vi (Kqm5.first (Kqm5.bits n m))) (by rw [List.getElem?_map, z1]; rfl), ?_⟩⟩
    unfold gFirst at k
    generalize Kqm5.first (Kqm5.bits n m) = z at hz k
    refine ⟨_, rfl, one_le, fun u hu => ?_⟩
    have s2 : Same H0 (upd H0 u (.lst [.int (z : Int)])) := Same.upd (Same.refl H0) hu
    refine ⟨_, rfl, z, rfl, by omega, fun H3 r s3 hr3 h3 => ?_⟩
    have ml := mem_len hz
    refine ⟨u, r, _, _, rfl, rfl, s3 _ _ upd_same, h3, ?_, fun p hp => ?_⟩
    · rw [List.length_map]
      show 1 + _ ≤ sizeLine
      exact Nat.le_of_lt (small1000 (by omega))
    · have sm : Same H H3 := (s0.trans s2).trans s3
      obtain ⟨f1, f2, f3⟩ := fin (vs := [V.int (z : Int)] ++ (mem z).map fun (x : Nat) => V.int (x : Int)) (hL.same sm) sm.keeps hp
      refine k _ p f1 f2 f3 ?_
      rw [upd_same, List.map_cons, List.map_map]
      rfl
end
end Be
end

section
set_option Elab.async false
set_option linter.all false
set_option maxRecDepth 100000
namespace Be
open PySem PySem.Spec PyProof.Rows L2
open Kqm5 (place)
abbrev sWho : Stmt := top 21
abbrev sObo : Stmt := top 22
/-- how many of r the j-th takes -/
def cnt (rs : List Nat) (r j : Nat) : Nat := (mem (r &&& rs.getD j 0)).length
/-- the first of the greatest -/
def Top (f : Nat → Nat) (l i : Nat) : Prop := i < l ∧ ∀ j, j < l → f j ≤ f i ∧ (j < i → f j < f i)
theorem top_in (f : Nat → Nat) : ∀ l, 0 < l → ∃ i, Top f l i
  | 0, h => absurd h (Nat.lt_irrefl 0)
  | 1, _ => ⟨0, Nat.zero_lt_one, fun j hj => by
    have : j = 0 := by omega
    subst this
    exact ⟨Nat.le_refl _, fun q => absurd q (Nat.lt_irrefl _)⟩⟩
  | l + 2, _ => by
    obtain ⟨i, hi, hb⟩ := top_in f (l + 1) (Nat.zero_lt_succ _)
    by_cases q : f (l + 1) ≤ f i
    · refine ⟨i, by omega, fun j hj => ?_⟩
      by_cases e : j = l + 1
      · subst e
        exact ⟨q, fun z => by omega⟩
      · exact hb j (by omega)
    · refine ⟨l + 1, by omega, fun j hj => ?_⟩
      by_cases e : j = l + 1
      · subst e
        exact ⟨Nat.le_refl _, fun z => by omega⟩
      · have := (hb j (by omega)).1
        exact ⟨by omega, fun _ => by omega⟩
def takV (r : Nat) : V → V
  | .int i => .int ((mem (r &&& i.toNat)).length : Nat)
  | v => v
theorem tak_map (r : Nat) (rs : List Nat) : (rs.map vi).map (takV r) = (rs.map fun x => (((mem (r &&& x)).length : Nat) : Int)).map V.int := by
  rw [List.map_map, List.map_map]
  apply List.map_congr_left
  intro x _
  show V.int ((mem (r &&& ((x : Int)).toNat)).length : Nat) = V.int ((mem (r &&& x)).length : Nat)
  rw [Int.toNat_natCast]
theorem cnt_get {rs : List Nat} {r j : Nat} (h : j < rs.length) : (rs.map fun x => (((mem (r &&& x)).length : Nat) : Int))[j]? = some ((cnt rs r j : Nat) : Int) := by
  rw [List.getElem?_map, List.getElem?_eq_getElem h]
  simp [cnt, h]
def spWho (K : PySem.W.Frag) : Sp := fun vs H Q _ => ∃ (b : Addr) (rs : List Nat) (r : Nat), vs = [.ref b, .int r] ∧ SqL K H b (rs.map vi) ∧ 0 < rs.length ∧ rs.length ≤ 7 ∧ r < 2 ^ 32 ∧ ∀ H' i, Same H H' → Top (cnt rs r) rs.length i → Q (.int (i : Nat)) H'
/-- who are taken: the count goes down -/
theorem part_len (p : Nat → Bool) : ∀ l : List Nat, l.length = (l.filter p).length + (l.filter fun x => !p x).length
  | [] => rfl
  | x :: l => by
    have := part_len p l
    rw [List.filter_cons, List.filter_cons]
    cases h : p x <;> simp [h] <;> omega
theorem rest_len {n m i r : Nat} (h : n ≤ 7) (hi : i < n) (hr : r < 2 ^ n) : (mem r).length = (mem (r &&& reach n m i)).length + (mem (minus r (reach n m i))).length := by
  rw [← takes_bits h hi hr, ← rest_bits h hi hr]
  exact part_len _ _
theorem and_pos {r b : Nat} (h : 0 < (mem (r &&& b)).length) : 0 < r &&& b := by
  refine Nat.pos_of_ne_zero fun q => ?_
  rw [q, mem_nil.mpr rfl] at h
  exact Nat.lt_irrefl 0 h
theorem top_takes {n m i r : Nat} (h : n ≤ 7) (hr : r < 2 ^ n) (h0 : r ≠ 0) (hb : ∀ j, j < n → (mem (r &&& reach n m j)).length ≤ (mem (r &&& reach n m i)).length) : 0 < (mem (r &&& reach n m i)).length := by
  have hne : mem r ≠ [] := fun q => h0 (mem_nil.mp q)
  obtain ⟨j, hj⟩ := List.exists_mem_of_ne_nil _ hne
  have hjn := mem_lt hr hj
  have hin : j ∈ mem (r &&& reach n m j) := by
    rw [mem_iff, Nat.testBit_and, mem_tb hj, reach_tb]
    simp
  have := List.length_pos_of_mem hin
  have := hb j hjn
  omega
theorem minus_lt {r b : Nat} (h : 0 < r &&& b) : minus r b < r := by
  have : r &&& b ≤ r := Nat.and_le_left
  unfold minus
  omega
def spObo (C : Addr) : Sp := fun vs H Q _ => ∃ (a : Addr) (n m : Nat), vs = [.ref a] ∧ LgAt C H a n m ∧ 1 ≤ n ∧ n ≤ 7 ∧ NewL H Q (Kqm5.greedy (Kqm5.bits n m) n (List.range n))
theorem reach_getD {n m j : Nat} (h : j < n) : ((List.range n).map fun i => reach n m i).getD j 0 = reach n m j := by simp [h]
/-- what the loop holds -/
def mu2 (σ : L2.St) (_ : Hp) : Nat := match (σ[2]? : Option (Option V)) with
  | some (some (V.int p)) => p.toNat
  | _ => 0
structure Taking (H0 : Hp) (a R t : Addr) (n m : Nat) (σ : L2.St) (H : Hp) (r f : Nat) (acc : List Nat) : Prop where
  sg : ∃ v, σ = [some (.ref a), some (.ref R), some (.int (r : Int)), some (.ref t), v]
  sm : Same H0 H
  hR : H R = some (.lst (((List.range n).map fun i => reach n m i).map vi))
  tl : H t = some (.lst (acc.map vi))
  rl : r < 2 ^ n
  fl : (mem r).length ≤ f
  al : acc.length + f ≤ 7
  du : acc ++ Kqm5.greedy (Kqm5.bits n m) f (mem r) = Kqm5.greedy (Kqm5.bits n m) n (List.range n)
section
variable {P : Program} {w : World} {K : PySem.W.Frag} {mg : Str → Option Value} {base : Heap} {C : Addr}
theorem scWho : FnScope ["reached", "remaining", "taken", "reach"] ["reached", "remaining"] (defScope sWho) := ⟨rfl, rfl, rfl, by decide +kernel, rfl, by decide +kernel, by decide +kernel⟩
theorem okWho (T : Txt K mg C) (F : Df K mg "who_takes_most" sWho ["reached", "remaining"]) (cS : Cal P w K mg base 2 "set_size" ["chosen"] spSiz) : Cal P w K mg base 3 "who_takes_most" ["reached", "remaining"] (spWho K) := by
  refine F.cal scWho (fun vs H Q E h => ?_) (fun f cdv A outer s H vs Q E hr h => ?_)
  · obtain ⟨b, rs, r, rfl, _⟩ := h
    rfl
  · obtain ⟨b, rs, r, rfl, hb, h0, hl, hr32, k⟩ := h
    have nd := scWho.nd
    refine ⟨_, pss_cons (ps_setLc (i := 2) (own := [("reach", 3)]) (g := gName 3) (by rfl) nd rfl rfl (sw_true rfl rfl rfl (by decide +kernel)) (pi_list (pv 0))
        (blkOk_by (own := [("reach", 3)]) (N := ["reached", "remaining", "taken", "reach"]) (sc := defScope sWho) (by decide +kernel)) (fun _ _ _ _ _ => pg_name (i := 3) nd rfl (Or.inl rfl))
        (fun _ _ _ _ _ => pts_nil) (fun _ _ _ _ _ => pe_cal cS hr (pa_cons (pe_op op_and (pv 3) (pv 1)) pa_nil)))
      (pss_one (ps_ret (pe_bm PySem.F.plainAttrs_list PySem.F.slot_list_index PySem.F.type_list_index mt_index (pv 2) (pa_cons (pe_callB (cr_max rfl) (by rfl) T.max (by decide +kernel) (pa_cons (pv 2) pa_nil)) pa_nil)))), ?_⟩
    refine ⟨_, rfl, b, rfl, ⟨_, hb⟩, fun D hD => ?_⟩
    refine lc_pureL (xs := rs.map vi) (takV r) (by rw [List.length_map]; exact Nat.le_of_lt (small7 hl)) hD hb (fun x H1 hm s1 Q1 q1 => ?_) fun H1 s1 h1 => ?_
    · obtain ⟨y, hy, rfl⟩ := List.mem_map.mp hm
      refine ⟨_, rfl, _, rfl, _, _, rfl, rfl, ?_⟩
      refine ⟨r &&& y, ?_, Nat.lt_of_le_of_lt Nat.and_le_left hr32, fun H2 s2 => ?_⟩
      · show [V.int (Builtin.bitAnd (y : Int) (r : Int))] = _
        rw [band_nat, Nat.and_comm]
      · exact q1 H2 s2
    · have h2 : H1 D = some (.lst ((rs.map fun x => (((mem (r &&& x)).length : Nat) : Int)).map V.int)) := by rw [h1, tak_map]
      refine ⟨_, rfl, .inl ⟨rfl, _, SqL.of h2⟩, _, rfl, D, _, rfl, SqL.of h2, by rw [List.length_map]; exact h0, fun x hx hle => ?_⟩
      obtain ⟨i, hi, ht⟩ := top_in (cnt rs r) rs.length h0
      have ex : x = ((cnt rs r i : Nat) : Int) := by
        have h1 := hle _ (List.mem_of_getElem? (cnt_get (r := r) hi))
        obtain ⟨j, hj⟩ := List.getElem?_of_mem hx
        have hjl : j < rs.length := by
          have := (List.getElem?_eq_some_iff.mp hj).1
          rw [List.length_map] at this
          exact this
        rw [cnt_get hjl] at hj
        have := (ht j hjl).1
        have := Option.some.inj hj
        omega
      subst ex
      refine ⟨D, _, _, i, V.int ((cnt rs r i : Nat) : Int), rfl, rfl, SqL.of h2, rfl, ?_, ?_, ?_, fun j z' hj hz' => ?_, k H1 i s1 ⟨hi, ht⟩⟩
      · rw [List.all_map]
        exact List.all_eq_true.mpr fun _ _ => rfl
      · rw [List.getElem?_map, cnt_get hi]
        rfl
      · show (((cnt rs r i : Nat) : Int) == ((cnt rs r i : Nat) : Int)) = true
        exact beq_self_eq_true _
      · rw [List.getElem?_map, cnt_get (by omega)] at hz'
        have := Option.some.inj hz'
        subst this
        show (((cnt rs r j : Nat) : Int) == ((cnt rs r i : Nat) : Int)) = false
        have := (ht j (by omega)).2 hj
        exact beq_eq_false_iff_ne.mpr (by omega)

theorem scObo : FnScope ["league", "reached", "remaining", "taken", "one"] ["league"] (defScope sObo) := ⟨rfl, rfl, rfl, by decide +kernel, rfl, by decide +kernel, by decide +kernel⟩
theorem okObo (T : Txt K mg C) (F : Df K mg "one_by_one" sObo ["league"]) (cR : Cal P w K mg base 5 "reaches" ["league"] (spRch C)) (cL : Cal P w K mg base 2 "left_by" ["reached", "chosen"] (spLft K)) (cW : Cal P w K mg base 3 "who_takes_most" ["reached", "remaining"] (spWho K)) :
    Cal P w K mg base 6 "one_by_one" ["league"] (spObo C) := by
  refine F.cal scObo (fun vs H Q E h => ?_) (fun f cdv A outer s H vs Q E hr h => ?_)
  · obtain ⟨a, n, m, rfl, _⟩ := h
    rfl
  · obtain ⟨a, n, m, rfl, hL, h1n, hn, k⟩ := h
    have nd := scObo.nd
    have hr2 : Room 2 _ := hr.mono (by decide)
    have hr3 : Room 3 _ := hr.mono (by decide)
    refine ⟨_, pss_cons (ps_set (i := 1) nd rfl (Or.inl rfl) (pe_cal cR hr (pa_cons (pv 0) pa_nil)))
      (pss_cons (ps_set (i := 2) nd rfl (Or.inl rfl) (pe_cal cL hr2 (pa_cons (pv 1) (pa_cons pe_int pa_nil))))
      (pss_cons (ps_set (i := 3) nd rfl (Or.inl rfl) (pe_lst pa_nil))
      (pss_cons (ps_while PassesOwn.never (pt_cmpR op_ne (pv 2) pe_int (nomark _))
        (pss_cons (ps_set (i := 4) nd rfl (Or.inl rfl) (pe_cal cW hr3 (pa_cons (pv 1) (pa_cons (pv 2) pa_nil))))
        (pss_cons (ps_expr (pe_bm PySem.F.plainAttrs_list PySem.F.slot_list_append PySem.F.type_list_append mt_append (pv 3) (pa_cons (pv 4) pa_nil)))
        (pss_one (ps_set (i := 2) nd rfl (Or.inl rfl) (pe_op op_and (pv 2) (pe_un un_inv (pe_ix ix_list (pv 1) (pv 4) (fun _ _ => rfl)))))))))
      (pss_one (ps_ret (pv 3)))))), ?_⟩
    have hl : ((List.range n).map fun i => reach n m i).length = n := by rw [List.length_map, List.length_range]
    refine ⟨_, rfl, a, n, m, rfl, hL, hn, fun H1 R s1 hr1 h1 => ?_⟩
    have hz : 0 < 2 ^ n := Nat.two_pow_pos n
    refine ⟨_, rfl, R, ((List.range n).map fun i => reach n m i), 0, rfl, SqL.of h1, by rw [hl]; exact hn, by rw [hl]; exact hz, fun H2 s2 => ?_⟩
    refine ⟨Nat.zero_le _, fun t ht => ?_⟩
    have s3 : Same H2 (upd H2 t (.lst [])) := Same.upd (Same.refl H2) ht
    have nt : H t = none := (s1.trans s2).free ht
    have e0 : leftR ((List.range n).map fun i => reach n m i) 0 = 2 ^ n - 1 := by
      unfold leftR
      rw [mem_nil.mpr rfl, hl]
      rfl
    refine while_by (fun σ H' => ∃ r f acc, Taking H a R t n m σ H' r f acc) mu2 ?_ ?_ ?_
    · refine ⟨2 ^ n - 1, n, [], ⟨none, ?_⟩, (s1.trans s2).trans s3, s3 _ _ (s2 _ _ h1), upd_same, by omega, mem_len (by omega), by show 0 + n ≤ 7; omega, ?_⟩
      · rw [← e0]
        rfl
      · rw [range_full n]
        rfl
    · rintro σ H' ⟨r, f, acc, ⟨v, rfl⟩, sm, hR, tl, rl, fl, al, du⟩
      refine ⟨_, rfl, rfl, _, rfl, ite2 (fun q => ?_) fun q => ?_⟩
      · have r0 : r ≠ 0 := fun z => by
          subst z
          exact absurd q (by decide)
        have h7 := pow7 hn
        refine ⟨_, rfl, _, rfl, R, ((List.range n).map fun i => reach n m i), r, rfl, SqL.of hR, by rw [hl]; omega, by rw [hl]; exact hn, by omega, fun H4 i s4 ht => ?_⟩
        rw [hl] at ht
        obtain ⟨hi, hb⟩ := ht
        have hb' : ∀ j, j < n → (mem (r &&& reach n m j)).length ≤ (mem (r &&& reach n m i)).length ∧ (j < i → (mem (r &&& reach n m j)).length < (mem (r &&& reach n m i)).length) := fun j hj => by
          have := hb j hj
          unfold cnt at this
          rw [reach_getD hj, reach_getD hi] at this
          exact this
        have tp := top_takes hn rl r0 fun j hj => (hb' j hj).1
        have rn := rest_len (m := m) hn hi rl
        have tl4 := s4 _ _ tl
        refine ⟨_, rfl, .inl ⟨rfl, _, SqL.of tl4⟩, _, rfl, t, _, _, rfl, rfl, tl4, ?_, ?_⟩
        · rw [List.length_map]
          exact small7 (by omega)
        have neR : R ≠ t := fun q => by
          subst q
          rw [s2 _ _ h1] at ht
          cases ht
        have hR5 : (upd H4 t (.lst (acc.map vi ++ [V.int ((i : Nat) : Int)]))) R = some (.lst (((List.range n).map fun i => reach n m i).map vi)) := by
          rw [upd_ne neR]
          exact s4 _ _ hR
        refine ⟨_, rfl, _, rfl, _, rfl, R, _, _, _, rfl, rfl, SqL.of hR5, at_of (j := i) (v := vi (reach n m i)) rfl (range_get _ hi), _, rfl, _, _, rfl, rfl, ?_⟩
        obtain ⟨f', rfl⟩ : ∃ f', f = f' + 1 := ⟨f - 1, by omega⟩
        refine ⟨⟨minus r (reach n m i), f', acc ++ [i], ⟨some (V.int ((i : Nat) : Int)), ?_⟩, ?_, hR5, ?_, Nat.lt_of_le_of_lt (minus_le _ _) rl, by omega, ?_, ?_⟩, ?_⟩
        · show [some (V.ref a), some (V.ref R), some (V.int (Builtin.bitAnd (r : Int) (Builtin.bitNot ((reach n m i : Nat) : Int)))), some (V.ref t), some (V.int ((i : Nat) : Int))] = _
          rw [band_not]
        · exact fun b o e => by
            rw [upd_ne (ne_of_none e nt)]
            exact s4 _ _ (sm _ _ e)
        · rw [upd_same, List.map_append]
          rfl
        · rw [List.length_append]
          show acc.length + 1 + f' ≤ 7
          omega
        · rw [← du, greedy_cons hn rl r0 hi hb', List.append_assoc]
          rfl
        · show (Builtin.bitAnd (r : Int) (Builtin.bitNot ((reach n m i : Nat) : Int))).toNat < ((r : Nat) : Int).toNat
          rw [band_not, Int.toNat_natCast, Int.toNat_natCast]
          exact minus_lt (and_pos tp)
      · have r0 : r = 0 := by
          by_cases z : r = 0
          · exact z
          · exact absurd (show (!decide (V.int (r : Int) = V.int 0)) = true by rw [Bool.not_eq_true', decide_eq_false_iff_not]; intro y; injection y with y; omega) q
        subst r0
        rw [greedy_nil, List.append_nil] at du
        subst du
        exact ⟨_, rfl, k H' t sm nt tl⟩
    · rintro σ H' Q1 Q2 hq ⟨v, e, x, b, e2, q⟩
      exact ⟨v, e, x, b, e2, hq _ _ q⟩
end
end Be
end

section
set_option Elab.async false
set_option linter.all false
set_option maxRecDepth 100000
namespace Be
open PySem PySem.Spec PyProof.Rows L2
open Kqm5 (place)
abbrev sOvr : Stmt := top 23
abbrev sEoo : Stmt := top 24
abbrev sDep : Stmt := top 25
/-- who are over a set, by what each beat -/
def ovr (bs : List Nat) (s : Nat) : List Nat := (List.range bs.length).filter fun i => decide (minus s (bs.getD i 0) = 0)
def bsets (n m : Nat) : List Nat := (List.range n).map fun i => btn n m i
theorem bsets_len (n m : Nat) : (bsets n m).length = n := by
  unfold bsets
  rw [List.length_map, List.length_range]
theorem minus_zero {s b : Nat} : minus s b = 0 ↔ ∀ j, s.testBit j = true → b.testBit j = true := by
  constructor
  · intro e j hj
    have := minus_tb s b j
    rw [e, Nat.zero_testBit, hj] at this
    cases h : b.testBit j with
    | true => rfl
    | false =>
      rw [h] at this
      cases this
  · intro a
    apply Nat.eq_of_testBit_eq
    intro j
    rw [minus_tb, Nat.zero_testBit]
    cases h : s.testBit j with
    | false => rfl
    | true =>
      rw [a j h]
      rfl
theorem ovr_over {n m s : Nat} (h : n ≤ 7) (hs : s < 2 ^ n) : ovr (bsets n m) s = Kqm5.over (Kqm5.bits n m) s := by
  unfold ovr Kqm5.over
  rw [bsets_len, all_bits]
  apply List.filter_congr
  intro i hi
  have hi := List.mem_range.mp hi
  have e : (bsets n m).getD i 0 = btn n m i := by
    unfold bsets
    simp [hi]
  rw [e, of_mem hs, Bool.eq_iff_iff, decide_eq_true_eq, minus_zero, Bool.and_eq_true, List.all_eq_true]
  constructor
  · intro a
    constructor
    · cases q : s.testBit i with
      | false => rfl
      | true =>
        have := a i q
        rw [btn_tb, bt_self, Bool.and_false] at this
        cases this
    · intro j hj
      have hjn := mem_lt hs hj
      have := a j (mem_tb hj)
      rw [btn_tb, Bool.and_eq_true] at this
      rw [beats_bits h hi hjn]
      exact this.2
  · rintro ⟨a1, a2⟩ j hj
    have hjm := mem_iff.mpr hj
    have hjn := mem_lt hs hjm
    have := a2 j hjm
    rw [beats_bits h hi hjn] at this
    rw [btn_tb, decide_eq_true hjn, this]
    rfl
def spOvr (K : PySem.W.Frag) : Sp := fun vs H Q _ => ∃ (b : Addr) (bs : List Nat) (s : Nat), vs = [.ref b, .int s] ∧ SqL K H b (bs.map vi) ∧ bs.length ≤ 7 ∧ NewL H Q (ovr bs s)
def spEoo (C : Addr) : Sp := fun vs H Q _ => ∃ (a : Addr) (n m k : Nat), vs = [.ref a, .int k] ∧ LgAt C H a n m ∧ n ≤ 7 ∧ ∀ H', Same H H' → Q (.bl (Kqm5.anyBeaten (Kqm5.bits n m) k)) H'
def spDep (C : Addr) : Sp := fun vs H Q _ => ∃ (a : Addr) (n m : Nat), vs = [.ref a] ∧ LgAt C H a n m ∧ 1 ≤ n ∧ n ≤ 7 ∧ ∀ H', Same H H' → Q (.int (Kqm5.deep (Kqm5.bits n m) : Nat)) H'
/-- the sets of k -/
def ksets (n k : Nat) : List Nat := (List.range (2 ^ n)).filter fun s => (mem s).length == k
def oneV (n m : Nat) : V → V
  | .int i => .bl (decide ((0 : Int) < ((ovr (bsets n m) i.toNat).length : Nat)))
  | v => v
theorem one_map (n m : Nat) (ss : List Nat) : (ss.map vi).map (oneV n m) = (ss.map fun s => decide ((0 : Int) < ((ovr (bsets n m) s).length : Nat))).map V.bl := by
  rw [List.map_map, List.map_map]
  apply List.map_congr_left
  intro x _
  show V.bl (decide ((0 : Int) < ((ovr (bsets n m) ((x : Int)).toNat).length : Nat))) = _
  rw [Int.toNat_natCast]
  rfl
theorem any_ksets {n m k : Nat} (h : n ≤ 7) : ((ksets n k).map fun s => decide ((0 : Int) < ((ovr (bsets n m) s).length : Nat))).all id = Kqm5.anyBeaten (Kqm5.bits n m) k := by
  unfold Kqm5.anyBeaten Kqm5.sets
  show _ = (List.range (2 ^ n)).all _
  rw [List.all_map, Bool.eq_iff_iff, List.all_eq_true, List.all_eq_true]
  constructor
  · intro a s hs
    have hsl := List.mem_range.mp hs
    rw [of_mem hsl]
    by_cases q : (mem s).length = k
    · have := a s (List.mem_filter.mpr ⟨hs, beq_iff_eq.mpr q⟩)
      have : (0 : Int) < ((ovr (bsets n m) s).length : Nat) := of_decide_eq_true this
      rw [ovr_over h hsl] at this
      have ne : Kqm5.over (Kqm5.bits n m) s ≠ [] := fun z => by
        rw [z] at this
        exact absurd this (by decide)
      simp [ne]
    · simp [q]
  · intro a s hs
    obtain ⟨h1, h2⟩ := List.mem_filter.mp hs
    have hsl := List.mem_range.mp h1
    have := a s h1
    rw [of_mem hsl] at this
    have h2 := beq_iff_eq.mp h2
    have ne : Kqm5.over (Kqm5.bits n m) s ≠ [] := by
      simpa [h2] using this
    refine decide_eq_true ?_
    rw [ovr_over h hsl]
    have := List.length_pos_iff.mpr ne
    omega
/-- len of a list or tuple, the table named -/
def rLen (K : PySem.W.Frag) : List V → Hp → VK → Prop := fun xs H Q => ∃ p ys, xs = [V.ref p] ∧ (SqL K H p ys ∨ SqT K H p ys) ∧ Q (.int ys.length) H
section
variable {P : Program} {w : World} {K : PySem.W.Frag} {mg : Str → Option Value} {base : Heap} {C : Addr}
theorem scOvr : FnScope ["beaten", "chosen", "one", "losers"] ["beaten", "chosen"] (defScope sOvr) := ⟨rfl, rfl, rfl, by decide +kernel, rfl, by decide +kernel, by decide +kernel⟩
theorem okOvr (T : Txt K mg C) (F : Df K mg "those_over" sOvr ["beaten", "chosen"]) : Cal P w K mg base 1 "those_over" ["beaten", "chosen"] (spOvr K) := by
  refine F.cal scOvr (fun vs H Q E h => ?_) (fun f cdv A outer s H vs Q E hr h => ?_)
  · obtain ⟨b, bs, c, rfl, _⟩ := h
    rfl
  · obtain ⟨b, bs, c, rfl, hb, hl, k⟩ := h
    have nd := scOvr.nd
    refine ⟨_, pss_one (ps_ret (pe_lc (own := [("one", 2), ("losers", 3)]) (g := gTup K 2 (gCons (gName 2) (gCons (gName 3) gNil))) (by rfl) nd (pi_enum rfl T.enumerate (pa_cons (pv 0) pa_nil))
      (blkOk_by (own := [("one", 2), ("losers", 3)]) (N := ["beaten", "chosen", "one", "losers"]) (sc := defScope sOvr) (by decide +kernel)) (fun _ _ _ _ _ => pg_tup (by rfl) (pgs_cons (pg_name (i := 2) nd rfl (Or.inl rfl)) (pgs_cons (pg_name (i := 3) nd rfl (Or.inl rfl)) pgs_nil)))
      (fun _ _ _ _ _ => pts_one (pt_cmpR op_eq (pe_op op_and (pv 1) (pe_un un_inv (pv 3))) pe_int (nomark _))) (fun _ _ _ _ _ => pv 2))), ?_⟩
    refine ⟨_, rfl, b, _, rfl, hb, fun D hD => ?_⟩
    have hv : ∀ j, j < bs.length → (bs.map vi)[j]? = some (vi (bs.getD j 0)) := fun j hj => by
      rw [List.getElem?_map, List.getElem?_eq_getElem hj]
      simp [hj]
    refine lc_pureE (n := bs.length) (by decide) (fun j => vi (bs.getD j 0)) (fun j => decide (minus c (bs.getD j 0) = 0)) (fun j => vi j) (small7 hl) hD hb (by rw [List.length_map]) hv (fun j H2 hj s2 Q1 q1 => ?_) (fun j H2 hj s2 _ Q1 q1 => ?_) fun H2 s2 h2 => k H2 D s2 hD h2
    · refine ⟨_, rfl, _, rfl, _, rfl, _, _, rfl, rfl, rfl, _, rfl, ?_⟩
      have e : decide (V.int (Builtin.bitAnd (c : Int) (Builtin.bitNot ((bs.getD j 0 : Nat) : Int))) = V.int 0) = decide (minus c (bs.getD j 0) = 0) := by
        rw [band_not]
        exact decide_eq_decide.mpr ⟨fun q => by injection q with q; omega, fun q => by rw [q]; rfl⟩
      show Q1 (decide (V.int (Builtin.bitAnd (c : Int) (Builtin.bitNot ((bs.getD j 0 : Nat) : Int))) = V.int 0)) H2
      rw [e]
      exact q1 H2 (Same.refl H2)
    · exact ⟨_, rfl, q1 H2 (Same.refl H2)⟩

theorem scEoo : FnScope ["league", "size", "beaten", "sets", "chosen"] ["league", "size"] (defScope sEoo) := ⟨rfl, rfl, rfl, by decide +kernel, rfl, by decide +kernel, by decide +kernel⟩
theorem okEoo (T : Txt K mg C) (F : Df K mg "each_has_one_over" sEoo ["league", "size"]) (cB : Cal P w K mg base 4 "beaten_sets" ["league"] (spBst C)) (cS : Cal P w K mg base 2 "set_size" ["chosen"] spSiz) (cO : Cal P w K mg base 1 "those_over" ["beaten", "chosen"] (spOvr K)) :
    Cal P w K mg base 5 "each_has_one_over" ["league", "size"] (spEoo C) := by
  refine F.cal scEoo (fun vs H Q E h => ?_) (fun f cdv A outer s H vs Q E hr h => ?_)
  · obtain ⟨a, n, m, z, rfl, _⟩ := h
    rfl
  · obtain ⟨a, n, m, z, rfl, hL, hn, k⟩ := h
    have nd := scEoo.nd
    have hr1 : Room 1 _ := hr.mono (by decide)
    have hr2 : Room 2 _ := hr.mono (by decide)
    have h7 := pow7 hn
    refine ⟨_, pss_cons (ps_set (i := 2) nd rfl (Or.inr rfl) (pe_cal cB hr (pa_cons (pv 0) pa_nil)))
      (pss_cons (ps_setLc (i := 3) (own := [("chosen", 4)]) (g := gName 4) (by rfl) nd rfl rfl (sw_true rfl rfl rfl (by decide +kernel)) (pi_range1 rfl T.range (pa_cons (pe_op op_shl pe_int (pe_fld (pv 0) rfl)) pa_nil))
        (blkOk_by (own := [("chosen", 4)]) (N := ["league", "size", "beaten", "sets", "chosen"]) (sc := defScope sEoo) (by decide +kernel)) (fun _ _ _ _ _ => pg_name (i := 4) nd rfl (Or.inl rfl))
        (fun _ _ _ _ _ => pts_one (pt_cmpR op_eq (pe_cal cS hr2 (pa_cons (pv 4) pa_nil)) (pv 1) (nomark _))) (fun _ _ _ _ _ => pv 4))
      (pss_one (ps_ret (pe_callB (cr_all rfl) (by rfl) T.all (by decide +kernel) (pa_cons (pe_lc (own := [("chosen", 4)]) (g := gName 4) (by rfl) nd (pi_list (pv 3))
        (blkOk_by (own := [("chosen", 4)]) (N := ["league", "size", "beaten", "sets", "chosen"]) (sc := defScope sEoo) (by decide +kernel)) (fun _ _ _ _ _ => pg_name (i := 4) nd rfl (Or.inl rfl))
        (fun _ _ _ _ _ => pts_nil) (fun _ _ _ _ _ => pe_cmpR op_gt (pe_callB (show CallR _ _ (rLen K) from call_len_seq) (by rfl) T.len PySem.boot_len (pa_cons (pe_cal cO hr1 (pa_cons (pv 2) (pa_cons (pv 4) pa_nil))) pa_nil)) pe_int (nomark _))) pa_nil))))), ?_⟩
    refine ⟨_, rfl, a, n, m, rfl, hL, hn, fun H1 r s1 hr1 h1 => ?_⟩
    have h1 : H1 r = some (.lst ((bsets n m).map vi)) := h1
    obtain ⟨dx, hL'⟩ := hL.same s1
    refine ⟨_, rfl, a, C, dx, _, _, rfl, hL', T.cl, T.nP, lf_pl n m, _, _, rfl, rfl, ⟨by omega, by omega, by decide⟩, _, rfl, ?_, ?_, fun D hD => ?_⟩
    · rw [pow_int]
      exact Int.le_trans (by decide) (Int.natCast_nonneg _)
    · rw [pow_int]
      omega
    have e0 : ((1 : Int) * 2 ^ ((n : Int)).toNat).toNat = 2 ^ n := by
      rw [pow_int]
      exact Int.toNat_natCast _
    show ∃ W : Nat → Nat → Hp → Prop, _ ∧ ∀ k m H, W k m H → ((Itr 0 ((1 : Int) * 2 ^ ((n : Int)).toNat).toNat).stop k H ∧ _) ∨ _
    rw [e0]
    refine lc_pure (n := 2 ^ n) (fun j => (mem j).length == z) vi (small1000 (by omega)) hD (fun j H2 hj s2 Q1 q1 => ?_) (fun j H2 hj s2 _ Q1 q1 => ?_) fun H2 s2 h2 => ?_
    · refine ⟨_, rfl, j, by simp, by omega, fun H3 s3 => ⟨_, rfl, rfl, _, rfl, ?_⟩⟩
      have e : decide (V.int (((mem j).length : Nat) : Int) = V.int ((z : Nat) : Int)) = ((mem j).length == z) := by
        rw [Bool.eq_iff_iff, decide_eq_true_eq, beq_iff_eq]
        exact ⟨fun q => by injection q with q; omega, fun q => by rw [q]⟩
      rw [e]
      exact q1 H3 s3
    · refine ⟨_, rfl, ?_⟩
      show Q1 (V.int (0 + (j : Int))) H2
      rw [Int.zero_add]
      exact q1 H2 (Same.refl H2)
    · have h2 : H2 D = some (.lst ((ksets n z).map vi)) := h2
      have el : ((ksets n z).map vi).length ≤ sizeLine := by
        have := filter_len (fun s => (mem s).length == z) (2 ^ n)
        rw [List.length_map]
        unfold ksets
        exact Nat.le_of_lt (small1000 (by omega))
      refine ⟨_, rfl, D, rfl, ⟨_, SqL.of h2⟩, fun D2 hD2 => ?_⟩
      refine lc_pureL (xs := (ksets n z).map vi) (oneV n m) el hD2 (SqL.of h2) (fun x H3 hm s3 Q1 q1 => ?_) fun H3 s3 h3 => ?_
      · obtain ⟨y, hy, rfl⟩ := List.mem_map.mp hm
        refine ⟨_, rfl, _, rfl, r, bsets n m, y, rfl, SqL.of (s3 _ _ (s2 _ _ h1)), by rw [bsets_len]; exact hn, fun H4 u s4 hu4 h4 => ⟨u, _, rfl, .inl (SqL.of h4), _, _, rfl, rfl, ?_⟩⟩
        rw [List.length_map]
        exact q1 H4 s4
      · refine ⟨D2, _, rfl, SqL.of (by rw [h3, one_map]), ?_⟩
        rw [any_ksets hn]
        exact k H3 (s1.trans (s2.trans s3))

def mu1 (n : Nat) (σ : L2.St) (_ : Hp) : Nat := match (σ[1]? : Option (Option V)) with
  | some (some (V.int p)) => n - p.toNat
  | _ => 0
theorem scDep : FnScope ["league", "depth"] ["league"] (defScope sDep) := ⟨rfl, rfl, rfl, by decide +kernel, rfl, by decide +kernel, by decide +kernel⟩
theorem okDep (F : Df K mg "greatest_depth" sDep ["league"]) (cE : Cal P w K mg base 5 "each_has_one_over" ["league", "size"] (spEoo C)) : Cal P w K mg base 6 "greatest_depth" ["league"] (spDep C) := by
  refine F.cal scDep (fun vs H Q E h => ?_) (fun f cdv A outer s H vs Q E hr h => ?_)
  · obtain ⟨a, n, m, rfl, _⟩ := h
    rfl
  · obtain ⟨a, n, m, rfl, hL, h1n, hn, k⟩ := h
    have nd := scDep.nd
    refine ⟨_, pss_cons (ps_set (i := 1) nd rfl (Or.inl rfl) pe_int)
      (pss_cons (ps_while PassesOwn.never (pt_val (pe_cal cE hr (pa_cons (pv 0) (pa_cons (pe_op op_add (pv 1) pe_int) pa_nil))))
        (pss_one (ps_set (i := 1) nd rfl (Or.inl rfl) (pe_op op_add (pv 1) pe_int))))
      (pss_one (ps_ret (pv 1)))), ?_⟩
    refine while_by (fun σ H' => ∃ d : Nat, σ = [some (.ref a), some (.int (d : Int))] ∧ Same H H' ∧ d < n ∧ ∀ j, j ≤ d → Kqm5.anyBeaten (Kqm5.bits n m) j = true) (mu1 n) ?_ ?_ ?_
    · refine ⟨0, rfl, Same.refl H, h1n, fun j hj => ?_⟩
      have : j = 0 := by omega
      subst this
      exact any_zero hn h1n
    · rintro σ H' ⟨d, rfl, sm, hd, ha⟩
      refine ⟨_, rfl, _, rfl, _, _, rfl, rfl, a, n, m, d + 1, rfl, hL.same sm, hn, fun H2 s2 => ⟨_, rfl, ite2 (fun q => ?_) fun q => ?_⟩⟩
      · have hd1 : d + 1 < n := by
          refine Nat.lt_of_le_of_ne hd fun e => ?_
          rw [e, any_all hn] at q
          cases q
        refine ⟨_, rfl, _, _, rfl, rfl, ⟨d + 1, rfl, sm.trans s2, hd1, fun j hj => ?_⟩, ?_⟩
        · by_cases e : j = d + 1
          · subst e
            exact q
          · exact ha j (by omega)
        · show n - ((d : Int) + 1).toNat < n - ((d : Int)).toNat
          omega
      · refine ⟨_, rfl, ?_⟩
        have e := deep_is (n := n) (m := m) (d := d) (by omega) ha (.inr (by simpa using q))
        rw [← e] at *
        exact k H2 (sm.trans s2)
    · rintro σ H' Q1 Q2 hq ⟨v, e, v', e', i, j, e2, e3, a, n, m, k, e4, l, h7, q⟩
      exact ⟨v, e, v', e', i, j, e2, e3, a, n, m, k, e4, l, h7, fun H2 s2 => by
        obtain ⟨b, eb, q⟩ := q H2 s2
        exact ⟨b, eb, hq _ _ q⟩⟩
end
end Be
end

section
set_option Elab.async false
set_option linter.all false
set_option maxRecDepth 100000
namespace Be
open PySem PySem.Spec PyProof.Rows L2
open Kqm5 (place)
abbrev sSqr : Stmt := top 26
def rests (n : Nat) : List Nat := (List.range n).map fun x => x * x % n
/-- the loops' number -/
def sqI (n l : Nat) (z : Nat) : Nat → Nat
  | 0 => z
  | d + 1 => if inV (.int ((d + 1 : Nat) : Int)) ((rests n).map vi) then sqI n l z d else sqI n l z d + 2 ^ place n l (l + 1 + d)
def sqO (n : Nat) : Nat → Nat
  | 0 => 0
  | l + 1 => sqI n l (sqO n l) (n - (l + 1))
theorem sq3 : sqO 3 3 = Kqm5.number (Kqm5.bySquares 3) := by decide +kernel
theorem sq7 : sqO 7 7 = Kqm5.number (Kqm5.bySquares 7) := by decide +kernel
def spSqr : Sp := fun vs H Q _ => ∃ n : Nat, vs = [.int n] ∧ (n = 3 ∨ n = 7) ∧ ∀ H', Same H H' → Q (.int (Kqm5.number (Kqm5.bySquares n) : Nat)) H'
section
variable {P : Program} {w : World} {K : PySem.W.Frag} {mg : Str → Option Value} {base : Heap} {C : Addr}
theorem scSqr : FnScope ["players", "rests", "number", "lesser", "greater", "one"] ["players"] (defScope sSqr) := ⟨rfl, rfl, rfl, by decide +kernel, rfl, by decide +kernel, by decide +kernel⟩
theorem okSqr (T : Txt K mg C) (F : Df K mg "number_by_squares" sSqr ["players"]) (cW : Cal P w K mg base 1 "game_weight" ["players", "one", "other"] spWgt) : Cal P w K mg base 2 "number_by_squares" ["players"] spSqr := by
  refine F.cal scSqr (fun vs H Q E h => ?_) (fun f cdv A outer s H vs Q E hr h => ?_)
  · obtain ⟨n, rfl, _⟩ := h
    rfl
  · obtain ⟨n, rfl, hn, k⟩ := h
    have nd := scSqr.nd
    have h7 : n ≤ 7 := by omega
    have h0 : 0 < n := by omega
    refine ⟨_, pss_cons (ps_setLc (i := 1) (own := [("one", 5)]) (g := gName 5) (by rfl) nd rfl rfl (sw_true rfl rfl rfl (by decide +kernel)) (pi_range1 rfl T.range (pa_cons (pv 0) pa_nil))
        (blkOk_by (own := [("one", 5)]) (N := ["players", "rests", "number", "lesser", "greater", "one"]) (sc := defScope sSqr) (by decide +kernel)) (fun _ _ _ _ _ => pg_name (i := 5) nd rfl (Or.inl rfl))
        (fun _ _ _ _ _ => pts_nil) (fun _ _ _ _ _ => pe_op op_mod (pe_op op_mul (pv 5) (pv 5)) (pv 0)))
      (pss_cons (ps_set (i := 2) nd rfl (Or.inl rfl) pe_int)
      (pss_cons (ps_for PassesOwn.never rfl (pi_range1 rfl T.range (pa_cons (pv 0) pa_nil)) (pg_name (i := 3) nd rfl (Or.inl rfl))
        (pss_one (ps_for PassesOwn.never rfl (pi_range2 rfl T.range (pa_cons (pe_op op_add (pv 3) pe_int) (pa_cons (pv 0) pa_nil))) (pg_name (i := 4) nd rfl (Or.inl rfl))
          (pss_one (ps_if (pt_cmpR op_notIn_seq (pe_op op_sub (pv 4) (pv 3)) (pv 1) rfl)
            (pss_one (ps_set (i := 2) nd rfl (Or.inl rfl) (pe_op op_add (pv 2) (pe_cal cW hr (pa_cons (pv 0) (pa_cons (pv 3) (pa_cons (pv 4) pa_nil))))))) pss_nil)))))
      (pss_one (ps_ret (pv 2))))), ?_⟩
    refine ⟨_, rfl, n, rfl, by omega, by omega, fun D hD => ?_⟩
    refine lc_pure (n := n) (fun _ => true) (fun j => vi (j * j % n)) (small7 h7) hD (fun j H1 hj s1 => Et.yes) (fun j H1 hj s1 _ Q1 q1 => ?_) fun H1 s1 h1 => ?_
    · refine ⟨_, rfl, _, rfl, _, _, rfl, rfl, .inl ⟨?_, ?_⟩, _, rfl, _, _, rfl, rfl, ?_, ?_⟩
      · show -2 ^ 64 < (0 : Int) + (j : Int)
        omega
      · show (0 : Int) + (j : Int) < 2 ^ 64
        omega
      · show (0 : Int) < (n : Int)
        omega
      · have e : ((0 : Int) + (j : Int)) * (0 + (j : Int)) % (n : Int) = ((j * j % n : Nat) : Int) := by
          rw [Int.zero_add]
          simp
        show Q1 (V.int (((0 : Int) + (j : Int)) * (0 + (j : Int)) % (n : Int))) H1
        rw [e]
        exact q1 H1 (Same.refl H1)
    have h1 : H1 D = some (.lst ((rests n).map vi)) := by
      rw [h1, List.filter_eq_self.mpr (fun _ _ => rfl)]
      unfold rests
      rw [List.map_map]
      rfl
    refine ⟨_, rfl, n, rfl, by omega, by omega, ?_⟩
    show ∃ W : Nat → Nat → L2.St → Hp → Prop, _
    refine for_range (lo := 0) (n := n) (fun l σ H' => ∃ v3 v4 v5, σ = [some (.int (n : Int)), some (.ref D), some (.int ((sqO n l : Nat) : Int)), v3, v4, v5] ∧ Same H1 H') ⟨_, _, _, rfl, Same.refl H1⟩ ?_ ?_
    · rintro l σ H2 hl ⟨v3, v4, v5, rfl, s2⟩
      refine ⟨_, rfl, _, _, rfl, rfl, _, rfl, _, _, rfl, ⟨?_, ?_, by omega, by omega⟩, ?_⟩
      · show -2 ^ 62 ≤ (0 : Int) + (l : Int) + 1
        omega
      · show (0 : Int) + (l : Int) + 1 < 2 ^ 62
        omega
      have en : ((n : Int) - (0 + (l : Int) + 1)).toNat = n - (l + 1) := by omega
      show ∃ W : Nat → Nat → L2.St → Hp → Prop, _ ∧ ∀ i m σ H, W i m σ H → ((Itr (0 + (l : Int) + 1) ((n : Int) - (0 + (l : Int) + 1)).toNat).stop i H ∧ _) ∨ _
      rw [en]
      refine for_range (lo := 0 + (l : Int) + 1) (n := n - (l + 1)) (fun d σ H' => ∃ v4 v5, σ = [some (.int (n : Int)), some (.ref D), some (.int ((sqI n l (sqO n l) d : Nat) : Int)), some (.int (0 + (l : Int))), v4, v5] ∧ Same H1 H') ⟨_, _, rfl, s2⟩ ?_ ?_
      · rintro d σ H3 hd ⟨v4, v5, rfl, s3⟩
        refine ⟨_, rfl, _, rfl, _, _, rfl, rfl, _, rfl, D, _, rfl, .inl (SqL.of (s3 _ _ h1)), rfl, ?_, _, rfl, ?_⟩
        · rw [List.all_map]
          exact List.all_eq_true.mpr fun _ _ => rfl
        have ed : (0 + (l : Int) + 1 + (d : Int)) - (0 + (l : Int)) = ((d + 1 : Nat) : Int) := by omega
        show if (if true = true then !inV (V.int ((0 + (l : Int) + 1 + (d : Int)) - (0 + (l : Int)))) ((rests n).map vi) else _) = true then _ else _
        rw [ed, if_pos rfl]
        cases hv : inV (V.int ((d + 1 : Nat) : Int)) ((rests n).map vi) with
        | true =>
          refine iteF ⟨some (V.int (0 + (l : Int) + 1 + (d : Int))), v5, ?_, s3⟩
          · have e : sqI n l (sqO n l) (d + 1) = sqI n l (sqO n l) d := by
              show (if _ then _ else _) = _
              rw [if_pos hv]
            rw [e]
            rfl
        | false =>
          refine iteT ?_
          refine ⟨_, rfl, _, rfl, _, rfl, _, rfl, n, l, l + 1 + d, ?_, h7, hl, by omega, by omega, fun H4 s4 => ⟨_, _, rfl, rfl, ?_⟩⟩
          · show [V.int (n : Int), V.int (0 + (l : Int)), V.int (0 + (l : Int) + 1 + (d : Int))] = _
            rw [show (0 + (l : Int)) = ((l : Nat) : Int) by omega, show (((l : Nat) : Int) + 1 + (d : Int)) = ((l + 1 + d : Nat) : Int) by omega]
          · refine ⟨some (V.int (0 + (l : Int) + 1 + (d : Int))), v5, ?_, s3.trans s4⟩
            have e : sqI n l (sqO n l) (d + 1) = sqI n l (sqO n l) d + 2 ^ place n l (l + 1 + d) := by
              show (if _ then _ else _) = _
              rw [if_neg (by rw [hv]; exact Bool.false_ne_true)]
            rw [e, Int.natCast_add]
            rfl
      · rintro σ H3 ⟨v4, v5, rfl, s3⟩
        exact ⟨_, _, _, rfl, s3⟩
    · rintro σ H2 ⟨v3, v4, v5, rfl, s2⟩
      refine ⟨_, rfl, ?_⟩
      have e : sqO n n = Kqm5.number (Kqm5.bySquares n) := by
        rcases hn with e | e
        · subst e
          exact sq3
        · subst e
          exact sq7
      rw [e]
      exact k H2 (s1.trans s2)
end
end Be
end

section
set_option Elab.async false
set_option linter.all false
set_option maxRecDepth 100000
namespace Be
open PySem PySem.Spec PyProof.Rows L2
open Kqm5 (place)
abbrev sMan : Stmt := top 39
abbrev sGre : Stmt := top 40
abbrev sOve : Stmt := top 41
abbrev sAny : Stmt := top 42
abbrev sDee : Stmt := top 43
abbrev sSqu : Stmt := top 44
abbrev sNee : Stmt := top 45
abbrev sBar : Stmt := top 46
abbrev sStt : Stmt := top 47
def gMany : Ans := fun n m _ => ((n, m), [((fsets n m).length : Nat)])
def gGreedy : Ans := fun n m _ => ((n, m), tellN (Kqm5.greedy (Kqm5.bits n m) n (List.range n)))
def gOver : Ans := fun n m as => ((n, m), if 2 ^ n ≤ as.getD 0 0 then [-22] else tellN (Kqm5.over (Kqm5.bits n m) (as.getD 0 0)))
def gAny : Ans := fun n m as => ((n, m), [if Kqm5.anyBeaten (Kqm5.bits n m) (as.getD 0 0) then 1 else 0])
def gDeep : Ans := fun n m _ => ((n, m), [(Kqm5.deep (Kqm5.bits n m) : Nat)])
def gSquares : Ans := fun n m as => if as.getD 0 0 ≠ 3 ∧ as.getD 0 0 ≠ 7 then ((n, m), [-22]) else ((as.getD 0 0, Kqm5.number (Kqm5.bySquares (as.getD 0 0))), [(Kqm5.number (Kqm5.bySquares (as.getD 0 0)) : Int)])
def gNeeds : Ans := fun n m as => ((n, m), if 20 < as.getD 0 0 then [-22] else [((2 ^ (as.getD 0 0 + 1) - 1 : Nat) : Int)])
def gBare : Ans := fun n m _ => ((n, m), tellN ((List.range n).filter fun i => ((beaten n m i).length == 0)))
def gState : Ans := fun n m _ => ((n, m), [(n : Int), (m : Int)])
def okD : Nat → Nat → List Nat → Prop := fun n _ _ => 1 ≤ n ∧ n ≤ 7
theorem pow_all : ∀ k, pows (List.range k) = 2 ^ k - 1
  | 0 => rfl
  | k + 1 => by
    have ih := pow_all k
    have hp : 0 < 2 ^ k := Nat.two_pow_pos k
    unfold pows at *
    rw [List.range_succ, List.map_append, List.sum_append, ih]
    show 2 ^ k - 1 + (2 ^ k + 0) = 2 ^ (k + 1) - 1
    rw [Nat.pow_succ]
    omega
/-- the league that squares leaves -/
theorem put_both {n m x y : Nat} : putF "number" (.int y) (lf x m) = lf x y := put_nu x m y
section
variable {P : Program} {w : World} {K : PySem.W.Frag} {mg : Str → Option Value} {base : Heap} {C : Addr}
theorem scMan : FnScope ["league", "numbers"] psA (defScope sMan) := ⟨rfl, rfl, rfl, by decide +kernel, rfl, by decide +kernel, by decide +kernel⟩
theorem okMan (T : Txt K mg C) (F : Df K mg "answer_many" sMan psA) (cF : Cal P w K mg base 6 "fewest_sets" ["league"] (spFws C)) : Cal P w K mg base 7 "answer_many" psA (spA C (okG 0) gMany) := by
  refine F.cal scMan (fun vs H Q E h => ?_) (fun f cdv A outer s H vs Q E hr h => ?_)
  · obtain ⟨a, b, n, m, as, rfl, _⟩ := h
    rfl
  · obtain ⟨a, b, n, m, as, rfl, hL, hb, ⟨hn, ok⟩, k⟩ := h
    refine ⟨_, pss_one (ps_ret (pe_lst (pa_cons (pe_callB call_len_seq (by rfl) T.len PySem.boot_len (pa_cons (pe_cal cF hr (pa_cons (pv 0) pa_nil)) pa_nil)) pa_nil))), ?_⟩
    refine ⟨_, rfl, a, n, m, rfl, hL, hn, fun H1 r s1 hr1 h1 => ⟨r, _, rfl, .inl (SqL.of h1), one_le, fun p hp => ?_⟩⟩
    rw [List.length_map]
    obtain ⟨f1, f2, f3⟩ := fin (vs := [.int ((fsets n m).length : Nat)]) (hL.same s1) s1.keeps hp
    exact k _ p f1 f2 f3 upd_same
theorem scGre : FnScope ["league", "numbers"] psA (defScope sGre) := ⟨rfl, rfl, rfl, by decide +kernel, rfl, by decide +kernel, by decide +kernel⟩
theorem greedy_len {n m : Nat} : ∀ f p, (Kqm5.greedy (Kqm5.bits n m) f p).length ≤ f
  | 0, _ => Nat.le_refl _
  | f + 1, p => by
    unfold Kqm5.greedy
    split
    · exact Nat.zero_le _
    · split
      · exact Nat.zero_le _
      · rw [List.length_cons]
        have := greedy_len (n := n) (m := m) f
        exact Nat.succ_le_succ (this _)
theorem okGre (F : Df K mg "answer_greedy" sGre psA) (cO : Cal P w K mg base 6 "one_by_one" ["league"] (spObo C)) (cC : Cal P w K mg base 1 "counted" ["players"] spCnt) : Cal P w K mg base 7 "answer_greedy" psA (spA C okD gGreedy) := by
  refine F.cal scGre (fun vs H Q E h => ?_) (fun f cdv A outer s H vs Q E hr h => ?_)
  · obtain ⟨a, b, n, m, as, rfl, _⟩ := h
    rfl
  · obtain ⟨a, b, n, m, as, rfl, hL, hb, ⟨h1n, hn⟩, k⟩ := h
    have hr1 : Room 1 _ := hr.mono (by decide)
    refine ⟨_, pss_one (ps_ret (pe_cal cC hr1 (pa_cons (pe_cal cO hr (pa_cons (pv 0) pa_nil)) pa_nil))), ?_⟩
    refine ⟨_, rfl, a, n, m, rfl, hL, h1n, hn, fun H1 r s1 hr1 h1 => ⟨r, _, rfl, h1, ?_, fun H2 p s2 hp h2 => ?_⟩⟩
    · have := greedy_len (n := n) (m := m) n (List.range n)
      omega
    · exact k H2 p (hL.same (s1.trans s2)) (s1.trans s2).keeps (s1.free hp) h2
theorem scOve : FnScope ["league", "numbers", "chosen"] psA (defScope sOve) := ⟨rfl, rfl, rfl, by decide +kernel, rfl, by decide +kernel, by decide +kernel⟩
theorem okOve (T : Txt K mg C) (N : Nums mg) (F : Df K mg "answer_over" sOve psA) (cH : Cal P w K mg base 1 "has_missing" ["league", "chosen"] (spHas C)) (cB : Cal P w K mg base 4 "beaten_sets" ["league"] (spBst C)) (cO : Cal P w K mg base 1 "those_over" ["beaten", "chosen"] (spOvr K))
    (cC : Cal P w K mg base 1 "counted" ["players"] spCnt) : Cal P w K mg base 5 "answer_over" psA (spA C (okG 1) gOver) := by
  refine F.cal scOve (fun vs H Q E h => ?_) (fun f cdv A outer s H vs Q E hr h => ?_)
  · obtain ⟨a, b, n, m, as, rfl, _⟩ := h
    rfl
  · obtain ⟨a, b, n, m, as, rfl, hL, hb, ⟨hn, ok⟩, k⟩ := h
    have nd := scOve.nd
    have hr1 : Room 1 _ := hr.mono (by decide)
    obtain ⟨t1, h1⟩ := N.oor
    refine ⟨_, pss_cons (ps_set (i := 2) nd rfl (Or.inl rfl) (pe_ix ix_list (pv 1) pe_int (fun _ _ => rfl)))
      (pss_cons (ps_if (pt_val (pe_cal cH hr1 (pa_cons (pv 0) (pa_cons (pv 2) pa_nil)))) (pss_one (ps_ret (pe_lst (pa_cons (pe_glob rfl h1 relI) pa_nil)))) pss_nil)
      (pss_one (ps_ret (pe_cal cC hr1 (pa_cons (pe_cal cO hr1 (pa_cons (pe_cal cB hr (pa_cons (pv 0) pa_nil)) (pa_cons (pv 2) pa_nil))) pa_nil))))), ?_⟩
    generalize hi : as.getD 0 0 = i
    have a0 : atI (as.map vi) 0 = some (vi i) := by rw [← hi]; exact at0 (by omega)
    refine ⟨_, rfl, b, _, _, _, rfl, rfl, SqL.of hb, a0, ?_⟩
    refine ⟨_, rfl, _, rfl, a, n, m, i, rfl, hL, hn, fun H1 s1 => ⟨_, rfl, ite2 (fun q => ?_) fun q => ?_⟩⟩
    · refine ⟨one_le, fun p hp => ?_⟩
      have e : gOver n m as = ((n, m), [-22]) := by
        unfold gOver
        rw [hi, if_pos (of_decide_eq_true q)]
      rw [e] at k
      obtain ⟨f1, f2, f3⟩ := fin (vs := [.int (-22)]) (hL.same s1) s1.keeps hp
      exact k _ p f1 f2 f3 upd_same
    have q' : ¬ 2 ^ n ≤ i := fun z => q (decide_eq_true z)
    have e : gOver n m as = ((n, m), tellN (Kqm5.over (Kqm5.bits n m) i)) := by
      unfold gOver
      rw [hi, if_neg q']
    rw [e] at k
    refine ⟨_, rfl, a, n, m, rfl, hL.same s1, hn, fun H2 r s2 hr2 h2 => ⟨_, rfl, r, bsets n m, i, rfl, SqL.of h2, by rw [bsets_len]; exact hn, fun H3 r3 s3 hr3 h3 => ?_⟩⟩
    have sm : Same H H3 := (s1.trans s2).trans s3
    refine ⟨r3, ovr (bsets n m) i, rfl, h3, ?_, fun H5 p s5 hp h5 => ?_⟩
    · have := filter_len (fun j => decide (minus i ((bsets n m).getD j 0) = 0)) (bsets n m).length
      rw [bsets_len] at this
      unfold ovr
      rw [bsets_len]
      omega
    · rw [ovr_over hn (by omega)] at h5
      exact k H5 p (hL.same (sm.trans s5)) (sm.trans s5).keeps (sm.free hp) h5
theorem scAny : FnScope ["league", "numbers"] psA (defScope sAny) := ⟨rfl, rfl, rfl, by decide +kernel, rfl, by decide +kernel, by decide +kernel⟩
theorem okAny (F : Df K mg "answer_any" sAny psA) (cE : Cal P w K mg base 5 "each_has_one_over" ["league", "size"] (spEoo C)) : Cal P w K mg base 6 "answer_any" psA (spA C (okG 1) gAny) := by
  refine F.cal scAny (fun vs H Q E h => ?_) (fun f cdv A outer s H vs Q E hr h => ?_)
  · obtain ⟨a, b, n, m, as, rfl, _⟩ := h
    rfl
  · obtain ⟨a, b, n, m, as, rfl, hL, hb, ⟨hn, ok⟩, k⟩ := h
    refine ⟨_, pss_one (ps_ret (pe_lst (pa_cons (pe_ifExp (pt_val (pe_cal cE hr (pa_cons (pv 0) (pa_cons (pe_ix ix_list (pv 1) pe_int (fun _ _ => rfl)) pa_nil)))) pe_int pe_int) pa_nil))), ?_⟩
    unfold gAny at k
    generalize hi : as.getD 0 0 = i at k
    have a0 : atI (as.map vi) 0 = some (vi i) := by rw [← hi]; exact at0 (by omega)
    refine ⟨_, rfl, _, rfl, b, _, _, _, rfl, rfl, SqL.of hb, a0, a, n, m, i, rfl, hL, hn, fun H1 s1 => ⟨_, rfl, ?_⟩⟩
    have out : ∀ z, (if Kqm5.anyBeaten (Kqm5.bits n m) i then (1 : Int) else 0) = z → ∀ p, H1 p = none → Q (.ref p) (upd H1 p (.lst [.int z])) := fun z e p hp => by
      rw [e] at k
      obtain ⟨f1, f2, f3⟩ := fin (vs := [.int z]) (hL.same s1) s1.keeps hp
      exact k _ p f1 f2 f3 upd_same
    cases hv : Kqm5.anyBeaten (Kqm5.bits n m) i with
    | true =>
      rw [hv] at out
      exact iteT ⟨one_le, out 1 rfl⟩
    | false =>
      rw [hv] at out
      exact iteF ⟨one_le, out 0 rfl⟩
theorem scDee : FnScope ["league", "numbers"] psA (defScope sDee) := ⟨rfl, rfl, rfl, by decide +kernel, rfl, by decide +kernel, by decide +kernel⟩
theorem okDee (F : Df K mg "answer_deep" sDee psA) (cG : Cal P w K mg base 6 "greatest_depth" ["league"] (spDep C)) : Cal P w K mg base 7 "answer_deep" psA (spA C okD gDeep) := by
  refine F.cal scDee (fun vs H Q E h => ?_) (fun f cdv A outer s H vs Q E hr h => ?_)
  · obtain ⟨a, b, n, m, as, rfl, _⟩ := h
    rfl
  · obtain ⟨a, b, n, m, as, rfl, hL, hb, ⟨h1n, hn⟩, k⟩ := h
    refine ⟨_, pss_one (ps_ret (pe_lst (pa_cons (pe_cal cG hr (pa_cons (pv 0) pa_nil)) pa_nil))), ?_⟩
    refine ⟨_, rfl, a, n, m, rfl, hL, h1n, hn, fun H1 s1 => ⟨one_le, fun p hp => ?_⟩⟩
    obtain ⟨f1, f2, f3⟩ := fin (vs := [.int (Kqm5.deep (Kqm5.bits n m) : Nat)]) (hL.same s1) s1.keeps hp
    exact k _ p f1 f2 f3 upd_same
theorem inV2 (x : Nat) : inV (.int (x : Int)) [.int 3, .int 7] = decide (x = 3 ∨ x = 7) := by
  show ((3 : Int) == (x : Int) || ((7 : Int) == (x : Int) || false)) = _
  rw [Bool.eq_iff_iff, decide_eq_true_eq, Bool.or_false, Bool.or_eq_true, beq_iff_eq, beq_iff_eq]
  omega
theorem scSqu : FnScope ["league", "numbers", "players"] psA (defScope sSqu) := ⟨rfl, rfl, rfl, by decide +kernel, rfl, by decide +kernel, by decide +kernel⟩
theorem okSqu {tb : Addr} (T : Txt K mg C) (N : Nums mg) (F : Df K mg "answer_squares" sSqu psA) (hB : mg "BY_SQUARES" = some (.ref tb)) (sB : ∀ H, SqT K H tb [.int 3, .int 7]) (cQ : Cal P w K mg base 2 "number_by_squares" ["players"] spSqr) : Cal P w K mg base 3 "answer_squares" psA (spA C (okG 1) gSquares) := by
  refine F.cal scSqu (fun vs H Q E h => ?_) (fun f cdv A outer s H vs Q E hr h => ?_)
  · obtain ⟨a, b, n, m, as, rfl, _⟩ := h
    rfl
  · obtain ⟨a, b, n, m, as, rfl, hL, hb, ⟨hn, ok⟩, k⟩ := h
    have nd := scSqu.nd
    obtain ⟨t1, h1⟩ := N.oor
    refine ⟨_, pss_cons (ps_set (i := 2) nd rfl (Or.inl rfl) (pe_ix ix_list (pv 1) pe_int (fun _ _ => rfl)))
      (pss_cons (ps_if (pt_cmpR op_notIn_seq (pv 2) (pe_glob rfl hB (show RelV (.ref tb) (.ref tb) from rfl)) rfl) (pss_one (ps_ret (pe_lst (pa_cons (pe_glob rfl h1 relI) pa_nil)))) pss_nil)
      (pss_cons (ps_fld (pv 0) (pv 2) rfl) (pss_cons (ps_fld (pv 0) (pe_cal cQ hr (pa_cons (pv 2) pa_nil)) rfl) (pss_one (ps_ret (pe_lst (pa_cons (pe_fld (pv 0) rfl) pa_nil))))))), ?_⟩
    unfold gSquares at k
    generalize hi : as.getD 0 0 = x at k
    have a0 : atI (as.map vi) 0 = some (vi x) := by rw [← hi]; exact at0 (by omega)
    refine ⟨_, rfl, b, _, _, _, rfl, rfl, SqL.of hb, a0, ?_⟩
    refine ⟨_, rfl, tb, _, rfl, .inr (sB H), rfl, rfl, _, rfl, ?_⟩
    have ev : (if true = true then !inV (vi x) [.int 3, .int 7] else inV (vi x) [.int 3, .int 7]) = !decide (x = 3 ∨ x = 7) := by
      rw [if_pos rfl]
      exact congrArg (!·) (inV2 x)
    rw [ev]
    refine ite2 (fun q => ?_) fun q => ?_
    · have q1 : ¬ (x = 3 ∨ x = 7) := by simpa using q
      rw [if_pos (by omega)] at k
      refine ⟨one_le, fun p hp => ?_⟩
      obtain ⟨f1, f2, f3⟩ := fin (vs := [.int (-22)]) hL (Keeps.refl a H) hp
      exact k _ p f1 f2 f3 upd_same
    · have q1 : x = 3 ∨ x = 7 := Decidable.byContradiction fun z => q (by rw [decide_eq_false z]; rfl)
      rw [if_neg (by omega)] at k
      obtain ⟨dx, hL'⟩ := id hL
      refine ⟨_, rfl, _, rfl, a, C, dx, _, rfl, hL', T.cl, T.nP, (by rw [lf_eq]; show 2 < 1000; decide), ?_⟩
      have u1 : upd H a (.ins C dx (putF "players" (.int (x : Int)) (lf n m))) a = some (.ins C dx (lf x m)) := by rw [upd_same, put_pl]
      refine ⟨_, rfl, x, rfl, q1, fun H2 s2 => ?_⟩
      have u2 := s2 _ _ u1
      refine ⟨_, rfl, a, C, dx, _, rfl, u2, T.cl, T.nN, (by rw [lf_eq]; show 2 < 1000; decide), ?_⟩
      have u3 : upd H2 a (.ins C dx (putF "number" (.int ((Kqm5.number (Kqm5.bySquares x) : Nat) : Int)) (lf x m))) a = some (.ins C dx (lf x (Kqm5.number (Kqm5.bySquares x)))) := by rw [upd_same, put_nu]
      refine ⟨_, rfl, a, C, dx, _, _, rfl, u3, T.cl, T.nN, lf_nu x _, one_le, fun p hp => ?_⟩
      have hL2 : LgAt C (upd H2 a (.ins C dx (putF "number" (.int ((Kqm5.number (Kqm5.bySquares x) : Nat) : Int)) (lf x m)))) a x (Kqm5.number (Kqm5.bySquares x)) := ⟨dx, u3⟩
      obtain ⟨f1, f2, f3⟩ := fin (vs := [.int ((Kqm5.number (Kqm5.bySquares x) : Nat) : Int)]) hL2 (Keeps.put ((Keeps.put (Keeps.refl a H)).same s2)) hp
      exact k _ p f1 f2 f3 upd_same
theorem scNee : FnScope ["league", "numbers", "size", "power"] psA (defScope sNee) := ⟨rfl, rfl, rfl, by decide +kernel, rfl, by decide +kernel, by decide +kernel⟩
theorem okNee (T : Txt K mg C) (N : Nums mg) (F : Df K mg "answer_needs" sNee psA) : Cal P w K mg base 1 "answer_needs" psA (spA C (okG 1) gNeeds) := by
  refine F.cal scNee (fun vs H Q E h => ?_) (fun f cdv A outer s H vs Q E hr h => ?_)
  · obtain ⟨a, b, n, m, as, rfl, _⟩ := h
    rfl
  · obtain ⟨a, b, n, m, as, rfl, hL, hb, ⟨hn, ok⟩, k⟩ := h
    have nd := scNee.nd
    obtain ⟨t1, h1⟩ := N.oor
    obtain ⟨t2, h2⟩ := N.need
    refine ⟨_, pss_cons (ps_set (i := 2) nd rfl (Or.inl rfl) (pe_ix ix_list (pv 1) pe_int (fun _ _ => rfl)))
      (pss_cons (ps_if (pt_cmpR op_gt (pv 2) (pe_glob rfl h2 relI) (nomark _)) (pss_one (ps_ret (pe_lst (pa_cons (pe_glob rfl h1 relI) pa_nil)))) pss_nil)
      (pss_one (ps_ret (pe_lst (pa_cons (pe_callB (cr_sum rfl) (by rfl) T.sum (by decide +kernel) (pa_cons (pe_lc (own := [("power", 3)]) (g := gName 3) (by rfl) nd (pi_range1 rfl T.range (pa_cons (pe_op op_add (pv 2) pe_int) pa_nil))
        (blkOk_by (own := [("power", 3)]) (N := ["league", "numbers", "size", "power"]) (sc := defScope sNee) (by decide +kernel)) (fun _ _ _ _ _ => pg_name (i := 3) nd rfl (Or.inl rfl))
        (fun _ _ _ _ _ => pts_nil) (fun _ _ _ _ _ => pe_op op_shl pe_int (pv 3))) pa_nil)) pa_nil))))), ?_⟩
    unfold gNeeds at k
    generalize hi : as.getD 0 0 = x at k
    have a0 : atI (as.map vi) 0 = some (vi x) := by rw [← hi]; exact at0 (by omega)
    refine ⟨_, rfl, b, _, _, _, rfl, rfl, SqL.of hb, a0, ?_⟩
    refine ⟨_, rfl, _, _, rfl, rfl, _, rfl, ite2 (fun q => ?_) fun q => ?_⟩
    · have q1 : (20 : Int) < (x : Int) := of_decide_eq_true q
      rw [if_pos (by omega)] at k
      refine ⟨one_le, fun p hp => ?_⟩
      obtain ⟨f1, f2, f3⟩ := fin (vs := [.int (-22)]) hL (Keeps.refl a H) hp
      exact k _ p f1 f2 f3 upd_same
    · have q1 : ¬ (20 : Int) < (x : Int) := fun z => q (decide_eq_true z)
      rw [if_neg (by omega)] at k
      refine ⟨_, rfl, _, _, rfl, rfl, _, rfl, ?_, ?_, fun D hD => ?_⟩
      · show -2 ^ 62 ≤ (x : Int) + 1
        omega
      · show (x : Int) + 1 < 2 ^ 62
        omega
      have e0 : ((x : Int) + 1).toNat = x + 1 := by omega
      show ∃ W : Nat → Nat → Hp → Prop, _ ∧ ∀ k m H, W k m H → ((Itr 0 ((x : Int) + 1).toNat).stop k H ∧ _) ∨ _
      rw [e0]
      refine lc_pure (n := x + 1) (fun _ => true) (fun j => V.int ((2 ^ j : Nat) : Int)) (small1000 (by omega)) hD (fun j H1 hj s1 => Et.yes) (fun j H1 hj s1 _ Q1 q1 => ?_) fun H1 s1 h1 => ?_
      · refine ⟨_, rfl, _, _, rfl, rfl, ⟨?_, ?_, by decide⟩, ?_⟩
        · show (0 : Int) ≤ 0 + (j : Int)
          omega
        · show (0 : Int) + (j : Int) ≤ _
          omega
        · have e : (1 : Int) * 2 ^ ((0 : Int) + (j : Int)).toNat = ((2 ^ j : Nat) : Int) := by
            rw [Int.zero_add, pow_int]
          show Q1 (V.int ((1 : Int) * 2 ^ ((0 : Int) + (j : Int)).toNat)) H1
          rw [e]
          exact q1 H1 (Same.refl H1)
      · have h2 : H1 D = some (.lst (((List.range (x + 1)).map fun y => ((2 ^ y : Nat) : Int)).map V.int)) := by
          rw [h1, List.filter_eq_self.mpr (fun _ _ => rfl), List.map_map]
          rfl
        refine ⟨D, _, rfl, SqL.of h2, one_le, fun p hp => ?_⟩
        rw [pow_sum, pow_all]
        obtain ⟨f1, f2, f3⟩ := fin (vs := [.int ((2 ^ (x + 1) - 1 : Nat) : Int)]) (hL.same s1) s1.keeps hp
        exact k _ p f1 f2 f3 upd_same
theorem scBar : FnScope ["league", "numbers", "one"] psA (defScope sBar) := ⟨rfl, rfl, rfl, by decide +kernel, rfl, by decide +kernel, by decide +kernel⟩
theorem okBar (T : Txt K mg C) (F : Df K mg "answer_bare" sBar psA) (cB : Cal P w K mg base 3 "beaten_by" ["league", "one"] (spBtn C)) (cC : Cal P w K mg base 1 "counted" ["players"] spCnt) : Cal P w K mg base 4 "answer_bare" psA (spA C (okG 0) gBare) := by
  refine F.cal scBar (fun vs H Q E h => ?_) (fun f cdv A outer s H vs Q E hr h => ?_)
  · obtain ⟨a, b, n, m, as, rfl, _⟩ := h
    rfl
  · obtain ⟨a, b, n, m, as, rfl, hL, hb, ⟨hn, ok⟩, k⟩ := h
    have nd := scBar.nd
    have hr1 : Room 1 _ := hr.mono (by decide)
    refine ⟨_, pss_one (ps_ret (pe_cal cC hr1 (pa_cons (pe_lc (own := [("one", 2)]) (g := gName 2) (by rfl) nd (pi_range1 rfl T.range (pa_cons (pe_fld (pv 0) rfl) pa_nil))
      (blkOk_by (own := [("one", 2)]) (N := ["league", "numbers", "one"]) (sc := defScope sBar) (by decide +kernel)) (fun _ _ _ _ _ => pg_name (i := 2) nd rfl (Or.inl rfl))
      (fun _ _ _ _ _ => pts_one (pt_cmpR op_eq (pe_callB (show CallR _ _ (rLen K) from call_len_seq) (by rfl) T.len PySem.boot_len (pa_cons (pe_cal cB hr (pa_cons (pv 0) (pa_cons (pv 2) pa_nil))) pa_nil)) pe_int (nomark _))) (fun _ _ _ _ _ => pv 2)) pa_nil))), ?_⟩
    obtain ⟨dx, hL'⟩ := id hL
    refine ⟨_, rfl, a, C, dx, _, _, rfl, hL', T.cl, T.nP, lf_pl n m, n, rfl, by omega, by omega, fun D hD => ?_⟩
    refine lc_pure (n := n) (fun j => (beaten n m j).length == 0) (fun j => vi j) (small7 hn) hD (fun j H1 hj s1 Q1 q1 => ?_) (fun j H1 hj s1 _ Q1 q1 => ?_) fun H1 s1 h1 => ?_
    · refine ⟨_, rfl, _, rfl, a, n, m, j, by simp, hL.same s1, hn, hj, fun H2 u s2 hu h2 => ⟨u, _, rfl, .inl (SqL.of h2), rfl, _, rfl, ?_⟩⟩
      rw [List.length_map]
      have e : decide (V.int (((beaten n m j).length : Nat) : Int) = V.int 0) = ((beaten n m j).length == 0) := by
        rw [Bool.eq_iff_iff, decide_eq_true_eq, beq_iff_eq]
        exact ⟨fun q => by injection q with q; omega, fun q => by rw [q]; rfl⟩
      rw [e]
      exact q1 H2 s2
    · refine ⟨_, rfl, ?_⟩
      show Q1 (V.int (0 + (j : Int))) H1
      rw [Int.zero_add]
      exact q1 H1 (Same.refl H1)
    · refine ⟨D, _, rfl, h1, ?_, fun H2 p s2 hp h2 => ?_⟩
      · have := filter_len (fun j => (beaten n m j).length == 0) n
        omega
      · exact k H2 p (hL.same (s1.trans s2)) (s1.trans s2).keeps (s1.free hp) h2
theorem scStt : FnScope ["league", "numbers"] psA (defScope sStt) := ⟨rfl, rfl, rfl, by decide +kernel, rfl, by decide +kernel, by decide +kernel⟩
theorem okStt (T : Txt K mg C) (F : Df K mg "answer_state" sStt psA) : Cal P w K mg base 1 "answer_state" psA (spA C (okG 0) gState) := by
  refine F.cal scStt (fun vs H Q E h => ?_) (fun f cdv A outer s H vs Q E hr h => ?_)
  · obtain ⟨a, b, n, m, as, rfl, _⟩ := h
    rfl
  · obtain ⟨a, b, n, m, as, rfl, hL, hb, ⟨hn, ok⟩, k⟩ := h
    refine ⟨_, pss_one (ps_ret (pe_lst (pa_cons (pe_fld (pv 0) rfl) (pa_cons (pe_fld (pv 0) rfl) pa_nil)))), ?_⟩
    obtain ⟨dx, hL'⟩ := id hL
    refine ⟨_, rfl, a, C, dx, _, _, rfl, hL', T.cl, T.nP, lf_pl n m, _, rfl, a, C, dx, _, _, rfl, hL', T.cl, T.nN, lf_nu n m, (by show 2 ≤ sizeLine; decide), fun p hp => ?_⟩
    obtain ⟨f1, f2, f3⟩ := fin (vs := [.int (n : Int), .int (m : Int)]) hL (Keeps.refl a H) hp
    exact k _ p f1 f2 f3 upd_same
end
end Be
end

section
set_option Elab.async false
set_option linter.all false
set_option maxRecDepth 100000
namespace Be
open PySem PySem.Spec PyProof.Rows L2
open Kqm5 (place)
abbrev sIni : Stmt := inClass (top 9) 0
abbrev sCal : Stmt := top 49
abbrev sAns : Stmt := top 50
/-! ### a new league -/
def spInit (C : Addr) : Sp := fun vs H Q _ => ∃ (p dx : Addr), vs = [.ref p] ∧ H p = some (.ins C dx []) ∧ ∀ H' : Hp, LgAt C H' p 0 0 → (∀ b o, H b = some o → b ≠ p → H' b = some o) → Q .non H'
/-- answer_call's: gA tells what each call does -/
def spCall (C : Addr) (gA : Nat → Ans) : Sp := fun vs H Q _ => ∃ (a b : Addr) (c n m : Nat) (as : List Nat), vs = [.ref a, .int c, .ref b] ∧ LgAt C H a n m ∧ H b = some (.lst (as.map vi)) ∧ takes[c]? = some as.length ∧ n ≤ 7 ∧ m < 2 ^ gms n ∧
  ∀ (H' : Hp) (p : Addr), LgAt C H' a (gA c n m as).1.1 (gA c n m as).1.2 → Keeps a H H' → H p = none → H' p = some (.lst ((gA c n m as).2.map V.int)) → Q (.ref p) H'
/-- the calls do as the specification says -/
def Does (gA : Nat → Ans) : Prop := ∀ (st : Option Kqm5.League) (c n m : Nat) (as : List Nat), Rep st n m → takes[c]? = some as.length →
  Rep (Kqm5Neutral.step st [(c : Int) :: as.map fun (x : Nat) => (x : Int)]).1 (gA c n m as).1.1 (gA c n m as).1.2 ∧ (Kqm5Neutral.step st [(c : Int) :: as.map fun (x : Nat) => (x : Int)]).2 = (gA c n m as).2
/-- answers': the specification's list -/
def spAns (K : PySem.W.Frag) : Sp := fun vs H Q _ => ∃ (a : Addr) (ns : List Nat) (cs : List (List (List Int))), vs = [.ref a] ∧ SqL K H a (ns.map vi) ∧ ns.length ≤ 600 ∧
  PyFlat.calls PyKqm5.shape ns.length (ns.map fun (x : Nat) => (x : Int)) = some cs ∧ (due none cs).length ≤ 10000000 ∧ ∀ (H' : Hp) (p : Addr), H' p = some (.lst ((due none cs).map V.int)) → Q (.ref p) H'
theorem Rep.lt {st : Option Kqm5.League} {n m : Nat} (h : Rep st n m) : m < 2 ^ gms n := by
  rcases h with ⟨h, h2, _⟩ | ⟨_, _, h, _⟩
  · subst h h2
    decide
  · exact h
theorem cut_eq {ns : List Nat} {p k : Nat} (h : p + 1 + k ≤ ns.length) : cutV (ns.map vi) (some ((p : Int) + 1)) (some ((p : Int) + 1 + (k : Int))) = ((ns.drop (p + 1)).take k).map vi := by
  unfold cutV
  have e1 : ((p : Int) + 1) = ((p + 1 : Nat) : Int) := by omega
  have e2 : ((p : Int) + 1 + (k : Int)) = ((p + 1 + k : Nat) : Int) := by omega
  rw [e1] at *
  rw [show (((p + 1 : Nat) : Int) + (k : Int)) = ((p + 1 + k : Nat) : Int) by omega, HT.sIx_nat, HT.sIx_nat, List.length_map, Nat.min_eq_left h, Nat.min_eq_left (show p + 1 ≤ ns.length by omega), ← List.map_drop, ← List.map_take]
  congr 2
  omega
theorem Rep.le {st : Option Kqm5.League} {n m : Nat} (h : Rep st n m) : n ≤ 7 := by
  rcases h with ⟨h, _⟩ | ⟨_, h, _⟩ <;> omega
section
variable {P : Program} {w : World} {K : PySem.W.Frag} {mg : Str → Option Value} {base : Heap} {C : Addr}
theorem scIni : FnScope ["self"] ["self"] (defScope sIni) := ⟨rfl, rfl, rfl, by decide +kernel, rfl, by decide +kernel, by decide +kernel⟩
theorem okIni {f : Addr} {fd : FuncData} (F : Fun K "__init__" "League.__init__" sIni f fd) (T : Txt K mg C) : FnOk P w K mg base CX0 1 f fd ["self"] (spInit C) := by
  refine F.ok scIni (fun vs H Q E h => ?_) (fun cdv A outer s H vs Q E hr h => ?_)
  · obtain ⟨p, dx, rfl, _⟩ := h
    rfl
  · obtain ⟨p, dx, rfl, hp, k⟩ := h
    refine ⟨_, pss_cons (ps_fld (pv 0) pe_int rfl) (pss_one (ps_fld (pv 0) pe_int rfl)), ?_⟩
    refine ⟨_, rfl, p, C, dx, [], rfl, hp, T.cl, T.nP, (by show 0 < 1000; decide), ?_⟩
    refine ⟨_, rfl, p, C, dx, _, rfl, upd_same, T.cl, T.nN, (by show 1 < 1000; decide), ?_⟩
    refine k _ ⟨dx, ?_⟩ fun b o e hb => by rw [upd_ne hb, upd_ne hb]; exact e
    rw [upd_same, lf_eq]
    exact congrArg (fun q => some (HO.ins C dx q)) (by simp only [putF, if_neg ne_pn]; rfl)

theorem scAns : FnScope ["calls", "league", "told", "place", "call", "behind", "answer"] ["calls"] (defScope sAns) := ⟨rfl, rfl, rfl, by decide +kernel, rfl, by decide +kernel, by decide +kernel⟩
/-- where the loop stands -/
def mu (l : Nat) (σ : L2.St) (_ : Hp) : Nat := match (σ[3]? : Option (Option V)) with
  | some (some (V.int p)) => l - p.toNat
  | _ => 0
structure Loop (C : Addr) (H0 : Hp) (a L t : Addr) (ns : List Nat) (D : List Int) (σ : L2.St) (H : Hp) (p n m f : Nat) (st : Option Kqm5.League) (out : List Int) (cs : List (List (List Int))) : Prop where
  sg : ∃ v4 v5 v6, σ = [some (.ref a), some (.ref L), some (.ref t), some (.int (p : Int)), v4, v5, v6]
  sm : Same H0 H
  lg : LgAt C H L n m
  tl : H t = some (.lst (out.map V.int))
  rp : Rep st n m
  pl : p ≤ ns.length
  pc : PyFlat.calls PyKqm5.shape f ((ns.drop p).map fun (x : Nat) => (x : Int)) = some cs
  du : out ++ due st cs = D
theorem okAns {f fI : Addr} {fd fdI : FuncData} {tk : Addr} (gA : Nat → Ans) (hD : Does gA) (T : Txt K mg C) (M : Mk K C fI) (FI : Fun K "__init__" "League.__init__" sIni fI fdI) (bI : Binds K fdI ["self"] []) (F : Fun K "answers" "answers" sAns f fd)
    (hT : mg "TAKES" = some (.ref tk)) (sT : ∀ H, SqT K H tk (takes.map vi)) (cC : Cal P w K mg base 8 "answer_call" ["league", "call", "numbers"] (spCall C gA)) : FnOk P w K mg base CX0 9 f fd ["calls"] (spAns K) := by
  have GI : FnOk P w K mg base CX0 1 fI fdI ["self"] (spInit C) := okIni FI T
  refine F.ok scAns (fun vs H Q E h => ?_) (fun cdv A outer s H vs Q E hr h => ?_)
  · obtain ⟨a, ns, cs, rfl, _⟩ := h
    rfl
  · obtain ⟨a, ns, cs, rfl, hS, hlen, hcs, hsz, k⟩ := h
    have nd := scAns.nd
    have hr2 : Room 2 _ := hr.mono (by decide)
    refine ⟨_, pss_cons (ps_set (i := 1) nd rfl (Or.inl rfl) (pe_make0 M GI hr2 rfl T.mgC bI .nil pass0))
      (pss_cons (ps_set (i := 2) nd rfl (Or.inl rfl) (pe_lst pa_nil))
      (pss_cons (ps_set (i := 3) nd rfl (Or.inl rfl) pe_int)
      (pss_cons (ps_while PassesOwn.never (pt_cmpR op_lt (pv 3) (pe_callB call_len_seq (by rfl) T.len PySem.boot_len (pa_cons (pv 0) pa_nil)) (nomark _))
        (pss_cons (ps_set (i := 4) nd rfl (Or.inl rfl) (pe_ix ix_list (pv 0) (pv 3) (fun _ _ => rfl)))
        (pss_cons (ps_set (i := 5) nd rfl (Or.inl rfl) (pe_op op_add (pe_op op_add (pv 3) pe_int) (pe_ix ix_tup (pe_glob rfl hT (show RelV (.ref tk) (.ref tk) from rfl)) (pv 4) (fun _ _ => rfl))))
        (pss_cons (ps_set (i := 6) nd rfl (Or.inl rfl) (pe_cal cC hr (pa_cons (pv 1) (pa_cons (pv 4) (pa_cons (pe_slice sl_list (pv 0) (po_some (pe_op op_add (pv 3) pe_int)) (po_some (pv 5))) pa_nil)))))
        (pss_cons (ps_expr (pe_bm PySem.F.plainAttrs_list PySem.F.slot_list_append PySem.F.type_list_append mt_append (pv 2) (pa_cons (pe_callB call_len_seq (by rfl) T.len PySem.boot_len (pa_cons (pv 6) pa_nil)) pa_nil)))
        (pss_cons (ps_expr (pe_bm PySem.F.plainAttrs_list PySem.F.slot_list_extend PySem.F.type_list_extend mt_extend (pv 2) (pa_cons (pv 6) pa_nil)))
        (pss_one (ps_set (i := 3) nd rfl (Or.inl rfl) (pv 5)))))))))
      (pss_one (ps_ret (pv 2)))))), ?_⟩
    -- league = League()
    intro L dL nL ndL neL
    refine ⟨L, dL, rfl, upd_same, fun H1 hL1 k1 => ⟨rfl, ?_⟩⟩
    have s1 : Same H H1 := Same.made nL ndL k1
    -- told = []; place = 0
    refine ⟨Nat.zero_le _, fun t ht => ?_⟩
    have s2 : Same H1 (upd H1 t (.lst [])) := Same.upd (Same.refl H1) ht
    -- the loop
    refine while_by (fun σ H' => ∃ p n m f st out cs', Loop C H a L t ns (due none cs) σ H' p n m f st out cs') (mu ns.length) ?_ ?_ ?_
    · refine ⟨0, 0, 0, ns.length, none, [], cs, ⟨none, none, none, rfl⟩, s1.trans s2, hL1.same s2, upd_same, .inl ⟨rfl, rfl, rfl⟩, Nat.zero_le _, hcs, rfl⟩
    · rintro σ H' ⟨p, n, m, f, st, out, cs', ⟨v4, v5, v6, rfl⟩, sm, lg, tl, rp, pl, pc, du⟩
      have hS' := sm.seq hS
      refine ⟨_, rfl, _, rfl, a, _, rfl, .inl hS', _, _, rfl, rfl, _, rfl, ?_⟩
      rw [List.length_map]
      refine ite2 (fun q => ?_) fun q => ?_
      · have hp : p < ns.length := by
          have := of_decide_eq_true q
          omega
        obtain ⟨x, hx⟩ : ∃ x, ns[p]? = some x := ⟨_, List.getElem?_eq_getElem hp⟩
        have ed : ns.drop p = x :: ns.drop (p + 1) := by
          have := List.drop_eq_getElem_cons hp
          rw [this]
          congr 1
          rw [List.getElem?_eq_getElem hp] at hx
          exact Option.some.inj hx
        rw [ed, List.map_cons] at pc
        obtain ⟨c, kk, f', cs2, ec, htk, hk, ecs, hc2⟩ := calls_cons pc
        have ecx : x = c := by omega
        subst ecx
        rw [List.length_map, List.length_drop] at hk
        -- call, behind
        refine ⟨_, rfl, _, rfl, a, _, _, _, rfl, rfl, hS', at_of (j := p) (v := vi x) rfl (by rw [List.getElem?_map, hx]; rfl), ?_⟩
        refine ⟨_, rfl, _, _, rfl, rfl, _, rfl, tk, _, _, _, rfl, rfl, sT H', at_of (j := x) (v := vi kk) rfl (by rw [List.getElem?_map, htk]; rfl), _, _, rfl, rfl, ?_⟩
        -- answer
        refine ⟨_, rfl, _, rfl, _, rfl, ⟨_, rfl, _, _, rfl, rfl, _, rfl, _, rfl, _, rfl, a, _, rfl, hS', fun u hu => ?_⟩⟩
        rw [cut_eq (by omega)]
        have s3 : Same H' (upd H' u (.lst (((ns.drop (p + 1)).take kk).map vi))) := Same.upd (Same.refl H') hu
        have hl : ((ns.drop (p + 1)).take kk).length = kk := by
          rw [List.length_take, List.length_drop]
          omega
        refine ⟨L, u, x, n, m, (ns.drop (p + 1)).take kk, rfl, lg.same s3, upd_same, by rw [hl]; exact htk, rp.le, rp.lt, fun H4 r lg4 k4 hr4 h4 => ?_⟩
        obtain ⟨d1, d2⟩ := hD st x n m ((ns.drop (p + 1)).take kk) rp (by rw [hl]; exact htk)
        have eas : (((ns.drop (p + 1)).map fun (x : Nat) => (x : Int)).take kk) = ((ns.drop (p + 1)).take kk).map fun (x : Nat) => (x : Int) := by rw [List.map_take]
        rw [ecs, due_cons, eas] at du
        rw [d2] at du
        generalize hst : (Kqm5Neutral.step st [(x : Int) :: ((ns.drop (p + 1)).take kk).map fun (x : Nat) => (x : Int)]).1 = st' at d1 du
        generalize hg : gA x n m ((ns.drop (p + 1)).take kk) = g at lg4 h4 d1 du
        have neL : t ≠ L := fun q => by
          obtain ⟨dx, e⟩ := lg
          rw [← q, tl] at e
          cases e
        have neu : t ≠ u := ne_of_none tl hu
        have tl3 : (upd H' u (.lst (((ns.drop (p + 1)).take kk).map vi))) t = some (.lst (out.map V.int)) := s3 _ _ tl
        have tl4 : H4 t = some (.lst (out.map V.int)) := k4 t _ neL tl3
        have ner : r ≠ t := fun q => by
          rw [q, tl3] at hr4
          cases hr4
        have sm4 : Same H H4 := fun b o e => by
          have nb : b ≠ L := ne_of_none e nL
          exact k4 b o nb (s3 b o (sm b o e))
        have tot : out.length + (1 + g.2.length) ≤ 10000000 := by
          have := congrArg List.length du
          rw [List.length_append, List.length_append, List.length_cons] at this
          omega
        have sz : (10000000 : Nat) < sizeLine := by rw [sizeLine_eq]; decide
        -- told.append(len(answer))
        refine ⟨_, rfl, .inl ⟨rfl, _, SqL.of tl4⟩, _, rfl, r, _, rfl, .inl (SqL.of h4), t, _, _, rfl, rfl, tl4, ?_, ?_⟩
        · rw [List.length_map]
          omega
        -- told.extend(answer)
        rw [List.length_map]
        have tl5 : (upd H4 t (.lst (out.map V.int ++ [V.int (g.2.length : Int)]))) t = some (.lst (out.map V.int ++ [V.int (g.2.length : Int)])) := upd_same
        have h5 : (upd H4 t (.lst (out.map V.int ++ [V.int (g.2.length : Int)]))) r = some (.lst (g.2.map V.int)) := by rw [upd_ne ner]; exact h4
        refine ⟨_, rfl, .inl ⟨rfl, _, SqL.of tl5⟩, _, rfl, t, r, _, _, rfl, rfl, tl5, h5, ?_, ?_⟩
        · rw [List.length_append, List.length_map, List.length_map]
          show out.length + 1 + g.2.length ≤ sizeLine
          omega
        -- place = behind
        refine ⟨_, rfl, ?_⟩
        have nt : H t = Option.none := s1.free ht
        refine ⟨⟨p + 1 + kk, g.1.1, g.1.2, f', st', out ++ ((g.2.length : Int) :: g.2), cs2, ⟨some (vi x), some (V.int ((p + 1 + kk : Nat) : Int)), some (V.ref r), ?_⟩, fun b o e => ?_, ?_, ?_, d1, by omega, ?_, ?_⟩, ?_⟩
        · show [some (V.ref a), some (V.ref L), some (V.ref t), some (V.int ((p : Int) + 1 + (kk : Int))), some (vi x), some (V.int ((p : Int) + 1 + (kk : Int))), some (V.ref r)] = _
          rw [show ((p : Int) + 1 + (kk : Int)) = ((p + 1 + kk : Nat) : Int) by omega]
        · have nb : b ≠ t := ne_of_none e nt
          rw [upd_ne nb, upd_ne nb]
          exact sm4 b o e
        · obtain ⟨dx, e⟩ := lg4
          exact ⟨dx, by rw [upd_ne (Ne.symm neL), upd_ne (Ne.symm neL)]; exact e⟩
        · rw [upd_same, List.map_append, List.append_assoc]
          rfl
        · rw [show p + 1 + kk = (p + 1) + kk from rfl, ← List.drop_drop, List.map_drop]
          exact hc2
        · rw [← du]
          simp
        · show ns.length - ((p : Int) + 1 + (kk : Int)).toNat < ns.length - ((p : Int)).toNat
          omega
      · have hp : p = ns.length := by
          have : ¬ ((p : Int) < (ns.length : Int)) := fun z => q (decide_eq_true z)
          omega
        subst hp
        rw [List.drop_length] at pc
        have e := calls_nil pc
        subst e
        rw [due_nil, List.append_nil] at du
        subst du
        exact ⟨_, rfl, k H' t tl⟩
    · rintro σ H' Q1 Q2 hq ⟨v, e, v', e', p, ys, e2, sq, i, j, e3, e4, b, e5, q⟩
      exact ⟨v, e, v', e', p, ys, e2, sq, i, j, e3, e4, b, e5, hq _ _ q⟩
end
end Be
end

section
set_option Elab.async false
set_option linter.all false
set_option maxRecDepth 100000
namespace Be
open PySem PySem.Spec PyProof.Rows L2
open PySem.W (Codec)
theorem df_mk {K : PySem.W.Frag} {h : Heap} {mg : Str → Option Value} {x : Str} {st : Stmt} {ps : List Str} {f : Addr} {oc : Value} {od an : Option Addr} {sl : Array (Option Value)} {kV dc pm cd ct : Value} (X : K.In h) (G : h.Ns mainGlobals mg)
    (a : PySem.W.nsIn K mainGlobals x = some (some (.ref f))) (l : K.lookup f = some ⟨oc, od, .func (PySem.W.fnOf x x (defArgs st) (defBody st) (defScope st) .none kV dc pm an cd ct), sl⟩) (c : PySem.W.codeIn K cd x = true) (k : PySem.W.keepIn K (.ref f) = true)
    (b : ∀ (kV doc pm : Value) (an : Option Addr) (cdv ct : Value) (us : List Value), us.length = ps.length → bindArgs (PySem.W.fnOf x x (defArgs st) (defBody st) (defScope st) .none kV doc pm an cdv ct) ⟨us, []⟩ = pure (ps.zip us)) : Df K mg x st ps := by
  have F := fun_mk (st := st) l c k
  exact ⟨f, _, PySem.W.mg_of X G a, F, F.binds b⟩
theorem in_nn {x : Int} (h : Codec.inInt 0 4294967295 x = true) : 0 ≤ x := by
  unfold Codec.inInt at h
  rw [Bool.and_eq_true] at h
  exact of_decide_eq_true h.1
/-- the request as the loop wants it -/
theorem ask_ok {l : List Int} (h : PyKqm5.answers_asked l = true) : ∃ cs, PyFlat.calls PyKqm5.shape l.length l = some cs ∧ PyKqm5.answers l = due none cs ∧ (due none cs).length ≤ 10000000 := by
  unfold PyKqm5.answers_asked at h
  cases e : PyFlat.calls PyKqm5.shape l.length l with
  | none =>
    rw [e] at h
    cases h
  | some raw =>
    rw [e] at h
    simp only [Bool.and_eq_true] at h
    have h2 := h.2
    unfold PyFlat.short at h2
    rw [answers_due e] at h2
    exact ⟨raw, rfl, answers_due e, of_decide_eq_true h2⟩
theorem nats_of : ∀ (l : List Int), (∀ x ∈ l, 0 ≤ x) → ∃ ns : List Nat, l = ns.map fun (x : Nat) => (x : Int)
  | [], _ => ⟨[], rfl⟩
  | x :: l, h => by
    obtain ⟨ns, e⟩ := nats_of l fun y hy => h y (List.mem_cons_of_mem _ hy)
    have hx := h x (List.mem_cons_self ..)
    exact ⟨x.toNat :: ns, by rw [e, List.map_cons, Int.toNat_of_nonneg hx]⟩
end Be
end

section
set_option Elab.async false
set_option linter.all false
set_option maxRecDepth 100000
namespace Be
open PySem PySem.Spec PyProof.Rows L2
/-- what a call does: refused before a start -/
def gA (gc : Nat → Ans) : Nat → Ans := fun c n m as => if c ≠ 0 ∧ n = 0 then ((n, m), [-11]) else gc c n m as
section
variable {P : Program} {w : World} {K : PySem.W.Frag} {mg : Str → Option Value} {base : Heap} {C : Addr}
theorem scCal : FnScope ["league", "call", "numbers", "answerer"] ["league", "call", "numbers"] (defScope sCal) := ⟨rfl, rfl, rfl, by decide +kernel, rfl, by decide +kernel, by decide +kernel⟩
theorem takes_lt {c k : Nat} (h : takes[c]? = some k) : c < 18 := (List.getElem?_eq_some_iff.mp h).1
theorem okCal {tq : Addr} {tbl : List V} (gc : Nat → Ans) (okc : Nat → Nat → Nat → List Nat → Prop) (T : Txt K mg C) (N : Nums mg) (F : Df K mg "answer_call" sCal ["league", "call", "numbers"]) (hQ : mg "ANSWERERS" = some (.ref tq)) (sQ : ∀ H, SqT K H tq tbl)
    (hok : ∀ c n m (as : List Nat), takes[c]? = some as.length → n ≤ 7 → m < 2 ^ gms n → (c = 0 ∨ 1 ≤ n) → okc c n m as)
    (tab : ∀ c, c < 18 → ∃ f fd, tbl[c]? = some (.ref f) ∧ PySem.W.keepIn K (.ref f) = true ∧ Binds K fd psA [] ∧ FnOk P w K mg base CX0 7 f fd psA (spA C (okc c) (gc c))) :
    Cal P w K mg base 8 "answer_call" ["league", "call", "numbers"] (spCall C (gA gc)) := by
  refine F.cal scCal (fun vs H Q E h => ?_) (fun f cdv A outer s H vs Q E hr h => ?_)
  · obtain ⟨a, b, c, n, m, as, rfl, _⟩ := h
    rfl
  · obtain ⟨a, b, c, n, m, as, rfl, hL, hb, hc, hn, hm, k⟩ := h
    have nd := scCal.nd
    obtain ⟨t1, h1⟩ := N.nst
    obtain ⟨t2, h2⟩ := N.start
    refine ⟨_, pss_cons (ps_if (PW.pt (pw_and (pt_cmpR op_ne (pv 1) (pe_glob rfl h2 relI) (nomark _)) (pw_and1 (pt_cmpR op_eq (pe_fld (pv 0) rfl) pe_int (nomark _))))) (pss_one (ps_ret (pe_lst (pa_cons (pe_glob rfl h1 relI) pa_nil)))) pss_nil)
      (pss_cons (ps_set (i := 3) nd rfl (Or.inl rfl) (pe_ix ix_tup (pe_glob rfl hQ (show RelV (.ref tq) (.ref tq) from rfl)) (pv 1) (fun _ _ => rfl)))
      (pss_one (ps_ret (pe_calV (pv 3) hr (pa_cons (pv 0) (pa_cons (pv 2) pa_nil)))))), ?_⟩
    obtain ⟨dx, hL'⟩ := id hL
    have go : ¬ (c ≠ 0 ∧ n = 0) → ∃ v : V, (some (some (V.int (c : Int))) : Option (Option V)) = some (some v) ∧ rIxT K (.ref tq) v H fun x H1 => gName 3 x [some (.ref a), some (.int c), some (.ref b), none] H1 fun σ H2 => tCalV (cxOf CX0 P w K mg base ["league", "call", "numbers", "answerer"] "answer_call" (defScope sCal) f cdv A outer s H E).nox 7 (tVar 3) (tCons (tVar 0) (tCons (tVar 2) tNil)) σ H2 Q := fun q => by
      obtain ⟨g, fd, e1, e2, e3, e4⟩ := tab c (takes_lt hc)
      refine ⟨_, rfl, tq, _, _, _, rfl, rfl, sQ H, at_of (j := c) (v := .ref g) rfl e1, ?_⟩
      refine ⟨_, rfl, g, fd, psA, _, rfl, e2, e3, e4, _, rfl, _, rfl, a, b, n, m, as, rfl, hL, hb, hok c n m as hc hn hm (by omega), ?_⟩
      have e : gA gc c n m as = gc c n m as := if_neg q
      rw [e] at k
      exact k
    refine ⟨_, rfl, rfl, _, rfl, ite2 (fun q => ?_) fun q => ?_⟩
    · have c0 : c ≠ 0 := fun z => by
        subst z
        exact absurd q (by decide)
      refine ⟨_, rfl, a, C, dx, _, _, rfl, hL', T.cl, T.nP, lf_pl n m, rfl, _, rfl, ite2 (fun q2 => ?_) fun q2 => ?_⟩
      · have n0 : n = 0 := by
          have z := of_decide_eq_true q2
          injection z with z
          omega
        have e : gA gc c n m as = ((n, m), [-11]) := if_pos ⟨c0, n0⟩
        rw [e] at k
        refine ⟨one_le, fun p hp => ?_⟩
        obtain ⟨f1, f2, f3⟩ := fin (vs := [.int (-11)]) hL (Keeps.refl a H) hp
        exact k _ p f1 f2 f3 upd_same
      · have n0 : ¬ n = 0 := fun z => q2 (decide_eq_true (by rw [z]; rfl))
        exact go fun z => n0 z.2
    · have c0 : c = 0 := by
        by_cases z : c = 0
        · exact z
        · exact absurd (show (!decide (V.int (c : Int) = V.int 0)) = true by rw [Bool.not_eq_true', decide_eq_false_iff_not]; intro y; injection y with y; omega) q
      exact go fun z => z.1 c0
end
end Be
end

section
set_option Elab.async false
set_option linter.all false
set_option maxRecDepth 100000
namespace Be
open PySem PySem.Spec PyProof.Rows L2
/-! ### the calls together -/
def gcs : Nat → Ans
  | 0 => gStart
  | 1 => gGames
  | 2 => gTurn
  | 3 => gBeats
  | 4 => gWins
  | 5 => gCovers
  | 6 => gLeft
  | 7 => gFewest
  | 8 => gFirst
  | 9 => gMany
  | 10 => gGreedy
  | 11 => gOver
  | 12 => gAny
  | 13 => gDeep
  | 14 => gSquares
  | 15 => gNeeds
  | 16 => gBare
  | 17 => gState
  | _ => fun n m _ => ((n, m), [])
def okc : Nat → Nat → Nat → List Nat → Prop
  | 0 => fun _ _ as => 0 < as.length
  | 1 => okG 1
  | 2 => okG 2
  | 3 => okG 2
  | 4 => okG 1
  | 5 => okG 1
  | 6 => okG 1
  | 7 => okG 0
  | 8 => okG 0
  | 9 => okG 0
  | 10 => okD
  | 11 => okG 1
  | 12 => okG 1
  | 13 => okD
  | 14 => okG 1
  | 15 => okG 1
  | 16 => okG 0
  | 17 => okG 0
  | _ => fun _ _ _ => False
theorem does : Does (gA gcs) := by
  intro st c n m as rp hc
  have hlt := takes_lt hc
  by_cases c0 : c = 0
  · subst c0
    obtain ⟨x, rfl⟩ := len1 (Option.some.inj hc).symm
    have e : gA gcs 0 n m [x] = if x < 1 ∨ 7 < x then ((n, m), [-22]) else ((x, 0), [0]) := by
      unfold gA
      rw [if_neg (fun z => z.1 rfl)]
      rfl
    rw [e]
    rcases rp with ⟨rfl, rfl, rfl⟩ | ⟨h1, h7, hm, rfl⟩
    · have z := none_start x
      by_cases q : x < 1 ∨ 7 < x
      · rw [if_pos q, if_pos q] at z
        rw [if_pos q]
        exact z
      · rw [if_neg q, if_neg q] at z
        rw [if_neg q]
        exact z
    · exact didStart h1 h7 hm x
  · rcases rp with ⟨rfl, rfl, rfl⟩ | ⟨h1, h7, hm, rfl⟩
    · have e : gA gcs c 0 0 as = ((0, 0), [-11]) := if_pos ⟨c0, rfl⟩
      rw [e, none_other hc c0]
      exact ⟨.inl ⟨rfl, rfl, rfl⟩, rfl⟩
    · have e : gA gcs c n m as = gcs c n m as := if_neg (fun z => by omega)
      rw [e]
      match c, hlt, hc with
      | 0, _, _ => exact absurd rfl c0
      | 1, _, hc => obtain ⟨x, rfl⟩ := len1 (Option.some.inj hc).symm; exact didGames h1 h7 hm x
      | 2, _, hc => obtain ⟨x, y, rfl⟩ := len2 (Option.some.inj hc).symm; exact didTurn h1 h7 hm x y
      | 3, _, hc => obtain ⟨x, y, rfl⟩ := len2 (Option.some.inj hc).symm; exact didBeats h1 h7 hm x y
      | 4, _, hc => obtain ⟨x, rfl⟩ := len1 (Option.some.inj hc).symm; exact didWins h1 h7 hm x
      | 5, _, hc => obtain ⟨x, rfl⟩ := len1 (Option.some.inj hc).symm; exact didCovers h1 h7 hm x
      | 6, _, hc => obtain ⟨x, rfl⟩ := len1 (Option.some.inj hc).symm; exact didLeft h1 h7 hm x
      | 7, _, hc => obtain rfl := len0 (Option.some.inj hc).symm; exact didFewest h1 h7 hm
      | 8, _, hc => obtain rfl := len0 (Option.some.inj hc).symm; exact didFirst h1 h7 hm (first_lt h7)
      | 9, _, hc => obtain rfl := len0 (Option.some.inj hc).symm; have d := didMany h1 h7 hm; rw [many_bits h7] at d; exact d
      | 10, _, hc => obtain rfl := len0 (Option.some.inj hc).symm; exact didGreedy h1 h7 hm
      | 11, _, hc => obtain ⟨x, rfl⟩ := len1 (Option.some.inj hc).symm; exact didOver h1 h7 hm x
      | 12, _, hc => obtain ⟨x, rfl⟩ := len1 (Option.some.inj hc).symm; exact didAny h1 h7 hm x
      | 13, _, hc => obtain rfl := len0 (Option.some.inj hc).symm; exact didDeep h1 h7 hm
      | 14, _, hc => obtain ⟨x, rfl⟩ := len1 (Option.some.inj hc).symm; exact didSquares h1 h7 hm x
      | 15, _, hc => obtain ⟨x, rfl⟩ := len1 (Option.some.inj hc).symm; exact didNeeds h1 h7 hm x
      | 16, _, hc => obtain rfl := len0 (Option.some.inj hc).symm; exact didBare h1 h7 hm
      | 17, _, hc => obtain rfl := len0 (Option.some.inj hc).symm; exact didState h1 h7 hm
      | c + 18, _, hc => exact absurd (takes_lt hc) (by omega)
theorem okc_of : ∀ c n m (as : List Nat), takes[c]? = some as.length → n ≤ 7 → m < 2 ^ gms n → (c = 0 ∨ 1 ≤ n) → okc c n m as := by
  intro c n m as hc h7 hm h1
  match c, hc with
  | 0, hc => have := Option.some.inj hc; show 0 < as.length; omega
  | 1, hc => exact ⟨h7, Nat.le_of_eq (Option.some.inj hc)⟩
  | 2, hc => exact ⟨h7, Nat.le_of_eq (Option.some.inj hc)⟩
  | 3, hc => exact ⟨h7, Nat.le_of_eq (Option.some.inj hc)⟩
  | 4, hc => exact ⟨h7, Nat.le_of_eq (Option.some.inj hc)⟩
  | 5, hc => exact ⟨h7, Nat.le_of_eq (Option.some.inj hc)⟩
  | 6, hc => exact ⟨h7, Nat.le_of_eq (Option.some.inj hc)⟩
  | 7, hc => exact ⟨h7, Nat.zero_le _⟩
  | 8, hc => exact ⟨h7, Nat.zero_le _⟩
  | 9, hc => exact ⟨h7, Nat.zero_le _⟩
  | 10, hc => exact ⟨by omega, h7⟩
  | 11, hc => exact ⟨h7, Nat.le_of_eq (Option.some.inj hc)⟩
  | 12, hc => exact ⟨h7, Nat.le_of_eq (Option.some.inj hc)⟩
  | 13, hc => exact ⟨by omega, h7⟩
  | 14, hc => exact ⟨h7, Nat.le_of_eq (Option.some.inj hc)⟩
  | 15, hc => exact ⟨h7, Nat.le_of_eq (Option.some.inj hc)⟩
  | 16, hc => exact ⟨h7, Nat.zero_le _⟩
  | 17, hc => exact ⟨h7, Nat.zero_le _⟩
  | c + 18, hc => exact absurd (takes_lt hc) (by omega)
end Be
end

section
set_option Elab.async false
set_option linter.all false
set_option maxRecDepth 100000
namespace Be
open PySem PySem.Spec PyProof.Rows L2
/-- the defs of the text -/
structure Defs (K : PySem.W.Frag) (mg : Str → Option Value) : Prop where
  d10 : Df K mg "how_many_games" (top 10) ["players"]
  d11 : Df K mg "game_weight" (top 11) ["players", "one", "other"]
  d12 : Df K mg "did_beat" (top 12) ["league", "one", "other"]
  d13 : Df K mg "beaten_by" (top 13) ["league", "one"]
  d14 : Df K mg "set_of" (top 14) ["players"]
  d15 : Df K mg "players_of" (top 15) ["chosen"]
  d16 : Df K mg "set_size" (top 16) ["chosen"]
  d17 : Df K mg "beaten_sets" (top 17) ["league"]
  d18 : Df K mg "reaches" (top 18) ["league"]
  d19 : Df K mg "left_by" (top 19) ["reached", "chosen"]
  d20 : Df K mg "fewest_sets" (top 20) ["league"]
  d21 : Df K mg "who_takes_most" (top 21) ["reached", "remaining"]
  d22 : Df K mg "one_by_one" (top 22) ["league"]
  d23 : Df K mg "those_over" (top 23) ["beaten", "chosen"]
  d24 : Df K mg "each_has_one_over" (top 24) ["league", "size"]
  d25 : Df K mg "greatest_depth" (top 25) ["league"]
  d26 : Df K mg "number_by_squares" (top 26) ["players"]
  d27 : Df K mg "is_missing" (top 27) ["league", "one"]
  d28 : Df K mg "has_missing" (top 28) ["league", "chosen"]
  d29 : Df K mg "counted" (top 29) ["players"]
  d30 : Df K mg "answer_start" (top 30) psA
  d31 : Df K mg "answer_games" (top 31) psA
  d32 : Df K mg "answer_turn" (top 32) psA
  d33 : Df K mg "answer_beats" (top 33) psA
  d34 : Df K mg "answer_wins" (top 34) psA
  d35 : Df K mg "answer_covers" (top 35) psA
  d36 : Df K mg "answer_left" (top 36) psA
  d37 : Df K mg "answer_fewest" (top 37) psA
  d38 : Df K mg "answer_first" (top 38) psA
  d39 : Df K mg "answer_many" (top 39) psA
  d40 : Df K mg "answer_greedy" (top 40) psA
  d41 : Df K mg "answer_over" (top 41) psA
  d42 : Df K mg "answer_any" (top 42) psA
  d43 : Df K mg "answer_deep" (top 43) psA
  d44 : Df K mg "answer_squares" (top 44) psA
  d45 : Df K mg "answer_needs" (top 45) psA
  d46 : Df K mg "answer_bare" (top 46) psA
  d47 : Df K mg "answer_state" (top 47) psA
  d49 : Df K mg "answer_call" (top 49) ["league", "call", "numbers"]
/-- the tables of the text -/
structure Tabs (K : PySem.W.Frag) (mg : Str → Option Value) (tk tq tb f0 f1 f2 f3 f4 f5 f6 f7 f8 f9 f10 f11 f12 f13 f14 f15 f16 f17 : Addr) : Prop where
  mT : mg "TAKES" = some (.ref tk)
  sT : ∀ H, SqT K H tk (takes.map vi)
  mQ : mg "ANSWERERS" = some (.ref tq)
  sQ : ∀ H, SqT K H tq [.ref f0, .ref f1, .ref f2, .ref f3, .ref f4, .ref f5, .ref f6, .ref f7, .ref f8, .ref f9, .ref f10, .ref f11, .ref f12, .ref f13, .ref f14, .ref f15, .ref f16, .ref f17]
  mB : mg "BY_SQUARES" = some (.ref tb)
  sB : ∀ H, SqT K H tb [.int 3, .int 7]
  a0 : mg "answer_start" = some (.ref f0)
  a1 : mg "answer_games" = some (.ref f1)
  a2 : mg "answer_turn" = some (.ref f2)
  a3 : mg "answer_beats" = some (.ref f3)
  a4 : mg "answer_wins" = some (.ref f4)
  a5 : mg "answer_covers" = some (.ref f5)
  a6 : mg "answer_left" = some (.ref f6)
  a7 : mg "answer_fewest" = some (.ref f7)
  a8 : mg "answer_first" = some (.ref f8)
  a9 : mg "answer_many" = some (.ref f9)
  a10 : mg "answer_greedy" = some (.ref f10)
  a11 : mg "answer_over" = some (.ref f11)
  a12 : mg "answer_any" = some (.ref f12)
  a13 : mg "answer_deep" = some (.ref f13)
  a14 : mg "answer_squares" = some (.ref f14)
  a15 : mg "answer_needs" = some (.ref f15)
  a16 : mg "answer_bare" = some (.ref f16)
  a17 : mg "answer_state" = some (.ref f17)
section
variable {P : Program} {w : World} {K : PySem.W.Frag} {mg : Str → Option Value} {base : Heap} {C : Addr}
theorem ent {x : Str} {k : Nat} {sp : Sp} {f : Addr} (c : Cal P w K mg base k x psA sp) (h : mg x = some (.ref f)) (hk : k ≤ 7) : ∃ g fd, some (V.ref f) = some (V.ref g) ∧ PySem.W.keepIn K (.ref g) = true ∧ Binds K fd psA [] ∧ FnOk P w K mg base CX0 7 g fd psA sp := by
  obtain ⟨g, fd, h1, h2, h3, h4⟩ := c
  rw [h] at h1
  cases h1
  exact ⟨f, fd, rfl, h2, h3, h4.mono hk⟩
theorem okAll {tk tq tb f0 f1 f2 f3 f4 f5 f6 f7 f8 f9 f10 f11 f12 f13 f14 f15 f16 f17 fI f : Addr} {fd fdI : FuncData} (T : Txt K mg C) (N : Nums mg) (M : Mk K C fI) (FI : Fun K "__init__" "League.__init__" sIni fI fdI) (bI : Binds K fdI ["self"] []) (F : Fun K "answers" "answers" sAns f fd) (D : Defs K mg)
    (B : Tabs K mg tk tq tb f0 f1 f2 f3 f4 f5 f6 f7 f8 f9 f10 f11 f12 f13 f14 f15 f16 f17) : FnOk P w K mg base CX0 9 f fd ["calls"] (spAns K) := by
  have cG : Cal P w K mg base 1 "how_many_games" ["players"] spGms := okGms D.d10
  have cW : Cal P w K mg base 1 "game_weight" ["players", "one", "other"] spWgt := okWgt T D.d11
  have cD : Cal P w K mg base 2 "did_beat" ["league", "one", "other"] (spDid C) := okDid T D.d12 cW
  have cB : Cal P w K mg base 3 "beaten_by" ["league", "one"] (spBtn C) := okBtn T D.d13 cD
  have cS : Cal P w K mg base 1 "set_of" ["players"] (spSet K) := okSet T D.d14
  have cP : Cal P w K mg base 1 "players_of" ["chosen"] spPls := okPls T D.d15
  have cZ : Cal P w K mg base 2 "set_size" ["chosen"] spSiz := okSiz T D.d16 cP
  have cT : Cal P w K mg base 4 "beaten_sets" ["league"] (spBst C) := okBst T D.d17 cS cB
  have cR : Cal P w K mg base 5 "reaches" ["league"] (spRch C) := okRch T D.d18 cT
  have cL : Cal P w K mg base 2 "left_by" ["reached", "chosen"] (spLft K) := okLft T D.d19 cP
  have cF : Cal P w K mg base 6 "fewest_sets" ["league"] (spFws C) := okFws T D.d20 cR cL cZ
  have cY : Cal P w K mg base 3 "who_takes_most" ["reached", "remaining"] (spWho K) := okWho T D.d21 cZ
  have cO : Cal P w K mg base 6 "one_by_one" ["league"] (spObo C) := okObo T D.d22 cR cL cY
  have cV : Cal P w K mg base 1 "those_over" ["beaten", "chosen"] (spOvr K) := okOvr T D.d23
  have cE : Cal P w K mg base 5 "each_has_one_over" ["league", "size"] (spEoo C) := okEoo T D.d24 cT cZ cV
  have cX : Cal P w K mg base 6 "greatest_depth" ["league"] (spDep C) := okDep D.d25 cE
  have cQ : Cal P w K mg base 2 "number_by_squares" ["players"] spSqr := okSqr T D.d26 cW
  have cM : Cal P w K mg base 1 "is_missing" ["league", "one"] (spMis C) := okMis T D.d27
  have cH : Cal P w K mg base 1 "has_missing" ["league", "chosen"] (spHas C) := okHas T D.d28
  have cN : Cal P w K mg base 1 "counted" ["players"] spCnt := okCnt T D.d29
  have cC := okCal (P := P) (w := w) (base := base) gcs okc T N D.d49 B.mQ B.sQ okc_of fun c hc => by
    match c, hc with
    | 0, _ => exact ent (okSta T N D.d30) B.a0 (by decide)
    | 1, _ => exact ent (okGam T N D.d31 cG) B.a1 (by decide)
    | 2, _ => exact ent (okTur T N D.d32 cM cW cD) B.a2 (by decide)
    | 3, _ => exact ent (okBea T N D.d33 cM cD) B.a3 (by decide)
    | 4, _ => exact ent (okWin T N D.d34 cM cB) B.a4 (by decide)
    | 5, _ => exact ent (okCov T N D.d35 cH cR cL) B.a5 (by decide)
    | 6, _ => exact ent (okLef T N D.d36 cH cR cL cP cN) B.a6 (by decide)
    | 7, _ => exact ent (okFew D.d37 cZ cF) B.a7 (by decide)
    | 8, _ => exact ent (okFir D.d38 cP cF) B.a8 (by decide)
    | 9, _ => exact ent (okMan T D.d39 cF) B.a9 (by decide)
    | 10, _ => exact ent (okGre D.d40 cO cN) B.a10 (by decide)
    | 11, _ => exact ent (okOve T N D.d41 cH cT cV cN) B.a11 (by decide)
    | 12, _ => exact ent (okAny D.d42 cE) B.a12 (by decide)
    | 13, _ => exact ent (okDee D.d43 cX) B.a13 (by decide)
    | 14, _ => exact ent (okSqu T N D.d44 B.mB B.sB cQ) B.a14 (by decide)
    | 15, _ => exact ent (okNee T N D.d45) B.a15 (by decide)
    | 16, _ => exact ent (okBar T D.d46 cB cN) B.a16 (by decide)
    | 17, _ => exact ent (okStt T D.d47) B.a17 (by decide)
    | c + 18, hc => exact absurd hc (by omega)
  exact okAns _ does T M FI bI F B.mT B.sT cC
end
/-- a tuple of the top -/
theorem sq_mk {K : PySem.W.Frag} {t : Addr} {oc : Value} {od : Option Addr} {its : Array Value} {n : Nat} {sl : Array (Option Value)} {xs : List V} (l : K.lookup t = some ⟨oc, od, .seq its n, sl⟩) (hc : oc = .type "tuple") (hz : its.size ≤ sizeLine) (hv : Vals xs its.toList) : ∀ H, SqT K H t xs :=
  fun _ => .inr ⟨_, its, n, l, hc, rfl, hz, hv⟩
end Be
end

section
open PySem PySem.W PyProof.Rows
set_option Elab.async false
set_option linter.all false
namespace Be
open PySem PySem.Spec PyProof.Rows L2
theorem head_mk {P : Program} {w : World} {K : PySem.W.Frag} {h : Heap} {mg : Str → Option Value} {fa C fI fA tk tq tb f0 f1 f2 f3 f4 f5 f6 f7 f8 f9 f10 f11 f12 f13 f14 f15 f16 f17 : Addr} {odI anI odA anA odT odQ odB : Option Addr} {slI slA slT slQ slB : Array (Option Value)} {ocI kVI dcI pmI cdI ctI ocA kVA dcA pmA cdA ctA ocT ocQ ocB : Value} {itT : Array Value} {nT nQ nB : Nat} {u1 u2 u3 u4 u5 u6 v1 v2 : Tok}
    (X : K.In h) (G : h.Ns mainGlobals mg) (hfa : mg "answers" = some (.ref fa)) (D : Defs K mg)
    (aC : PySem.W.nsIn K mainGlobals "League" = some (some (.ref C)))
    (aI : PySem.W.findIn K (.ref C) "__init__" = some (some (.ref fI))) (iI : PySem.W.isFn K (.ref fI) = true) (lI : K.lookup fI = some ⟨ocI, odI, .func (PySem.W.fnOf "__init__" "League.__init__" (defArgs sIni) (defBody sIni) (defScope sIni) .none kVI dcI pmI anI cdI ctI), slI⟩) (cI : PySem.W.codeIn K cdI "League.__init__" = true) (kI : PySem.W.keepIn K (.ref fI) = true)
    (aA : PySem.W.nsIn K mainGlobals "answers" = some (some (.ref fA))) (lA : K.lookup fA = some ⟨ocA, odA, .func (PySem.W.fnOf "answers" "answers" (defArgs sAns) (defBody sAns) (defScope sAns) .none kVA dcA pmA anA cdA ctA), slA⟩) (cA : PySem.W.codeIn K cdA "answers" = true) (kA : PySem.W.keepIn K (.ref fA) = true)
    (aT : PySem.W.nsIn K mainGlobals "TAKES" = some (some (.ref tk))) (lT : K.lookup tk = some ⟨ocT, odT, .seq itT nT, slT⟩) (eT : ocT = .type "tuple") (zT : itT.size ≤ sizeLine) (vT : Vals (takes.map vi) itT.toList)
    (aB : PySem.W.nsIn K mainGlobals "BY_SQUARES" = some (some (.ref tb))) (lB : K.lookup tb = some ⟨ocB, odB, .seq #[.int 3 v1, .int 7 v2] nB, slB⟩) (eB : ocB = .type "tuple")
    (aQ : PySem.W.nsIn K mainGlobals "ANSWERERS" = some (some (.ref tq)))
    (q0 : PySem.W.nsIn K mainGlobals "answer_start" = some (some (.ref f0)))
    (q1 : PySem.W.nsIn K mainGlobals "answer_games" = some (some (.ref f1)))
    (q2 : PySem.W.nsIn K mainGlobals "answer_turn" = some (some (.ref f2)))
    (q3 : PySem.W.nsIn K mainGlobals "answer_beats" = some (some (.ref f3)))
    (q4 : PySem.W.nsIn K mainGlobals "answer_wins" = some (some (.ref f4)))
    (q5 : PySem.W.nsIn K mainGlobals "answer_covers" = some (some (.ref f5)))
    (q6 : PySem.W.nsIn K mainGlobals "answer_left" = some (some (.ref f6)))
    (q7 : PySem.W.nsIn K mainGlobals "answer_fewest" = some (some (.ref f7)))
    (q8 : PySem.W.nsIn K mainGlobals "answer_first" = some (some (.ref f8)))
    (q9 : PySem.W.nsIn K mainGlobals "answer_many" = some (some (.ref f9)))
    (q10 : PySem.W.nsIn K mainGlobals "answer_greedy" = some (some (.ref f10)))
    (q11 : PySem.W.nsIn K mainGlobals "answer_over" = some (some (.ref f11)))
    (q12 : PySem.W.nsIn K mainGlobals "answer_any" = some (some (.ref f12)))
    (q13 : PySem.W.nsIn K mainGlobals "answer_deep" = some (some (.ref f13)))
    (q14 : PySem.W.nsIn K mainGlobals "answer_squares" = some (some (.ref f14)))
    (q15 : PySem.W.nsIn K mainGlobals "answer_needs" = some (some (.ref f15)))
    (q16 : PySem.W.nsIn K mainGlobals "answer_bare" = some (some (.ref f16)))
    (q17 : PySem.W.nsIn K mainGlobals "answer_state" = some (some (.ref f17)))
    (lQ : K.lookup tq = some ⟨ocQ, odQ, .seq #[.ref f0, .ref f1, .ref f2, .ref f3, .ref f4, .ref f5, .ref f6, .ref f7, .ref f8, .ref f9, .ref f10, .ref f11, .ref f12, .ref f13, .ref f14, .ref f15, .ref f16, .ref f17] nQ, slQ⟩) (eQ : ocQ = .type "tuple")
    (pg : PySem.W.plainGet K C Str.empty = true) (hd : PySem.W.hasDictIn K C = true) (po : PySem.W.plainOver K C = true) (sa : PySem.W.findIn K (.ref C) "__setattr__" = some (some (.builtin "object.__setattr__"))) (mk : PySem.W.makesIn K C = true) (kc : PySem.W.keepIn K (.ref C) = true)
    (nP : PySem.W.findIn K (.ref C) "players" = some none) (nN : PySem.W.findIn K (.ref C) "number" = some none)
    (b_len : PySem.W.nsIn K mainGlobals "len" = some none)
    (b_min : PySem.W.nsIn K mainGlobals "min" = some none)
    (b_max : PySem.W.nsIn K mainGlobals "max" = some none)
    (b_sum : PySem.W.nsIn K mainGlobals "sum" = some none)
    (b_range : PySem.W.nsIn K mainGlobals "range" = some none)
    (b_enumerate : PySem.W.nsIn K mainGlobals "enumerate" = some none)
    (b_all : PySem.W.nsIn K mainGlobals "all" = some none)
    (n0 : PySem.W.nsIn K mainGlobals "OUT_OF_RANGE" = some (some (.int (-22) u1)))
    (n1 : PySem.W.nsIn K mainGlobals "NO_SUCH_PLAYER" = some (some (.int (-2) u2)))
    (n2 : PySem.W.nsIn K mainGlobals "NOT_STARTED" = some (some (.int (-11) u3)))
    (n3 : PySem.W.nsIn K mainGlobals "MOST_PLAYERS" = some (some (.int 7 u4)))
    (n4 : PySem.W.nsIn K mainGlobals "START" = some (some (.int 0 u5)))
    (n5 : PySem.W.nsIn K mainGlobals "MOST_NEEDED_FOR" = some (some (.int 20 u6)))
    : ∃ fd : FuncData, (∀ (s : Shared) (us : List Value), us.length = (["calls"] : List Str).length → BindsTo s fd ⟨us, []⟩ ((["calls"] : List Str).zip us)) ∧ ∀ base : Heap, K.In base → base.Ns mainGlobals mg → FnOk P w K mg base CX0 9 fa fd ["calls"] (spAns K) := by
  have e := hfa.symm.trans (PySem.W.mg_of X G aA)
  cases e
  have T : Txt K mg C := ⟨⟨pg, hd, po, sa⟩, nP, nN, PySem.W.mg_of X G aC, PySem.W.mg_none_of X G b_len, PySem.W.mg_none_of X G b_min, PySem.W.mg_none_of X G b_max, PySem.W.mg_none_of X G b_sum, PySem.W.mg_none_of X G b_range, PySem.W.mg_none_of X G b_enumerate, PySem.W.mg_none_of X G b_all⟩
  have N : Nums mg := ⟨⟨_, PySem.W.mg_of X G n0⟩, ⟨_, PySem.W.mg_of X G n1⟩, ⟨_, PySem.W.mg_of X G n2⟩, ⟨_, PySem.W.mg_of X G n3⟩, ⟨_, PySem.W.mg_of X G n4⟩, ⟨_, PySem.W.mg_of X G n5⟩⟩
  have FI := fun_mk (st := sIni) lI cI kI
  have FA := fun_mk (st := sAns) lA cA kA
  have bI := FI.binds (ps := ["self"]) fun _ _ _ _ _ _ us hl => match us, hl with | [_], _ => rfl
  have B : Tabs K mg tk tq tb f0 f1 f2 f3 f4 f5 f6 f7 f8 f9 f10 f11 f12 f13 f14 f15 f16 f17 := ⟨PySem.W.mg_of X G aT, sq_mk lT eT zT vT, PySem.W.mg_of X G aQ, sq_mk lQ eQ (by show 18 ≤ sizeLine; decide) (.cons rfl (.cons rfl (.cons rfl (.cons rfl (.cons rfl (.cons rfl (.cons rfl (.cons rfl (.cons rfl (.cons rfl (.cons rfl (.cons rfl (.cons rfl (.cons rfl (.cons rfl (.cons rfl (.cons rfl (.cons rfl (.nil))))))))))))))))))), PySem.W.mg_of X G aB, sq_mk lB eB (by show 2 ≤ sizeLine; decide) (.cons ⟨_, rfl⟩ (.cons ⟨_, rfl⟩ .nil)), PySem.W.mg_of X G q0, PySem.W.mg_of X G q1, PySem.W.mg_of X G q2, PySem.W.mg_of X G q3, PySem.W.mg_of X G q4, PySem.W.mg_of X G q5, PySem.W.mg_of X G q6, PySem.W.mg_of X G q7, PySem.W.mg_of X G q8, PySem.W.mg_of X G q9, PySem.W.mg_of X G q10, PySem.W.mg_of X G q11, PySem.W.mg_of X G q12, PySem.W.mg_of X G q13, PySem.W.mg_of X G q14, PySem.W.mg_of X G q15, PySem.W.mg_of X G q16, PySem.W.mg_of X G q17⟩
  exact ⟨PySem.W.fnOf "answers" "answers" (defArgs sAns) (defBody sAns) (defScope sAns) .none kVA dcA pmA anA cdA ctA, fun s us hu => match us, hu with | [_], _ => .of_eq rfl, fun base _ _ => okAll T N ⟨mk, aI, iI, kc⟩ FI bI FA D B⟩
end Be
set_option maxRecDepth 100000 in
set_option maxHeartbeats 0 in
theorem PySem.Challenge.cw_beatall_s01_answers_holds : PySem.Challenge.rw_beatall_s01_answers.Holds := by
  w_on; k_headS; (case hw => exact ⟨[.list [.int 7]], by decide +kernel, by decide +kernel⟩)
  k_fillS
  refine L2.walk_specK (r := PySem.Challenge.rw_beatall_s01_answers) (k := 9) (CX := L2.CX0) (ps := ["calls"]) (sp := Be.spAns) (by decide +kernel) rfl rfl ⟨rfl, by decide, by decide⟩ (fun w h Y => PySem.W.kIn_of Y) ?F ?S (fun _ _ _ _ z => z)
  case F =>
    intro w mg fa h Y KX G hmg
    have D : Be.Defs (L2.KOf KX) mg := by
      dsimp only [L2.KOf]
      refine' ⟨?d10, ?d11, ?d12, ?d13, ?d14, ?d15, ?d16, ?d17, ?d18, ?d19, ?d20, ?d21, ?d22, ?d23, ?d24, ?d25, ?d26, ?d27, ?d28, ?d29, ?d30, ?d31, ?d32, ?d33, ?d34, ?d35, ?d36, ?d37, ?d38, ?d39, ?d40, ?d41, ?d42, ?d43, ?d44, ?d45, ?d46, ?d47, ?d49⟩
      (case d10 =>
        refine' Be.df_mk KX G ?a ?l ?c ?k ?b
        (case a => k_is); (case l => k_is); (case c => k_is); (case k => k_is)
        (case b => exact fun _ _ _ _ _ _ us hl => match us, hl with | [_], _ => rfl))
      (case d11 =>
        refine' Be.df_mk KX G ?a ?l ?c ?k ?b
        (case a => k_is); (case l => k_is); (case c => k_is); (case k => k_is)
        (case b => exact fun _ _ _ _ _ _ us hl => match us, hl with | [_, _, _], _ => rfl))
      (case d12 =>
        refine' Be.df_mk KX G ?a ?l ?c ?k ?b
        (case a => k_is); (case l => k_is); (case c => k_is); (case k => k_is)
        (case b => exact fun _ _ _ _ _ _ us hl => match us, hl with | [_, _, _], _ => rfl))
      (case d13 =>
        refine' Be.df_mk KX G ?a ?l ?c ?k ?b
        (case a => k_is); (case l => k_is); (case c => k_is); (case k => k_is)
        (case b => exact fun _ _ _ _ _ _ us hl => match us, hl with | [_, _], _ => rfl))
      (case d14 =>
        refine' Be.df_mk KX G ?a ?l ?c ?k ?b
        (case a => k_is); (case l => k_is); (case c => k_is); (case k => k_is)
        (case b => exact fun _ _ _ _ _ _ us hl => match us, hl with | [_], _ => rfl))
      (case d15 =>
        refine' Be.df_mk KX G ?a ?l ?c ?k ?b
        (case a => k_is); (case l => k_is); (case c => k_is); (case k => k_is)
        (case b => exact fun _ _ _ _ _ _ us hl => match us, hl with | [_], _ => rfl))
      (case d16 =>
        refine' Be.df_mk KX G ?a ?l ?c ?k ?b
        (case a => k_is); (case l => k_is); (case c => k_is); (case k => k_is)
        (case b => exact fun _ _ _ _ _ _ us hl => match us, hl with | [_], _ => rfl))
      (case d17 =>
        refine' Be.df_mk KX G ?a ?l ?c ?k ?b
        (case a => k_is); (case l => k_is); (case c => k_is); (case k => k_is)
        (case b => exact fun _ _ _ _ _ _ us hl => match us, hl with | [_], _ => rfl))
      (case d18 =>
        refine' Be.df_mk KX G ?a ?l ?c ?k ?b
        (case a => k_is); (case l => k_is); (case c => k_is); (case k => k_is)
        (case b => exact fun _ _ _ _ _ _ us hl => match us, hl with | [_], _ => rfl))
      (case d19 =>
        refine' Be.df_mk KX G ?a ?l ?c ?k ?b
        (case a => k_is); (case l => k_is); (case c => k_is); (case k => k_is)
        (case b => exact fun _ _ _ _ _ _ us hl => match us, hl with | [_, _], _ => rfl))
      (case d20 =>
        refine' Be.df_mk KX G ?a ?l ?c ?k ?b
        (case a => k_is); (case l => k_is); (case c => k_is); (case k => k_is)
        (case b => exact fun _ _ _ _ _ _ us hl => match us, hl with | [_], _ => rfl))
      (case d21 =>
        refine' Be.df_mk KX G ?a ?l ?c ?k ?b
        (case a => k_is); (case l => k_is); (case c => k_is); (case k => k_is)
        (case b => exact fun _ _ _ _ _ _ us hl => match us, hl with | [_, _], _ => rfl))
      (case d22 =>
        refine' Be.df_mk KX G ?a ?l ?c ?k ?b
        (case a => k_is); (case l => k_is); (case c => k_is); (case k => k_is)
        (case b => exact fun _ _ _ _ _ _ us hl => match us, hl with | [_], _ => rfl))
      (case d23 =>
        refine' Be.df_mk KX G ?a ?l ?c ?k ?b
        (case a => k_is); (case l => k_is); (case c => k_is); (case k => k_is)
        (case b => exact fun _ _ _ _ _ _ us hl => match us, hl with | [_, _], _ => rfl))
      (case d24 =>
        refine' Be.df_mk KX G ?a ?l ?c ?k ?b
        (case a => k_is); (case l => k_is); (case c => k_is); (case k => k_is)
        (case b => exact fun _ _ _ _ _ _ us hl => match us, hl with | [_, _], _ => rfl))
      (case d25 =>
        refine' Be.df_mk KX G ?a ?l ?c ?k ?b
        (case a => k_is); (case l => k_is); (case c => k_is); (case k => k_is)
        (case b => exact fun _ _ _ _ _ _ us hl => match us, hl with | [_], _ => rfl))
      (case d26 =>
        refine' Be.df_mk KX G ?a ?l ?c ?k ?b
        (case a => k_is); (case l => k_is); (case c => k_is); (case k => k_is)
        (case b => exact fun _ _ _ _ _ _ us hl => match us, hl with | [_], _ => rfl))
      (case d27 =>
        refine' Be.df_mk KX G ?a ?l ?c ?k ?b
        (case a => k_is); (case l => k_is); (case c => k_is); (case k => k_is)
        (case b => exact fun _ _ _ _ _ _ us hl => match us, hl with | [_, _], _ => rfl))
      (case d28 =>
        refine' Be.df_mk KX G ?a ?l ?c ?k ?b
        (case a => k_is); (case l => k_is); (case c => k_is); (case k => k_is)
        (case b => exact fun _ _ _ _ _ _ us hl => match us, hl with | [_, _], _ => rfl))
      (case d29 =>
        refine' Be.df_mk KX G ?a ?l ?c ?k ?b
        (case a => k_is); (case l => k_is); (case c => k_is); (case k => k_is)
        (case b => exact fun _ _ _ _ _ _ us hl => match us, hl with | [_], _ => rfl))
      (case d30 =>
        refine' Be.df_mk KX G ?a ?l ?c ?k ?b
        (case a => k_is); (case l => k_is); (case c => k_is); (case k => k_is)
        (case b => exact fun _ _ _ _ _ _ us hl => match us, hl with | [_, _], _ => rfl))
      (case d31 =>
        refine' Be.df_mk KX G ?a ?l ?c ?k ?b
        (case a => k_is); (case l => k_is); (case c => k_is); (case k => k_is)
        (case b => exact fun _ _ _ _ _ _ us hl => match us, hl with | [_, _], _ => rfl))
      (case d32 =>
        refine' Be.df_mk KX G ?a ?l ?c ?k ?b
        (case a => k_is); (case l => k_is); (case c => k_is); (case k => k_is)
        (case b => exact fun _ _ _ _ _ _ us hl => match us, hl with | [_, _], _ => rfl))
      (case d33 =>
        refine' Be.df_mk KX G ?a ?l ?c ?k ?b
        (case a => k_is); (case l => k_is); (case c => k_is); (case k => k_is)
        (case b => exact fun _ _ _ _ _ _ us hl => match us, hl with | [_, _], _ => rfl))
      (case d34 =>
        refine' Be.df_mk KX G ?a ?l ?c ?k ?b
        (case a => k_is); (case l => k_is); (case c => k_is); (case k => k_is)
        (case b => exact fun _ _ _ _ _ _ us hl => match us, hl with | [_, _], _ => rfl))
      (case d35 =>
        refine' Be.df_mk KX G ?a ?l ?c ?k ?b
        (case a => k_is); (case l => k_is); (case c => k_is); (case k => k_is)
        (case b => exact fun _ _ _ _ _ _ us hl => match us, hl with | [_, _], _ => rfl))
      (case d36 =>
        refine' Be.df_mk KX G ?a ?l ?c ?k ?b
        (case a => k_is); (case l => k_is); (case c => k_is); (case k => k_is)
        (case b => exact fun _ _ _ _ _ _ us hl => match us, hl with | [_, _], _ => rfl))
      (case d37 =>
        refine' Be.df_mk KX G ?a ?l ?c ?k ?b
        (case a => k_is); (case l => k_is); (case c => k_is); (case k => k_is)
        (case b => exact fun _ _ _ _ _ _ us hl => match us, hl with | [_, _], _ => rfl))
      (case d38 =>
        refine' Be.df_mk KX G ?a ?l ?c ?k ?b
        (case a => k_is); (case l => k_is); (case c => k_is); (case k => k_is)
        (case b => exact fun _ _ _ _ _ _ us hl => match us, hl with | [_, _], _ => rfl))
      (case d39 =>
        refine' Be.df_mk KX G ?a ?l ?c ?k ?b
        (case a => k_is); (case l => k_is); (case c => k_is); (case k => k_is)
        (case b => exact fun _ _ _ _ _ _ us hl => match us, hl with | [_, _], _ => rfl))
      (case d40 =>
        refine' Be.df_mk KX G ?a ?l ?c ?k ?b
        (case a => k_is); (case l => k_is); (case c => k_is); (case k => k_is)
        (case b => exact fun _ _ _ _ _ _ us hl => match us, hl with | [_, _], _ => rfl))
      (case d41 =>
        refine' Be.df_mk KX G ?a ?l ?c ?k ?b
        (case a => k_is); (case l => k_is); (case c => k_is); (case k => k_is)
        (case b => exact fun _ _ _ _ _ _ us hl => match us, hl with | [_, _], _ => rfl))
      (case d42 =>
        refine' Be.df_mk KX G ?a ?l ?c ?k ?b
        (case a => k_is); (case l => k_is); (case c => k_is); (case k => k_is)
        (case b => exact fun _ _ _ _ _ _ us hl => match us, hl with | [_, _], _ => rfl))
      (case d43 =>
        refine' Be.df_mk KX G ?a ?l ?c ?k ?b
        (case a => k_is); (case l => k_is); (case c => k_is); (case k => k_is)
        (case b => exact fun _ _ _ _ _ _ us hl => match us, hl with | [_, _], _ => rfl))
      (case d44 =>
        refine' Be.df_mk KX G ?a ?l ?c ?k ?b
        (case a => k_is); (case l => k_is); (case c => k_is); (case k => k_is)
        (case b => exact fun _ _ _ _ _ _ us hl => match us, hl with | [_, _], _ => rfl))
      (case d45 =>
        refine' Be.df_mk KX G ?a ?l ?c ?k ?b
        (case a => k_is); (case l => k_is); (case c => k_is); (case k => k_is)
        (case b => exact fun _ _ _ _ _ _ us hl => match us, hl with | [_, _], _ => rfl))
      (case d46 =>
        refine' Be.df_mk KX G ?a ?l ?c ?k ?b
        (case a => k_is); (case l => k_is); (case c => k_is); (case k => k_is)
        (case b => exact fun _ _ _ _ _ _ us hl => match us, hl with | [_, _], _ => rfl))
      (case d47 =>
        refine' Be.df_mk KX G ?a ?l ?c ?k ?b
        (case a => k_is); (case l => k_is); (case c => k_is); (case k => k_is)
        (case b => exact fun _ _ _ _ _ _ us hl => match us, hl with | [_, _], _ => rfl))
      (case d49 =>
        refine' Be.df_mk KX G ?a ?l ?c ?k ?b
        (case a => k_is); (case l => k_is); (case c => k_is); (case k => k_is)
        (case b => exact fun _ _ _ _ _ _ us hl => match us, hl with | [_, _, _], _ => rfl))
    dsimp only [L2.KOf] at D
    refine' Be.head_mk KX G hmg D ?aC ?aI ?iI ?lI ?cI ?kI ?aA ?lA ?cA ?kA ?aT ?lT ?eT ?zT ?vT ?aB ?lB ?eB ?aQ ?q0 ?q1 ?q2 ?q3 ?q4 ?q5 ?q6 ?q7 ?q8 ?q9 ?q10 ?q11 ?q12 ?q13 ?q14 ?q15 ?q16 ?q17 ?lQ ?eQ ?pg ?hd ?po ?sa ?mk ?kc ?nP ?nN ?b_len ?b_min ?b_max ?b_sum ?b_range ?b_enumerate ?b_all ?n0 ?n1 ?n2 ?n3 ?n4 ?n5
    (case aC => k_is)
    (case aI => k_is)
    (case iI => k_is)
    (case lI => k_is)
    (case cI => k_is)
    (case kI => k_is)
    (case aA => k_is)
    (case lA => k_is)
    (case cA => k_is)
    (case kA => k_is)
    (case aT => k_is)
    (case lT => k_is)
    (case eT => rfl)
    (case zT => decide)
    (case vT => exact .cons ⟨_, rfl⟩ (.cons ⟨_, rfl⟩ (.cons ⟨_, rfl⟩ (.cons ⟨_, rfl⟩ (.cons ⟨_, rfl⟩ (.cons ⟨_, rfl⟩ (.cons ⟨_, rfl⟩ (.cons ⟨_, rfl⟩ (.cons ⟨_, rfl⟩ (.cons ⟨_, rfl⟩ (.cons ⟨_, rfl⟩ (.cons ⟨_, rfl⟩ (.cons ⟨_, rfl⟩ (.cons ⟨_, rfl⟩ (.cons ⟨_, rfl⟩ (.cons ⟨_, rfl⟩ (.cons ⟨_, rfl⟩ (.cons ⟨_, rfl⟩ (.nil)))))))))))))))))))
    (case aB => k_is)
    (case lB => k_is)
    (case eB => rfl)
    (case aQ => k_is)
    (case q0 => k_is)
    (case q1 => k_is)
    (case q2 => k_is)
    (case q3 => k_is)
    (case q4 => k_is)
    (case q5 => k_is)
    (case q6 => k_is)
    (case q7 => k_is)
    (case q8 => k_is)
    (case q9 => k_is)
    (case q10 => k_is)
    (case q11 => k_is)
    (case q12 => k_is)
    (case q13 => k_is)
    (case q14 => k_is)
    (case q15 => k_is)
    (case q16 => k_is)
    (case q17 => k_is)
    (case lQ => k_is)
    (case eQ => rfl)
    (case pg => k_is)
    (case hd => k_is)
    (case po => k_is)
    (case sa => k_is)
    (case mk => k_is)
    (case kc => k_is)
    (case nP => k_is)
    (case nN => k_is)
    (case b_len => k_is)
    (case b_min => k_is)
    (case b_max => k_is)
    (case b_sum => k_is)
    (case b_range => k_is)
    (case b_enumerate => k_is)
    (case b_all => k_is)
    (case n0 => k_is)
    (case n1 => k_is)
    (case n2 => k_is)
    (case n3 => k_is)
    (case n4 => k_is)
    (case n5 => k_is)
  case S =>
    intro K H xs a hO hwi hask hx
    cases hx with
    | cons h1 h2 =>
      cases h2
      cases h1 with
      | lst hs ha =>
        have e := L2.ints_dw a.1 _ ha
        subst e
        have q : ((Codec.inLen 0 600 a.1 && a.1.all (Codec.inInt 0 4294967295)) && true) = true := hwi
        rw [Bool.and_eq_true, Bool.and_eq_true] at q
        have hask : PyKqm5.answers_asked a.1 = true := hask
        obtain ⟨cs, e1, e2, e3⟩ := Be.ask_ok hask
        obtain ⟨ns, en⟩ := Be.nats_of a.1 fun x hx => (Be.in_nn (List.all_eq_true.mp q.1.2 x hx))
        have hl := (Codec.inNat_iff.mp q.1.1).2
        show ∃ _, _
        rw [en] at hs e1 hl
        rw [List.length_map] at e1 hl
        refine ⟨_, ns, cs, rfl, ?_, hl, e1, e3, fun H' p hp => ?_⟩
        · rw [List.map_map] at hs
          exact hs
        · rw [← e2] at hp
          exact .lst (L2.SqL.of hp) (L2.dw_ints _)
end
