import PyProof.Rows.All
import Wide.All
import OpenK.AllK
import Wide.FinOn
import PyProof.EqAt
import PyProof.EqKinds
import PyProof.TupleCall
import KE.BitLaws
import Open.SpecLaws
import KE.OsHead
import KE.OsGo
import PySem.Challenge.RW_slicepool_s01_answers
set_option Elab.async false
set_option linter.all false
set_option maxRecDepth 100000
/-! THE HAND LAYER, for ints, bools, texts, own classes, lists, tuples, dicts, comprehensions, walks over dicts, enumerate, zip, reversed, texts, calls, loops. Paste it whole ahead of your own text; what your proof does not reach may be deleted. -/
namespace L2
open PySem PySem.Spec PyProof.Rows
/-- a key: an int or a str -/
abbrev Key := Sum Int Str
def keyIs : Key → Value → Bool
  | .inl k, v => Value.isInt k v
  | .inr x, v => Value.isStrOf x v
def keyH (w : World) : Key → Int
  | .inl k => hashInt k
  | .inr x => hashStr w x
theorem keyIs_shape : ∀ {k : Key} {v : Value}, keyIs k v = true → (∃ i t, k = Sum.inl i ∧ v = Value.int i t) ∨ (∃ x t, k = Sum.inr x ∧ v = Value.str x t)
  | .inl i, v, h => by
    obtain ⟨t, e⟩ := Value.isInt_shape (k := i) (v := v) h
    exact .inl ⟨i, t, rfl, e⟩
  | .inr x, v, h => by
    obtain ⟨t, e⟩ := Value.isStrOf_shape (x := x) (v := v) h
    exact .inr ⟨x, t, rfl, e⟩
theorem key_ll (a b : Int) : decide ((Sum.inl a : Key) = Sum.inl b) = (a == b) := by
  by_cases e : a = b
  · subst e; simp
  · have h : ¬ (Sum.inl a : Key) = Sum.inl b := fun q => e (Sum.inl.inj q)
    rw [decide_eq_false h]
    exact (beq_eq_false_iff_ne.mpr e).symm
theorem key_rr (a b : Str) : decide ((Sum.inr a : Key) = Sum.inr b) = decide (a = b) := by
  by_cases e : a = b
  · subst e; simp
  · have h : ¬ (Sum.inr a : Key) = Sum.inr b := fun q => e (Sum.inr.inj q)
    rw [decide_eq_false h, decide_eq_false e]
theorem key_lr (a : Int) (b : Str) : decide ((Sum.inl a : Key) = Sum.inr b) = false := decide_eq_false (fun q => nomatch q)
theorem key_rl (a : Str) (b : Int) : decide ((Sum.inr a : Key) = Sum.inl b) = false := decide_eq_false (fun q => nomatch q)
def mixKind (prog : Program) (w : World) : PySem.KeyKind prog w Key where
  is := keyIs
  hash := keyH w
  inj := fun v a b ha hb => by
    rcases keyIs_shape ha with ⟨i, t, rfl, rfl⟩ | ⟨x, t, rfl, rfl⟩
    · rcases keyIs_shape hb with ⟨j, u, rfl, e⟩ | ⟨y, u, rfl, e⟩
      · injection e with e1 _; rw [e1]
      · exact nomatch e
    · rcases keyIs_shape hb with ⟨j, u, rfl, e⟩ | ⟨y, u, rfl, e⟩
      · exact nomatch e
      · injection e with e1 _; rw [e1]
  byValue := fun k v h => by
    rcases keyIs_shape h with ⟨i, t, rfl, rfl⟩ | ⟨x, t, rfl, rfl⟩ <;> rfl
  pyHash := fun hv h => by
    rcases keyIs_shape hv with ⟨i, t, rfl, rfl⟩ | ⟨x, t, rfl, rfl⟩
    · exact wpAny_pyHash_int h
    · exact wpAny_pyHash_str h
  eqBool := fun hu hv h => by
    rcases keyIs_shape hu with ⟨i, t, rfl, rfl⟩ | ⟨x, t, rfl, rfl⟩
    · rcases keyIs_shape hv with ⟨j, u, rfl, rfl⟩ | ⟨y, u, rfl, rfl⟩
      · rw [key_ll] at h; exact wpAny_eqBool_int h
      · rw [key_lr] at h; exact SeqAt.EqAt.int_str i t y u _ _ _ _ h
    · rcases keyIs_shape hv with ⟨j, u, rfl, rfl⟩ | ⟨y, u, rfl, rfl⟩
      · rw [key_rl] at h; exact SeqAt.EqAt.str_int x t j u _ _ _ _ h
      · rw [key_rr] at h; exact wpAny_eqBool_str h
  «strs» := fun k x t v h => by
    rcases keyIs_shape h with ⟨i, u, rfl, e⟩ | ⟨y, u, rfl, e⟩
    · exact nomatch e
    · injection e with e1 _
      subst e1
      cases v <;> rfl
end L2
namespace L2
open PySem PySem.Spec PyProof.Rows
/-- a value, without the heap -/
inductive V where
  | non | bl (b : Bool) | int (i : Int) | str (x : Str) | byt (b : Array UInt8) | flt (b : UInt64) | ref (a : Addr) | ty (n : String)
  deriving DecidableEq
def RelV : V → Value → Prop
  | .non, u => u = Value.none
  | .bl b, u => u = Value.bool b
  | .int i, u => ∃ t, u = Value.int i t
  | .str x, u => ∃ t, u = Value.str x t
  | .byt b, u => ∃ t, u = Value.bytes b t
  | .flt b, u => ∃ t, u = Value.float b t
  | .ref a, u => u = Value.ref a
  | .ty n, u => u = Value.type n
abbrev Vals : List V → List Value → Prop := Paired RelV
theorem Vals.length {xs : List V} {us : List Value} (r : Vals xs us) : xs.length = us.length := Paired.length r
theorem Vals.get : ∀ {xs : List V} {us : List Value} {i : Nat} {x : V}, Vals xs us → xs[i]? = some x → ∃ u, us[i]? = some u ∧ RelV x u
  | _, _, _, _, .nil, e => by simp at e
  | _, _, 0, _, .cons r _, e => by simp at e; subst e; exact ⟨_, rfl, r⟩
  | _, _, i + 1, x, .cons _ t, e => by
    obtain ⟨u, h1, h2⟩ := Vals.get (i := i) (x := x) t (by simpa using e)
    exact ⟨u, by simpa using h1, h2⟩
theorem Vals.set {x : V} {u : Value} (r : RelV x u) : ∀ {xs : List V} {us : List Value} (i : Nat), Vals xs us → Vals (xs.set i x) (us.set i u)
  | _, _, _, .nil => .nil
  | _, _, 0, .cons _ t => .cons r t
  | _, _, i + 1, .cons q t => .cons q (Vals.set r i t)
theorem Vals.append : ∀ {xs ys : List V} {us ws : List Value}, Vals xs us → Vals ys ws → Vals (xs ++ ys) (us ++ ws)
  | _, _, _, _, .nil, s => s
  | _, _, _, _, .cons r t, s => .cons r (Vals.append t s)
theorem Vals.take : ∀ {xs : List V} {us : List Value} (n : Nat), Vals xs us → Vals (xs.take n) (us.take n)
  | _, _, 0, _ => .nil
  | _, _, _ + 1, .nil => .nil
  | _, _, n + 1, .cons r t => .cons r (Vals.take n t)
theorem Vals.drop : ∀ {xs : List V} {us : List Value} (n : Nat), Vals xs us → Vals (xs.drop n) (us.drop n)
  | _, _, 0, r => r
  | _, _, _ + 1, .nil => .nil
  | _, _, n + 1, .cons _ t => Vals.drop n t
def RelO : Option V → Option Value → Prop
  | some v, some u => RelV v u
  | none, none => True
  | _, _ => False
def KV {κ : Type} : List (κ × V) → List (κ × Value) → Prop := Paired fun (p : κ × V) (q : κ × Value) => p.1 = q.1 ∧ RelV p.2 q.2
/-- a key of a dict (00_mix): an int or a text -/
def kV : Key → V
  | .inl i => .int i
  | .inr x => .str x
/-- what stands at a tracked address -/
inductive HO where
  /-- a list -/
  | lst (xs : List V)
  /-- a tuple (never changes) -/
  | tup (xs : List V)
  /-- a dict whose keys are ints and texts; one whose keys are tuples of ints and texts (the empty one is both) -/
  | dK (kvs : List (Key × V)) | dT (kvs : List (List Key × V))
  /-- a set of ints: its members, its size -/
  | set (S : Int → Bool) (n : Nat)
  /-- an instance of the class at C, its dict at dx, its attributes -/
  | ins (C dx : Addr) (fs : List (Str × V))
  /-- the dict of the instance at x -/
  | own (x : Addr)
  /-- the dict of an exception -/
  | xd (fs : List (Str × V))
  /-- a bound method, f of x -/
  | met (f x : Addr)
  /-- a range object lo, lo + 1, .. below hi -/
  | rng (lo hi : Int)
  /-- a thing that is known to the object (the script; a dict while a loop walks it): read, never written while it is so -/
  | frz (o : Obj) (u : HO)
  /-- a code object's table -/
  | tbl (ps : Array Value)
  /-- any other thing, by what is true of its one object (a def of one's own: SetO a S n := HO.ext fun h => ..) -/
  | ext (φ : Heap → Prop)
abbrev Hp := Addr → Option HO
def upd (H : Hp) (a : Addr) (o : HO) : Hp := fun b => if b = a then some o else H b
theorem upd_same {H : Hp} {a : Addr} {o : HO} : upd H a o a = some o := by unfold upd; rw [if_pos rfl]
theorem upd_ne {H : Hp} {a b : Addr} {o : HO} (h : b ≠ a) : upd H a o b = H b := by unfold upd; rw [if_neg h]
theorem upd_upd {H : Hp} {a : Addr} {o u : HO} : upd (upd H a o) a u = upd H a u := by
  funext b; unfold upd; split <;> rfl
/-- two objects of different content stand apart -/
theorem ne_of {H : Hp} {a b : Addr} {o u : HO} (h : H a = some o) (h' : H b = some u) (d : o ≠ u) : a ≠ b := by
  intro e; subst e; rw [h] at h'; exact d (Option.some.inj h')
theorem ne_of_none {H : Hp} {a b : Addr} {o : HO} (h : H a = some o) (h' : H b = none) : a ≠ b := by
  intro e; subst e; rw [h] at h'; cases h'
section
variable (P : Program) (w : World)
def ObjOk (H : Hp) (h : Heap) (a : Addr) : HO → Prop
  | .lst xs => xs.length ≤ sizeLine ∧ ∃ (its : List Value) (n : Nat), Vals xs its ∧ h.get? a = some { cls := .type "list", data := .seq its.toArray n }
  | .tup xs => xs.length ≤ sizeLine ∧ ∃ its : List Value, Vals xs its ∧ IsTup h a its.toArray
  | .dK kvs => kvs.length ≤ sizeLine ∧ (a == sysModules) = false ∧ ∃ vs, KV kvs vs ∧ h.DictOf (mixKind P w) a vs
  | .dT kvs => kvs.length ≤ sizeLine ∧ (a == sysModules) = false ∧ ∃ xs : List (List Key × Addr × Value),
      Paired (fun (p : List Key × V) (q : List Key × Addr × Value) => p.1 = q.1 ∧ H q.2.1 = some (.tup (p.1.map kV)) ∧ RelV p.2 q.2.2) kvs xs ∧
      ∃ o es ep, h.get? a = some o ∧ o.ExactDict ∧ o.data = .dict es ep ∧ es.toList = xs.map (entryOfKey (tupleKind (mixKind P w))) ∧ (xs.map (·.1)).Nodup
  | .set S n => h.SetOf (intKind P w) a S n
  | .ins C dx fs => H dx = some (.own a) ∧ fs.length ≤ 1000 ∧ dx ≠ a ∧ h.get? a = some (PySem.W.instObj C dx) ∧
      ∃ mA, h.Ns1 dx mA ∧ (∀ f, RelO (fs.lookup f) (mA f)) ∧ PySem.Within mA (fs.map (·.1))
  | .own _ => ∃ o, h.get? a = some o
  | .xd fs => ∃ mA, h.Ns1 a mA ∧ ∀ f, RelO (fs.lookup f) (mA f)
  | .rng lo hi => ∃ t u v, h.get? a = some { cls := .type "range", data := .fields #[.int lo t, .int hi u, .int 1 v] }
  | .frz o u => h.get? a = some o ∧ ObjOk H h a u
  | .tbl ps => h.get? a = some { cls := .none, data := .fields ps }
  | .met f x => h.get? a = some (PySem.W.methodObj (.ref f) (.ref x))
  | .ext φ => φ h ∧ (∃ o, h.get? a = some o) ∧ ∀ h1 h2 : Heap, φ h1 → (∀ o, h1.get? a = some o → h2.get? a = some o) → φ h2
/-- the abstract heap is held -/
def HOk (H : Hp) (h : Heap) : Prop := ∀ a o, H a = some o → ObjOk P w H h a o
end
section
variable {P : Program} {w : World} {H H' : Hp} {h h' : Heap} {a : Addr} {o : HO}
theorem ObjOk.lt (x : ObjOk P w H h a o) : a < h.objs.size := by
  cases o with
  | lst xs => obtain ⟨_, _, _, _, e⟩ := x; exact Heap.lt_size e
  | tup xs => obtain ⟨_, _, _, p⟩ := x; exact p.lt
  | dK kvs => obtain ⟨_, _, _, _, o, _, _, e, _⟩ := x; exact Heap.lt_size e
  | dT kvs => obtain ⟨_, _, _, _, o, _, _, e, _⟩ := x; exact Heap.lt_size e
  | set S n => obtain ⟨o, _, _, _, e, _⟩ := x; exact Heap.lt_size e
  | ins C dx fs => obtain ⟨_, _, _, e, _⟩ := x; exact Heap.lt_size e
  | own y => obtain ⟨_, e⟩ := x; exact Heap.lt_size e
  | xd fs => obtain ⟨_, ⟨_, _, _, e, _⟩, _⟩ := x; exact Heap.lt_size e
  | rng lo hi => obtain ⟨_, _, _, e⟩ := x; exact Heap.lt_size e
  | frz ob u => obtain ⟨e, _⟩ := x; exact Heap.lt_size e
  | tbl ps => exact Heap.lt_size (show h.get? a = some _ from x)
  | met f y => exact Heap.lt_size (show h.get? a = some _ from x)
  | ext φ => obtain ⟨_, ⟨_, e⟩, _⟩ := x; exact Heap.lt_size e
theorem Paired.mapP {α β : Type} {F G : α → β → Prop} : ∀ {l₁ : List α} {l₂ : List β}, Paired F l₁ l₂ → (∀ a b, F a b → G a b) → Paired G l₁ l₂
  | _, _, .nil, _ => .nil
  | _, _, .cons r t, f => .cons (f _ _ r) (Paired.mapP t f)
/-- what an object's description leans on: its own object, its own dict, the tuples -/
theorem ObjOk.stay (x : ObjOk P w H h a o) (k : ∀ b u, (b = a ∨ H b = some (.own a)) → h.get? b = some u → h'.get? b = some u)
    (ho : ∀ b, H b = some (.own a) → H' b = some (.own a)) (ht : ∀ b xs, H b = some (.tup xs) → H' b = some (.tup xs)) : ObjOk P w H' h' a o := by
  induction o with
  | lst xs => obtain ⟨z, its, n, r, e⟩ := x; exact ⟨z, its, n, r, k _ _ (.inl rfl) e⟩
  | tup xs => obtain ⟨z, its, r, ob, e, c⟩ := x; exact ⟨z, its, r, ob, k _ _ (.inl rfl) e, c⟩
  | dK kvs => obtain ⟨z, y, vs, r, ob, es, ep, e, c⟩ := x; exact ⟨z, y, vs, r, ob, es, ep, k _ _ (.inl rfl) e, c⟩
  | dT kvs =>
    obtain ⟨z, y, xs, r, ob, es, ep, e, c⟩ := x
    exact ⟨z, y, xs, Paired.mapP r fun p q z => ⟨z.1, ht _ _ z.2.1, z.2.2⟩, ob, es, ep, k _ _ (.inl rfl) e, c⟩
  | set S n => obtain ⟨ob, es, ep, t, e, c⟩ := x; exact ⟨ob, es, ep, t, k _ _ (.inl rfl) e, c⟩
  | ins C dx fs =>
    obtain ⟨d, z, ne, e, mA, ⟨od, es, ep, e2, c⟩, r⟩ := x
    exact ⟨ho _ d, z, ne, k _ _ (.inl rfl) e, mA, ⟨od, es, ep, k _ _ (.inr d) e2, c⟩, r⟩
  | own y => obtain ⟨ob, e⟩ := x; exact ⟨ob, k _ _ (.inl rfl) e⟩
  | xd fs => obtain ⟨mA, ⟨od, es, ep, e, c⟩, r⟩ := x; exact ⟨mA, ⟨od, es, ep, k _ _ (.inl rfl) e, c⟩, r⟩
  | rng lo hi => obtain ⟨t, u, v, e⟩ := x; exact ⟨t, u, v, k _ _ (.inl rfl) e⟩
  | frz ob u ih => obtain ⟨e, q⟩ := x; exact ⟨k _ _ (.inl rfl) e, ih q⟩
  | tbl ps =>
    have e : h.get? a = some { cls := .none, data := .fields ps } := x
    show h'.get? a = some { cls := .none, data := .fields ps }
    exact k a _ (.inl rfl) e
  | met f y =>
    have e : h.get? a = some (PySem.W.methodObj (.ref f) (.ref y)) := x
    show h'.get? a = some (PySem.W.methodObj (.ref f) (.ref y))
    exact k a _ (.inl rfl) e
  | ext φ => obtain ⟨p, ⟨o, e⟩, st⟩ := x; exact ⟨st _ _ p fun o q => k _ _ (.inl rfl) q, ⟨o, k _ _ (.inl rfl) e⟩, st⟩
theorem HOk.lt (x : HOk P w H h) (e : H a = some o) : a < h.objs.size := (x a o e).lt
theorem HOk.fresh (x : HOk P w H h) (e : h.objs.size ≤ a) : H a = none := by
  cases q : H a with
  | none => rfl
  | some u => exact absurd (Nat.lt_of_lt_of_le (x.lt q) e) (Nat.lt_irrefl _)
/-- every object of the heap is kept -/
theorem HOk.kept (x : HOk P w H h) (k : ∀ b u, h.get? b = some u → h'.get? b = some u) : HOk P w H h' := fun a o e =>
  (x a o e).stay (fun b u _ q => k b u q) (fun _ q => q) fun _ _ q => q
/-- a new object is laid and tracked -/
theorem HOk.laid (x : HOk P w H h) (k : ∀ b u, h.get? b = some u → h'.get? b = some u) (hp : h.objs.size ≤ a) (new : ObjOk P w (upd H a o) h' a o) : HOk P w (upd H a o) h' := fun b u e => by
  have hn := x.fresh hp
  by_cases hb : b = a
  · subst hb; rw [upd_same] at e; cases e; exact new
  · rw [upd_ne hb] at e
    exact (x b u e).stay (fun c v _ q => k c v q) (fun c q => by rw [upd_ne (ne_of_none q hn)]; exact q) fun c xs q => by rw [upd_ne (ne_of_none q hn)]; exact q
end
/-- what may be read as u: it is u, or a known u -/
def Rd (H : Hp) (a : Addr) (u : HO) : Prop := H a = some u ∨ ∃ o, H a = some (.frz o u)
theorem Rd.ok {P : Program} {w : World} {H : Hp} {h : Heap} {a : Addr} {u : HO} (r : Rd H a u) (x : HOk P w H h) : ObjOk P w H h a u := by
  rcases r with r | ⟨o, r⟩
  · exact x a u r
  · obtain ⟨_, q⟩ := x a _ r
    exact q
/-- what may be written -/
def Mut : Option HO → Prop
  | some (.lst _) => True
  | some (.dK _) => True
  | some (.dT _) => True
  | some (.set _ _) => True
  | some (.ins _ _ _) => True
  | some (.ext _) => True
  | _ => False
section
variable {P : Program} {w : World} {H : Hp} {h h' : Heap} {x e : Addr} {o' : HO}
/-- the object at e is changed: x itself, or the dict of the instance x -/
theorem HOk.write (ok : HOk P w H h) (mu : Mut (H x)) (he : e = x ∨ H e = some (.own x)) (k : ∀ b u, b ≠ e → h.get? b = some u → h'.get? b = some u) (heo : ∃ u, h'.get? e = some u)
    (new : ObjOk P w (upd H x o') h' x o') : HOk P w (upd H x o') h' := fun b u q => by
  have nown : ∀ c y, H c = some (.own y) → c ≠ x := fun c y r z => by subst z; rw [r] at mu; exact mu
  have ntup : ∀ c xs, H c = some (.tup xs) → c ≠ x := fun c xs r z => by subst z; rw [r] at mu; exact mu
  by_cases hb : b = x
  · subst hb; rw [upd_same] at q; cases q; exact new
  · rw [upd_ne hb] at q
    by_cases hbe : b = e
    · have q' : H b = some (.own x) := by
        rcases he with z | z
        · exact absurd (hbe.trans z) hb
        · rw [hbe]; exact z
      rw [q] at q'; cases q'
      obtain ⟨v, hv⟩ := heo
      exact ⟨v, by rw [hbe]; exact hv⟩
    · refine (ok b u q).stay (fun c v hc r => k c v ?_ r) (fun c r => by rw [upd_ne (nown c b r)]; exact r) fun c xs r => by rw [upd_ne (ntup c xs r)]; exact r
      rcases hc with rfl | hc
      · exact hbe
      · rintro rfl
        rcases he with z | z
        · exact nown c b hc z
        · rw [hc] at z; cases z; exact hb rfl
end
/-! ### kept unless tracked; of the frames at fs (the callers') the slots may change (an exception that passes writes there); of the records at ex (iterators) nothing is said -/
structure Un (fs ex : List Addr) (H H' : Hp) (h h' : Heap) : Prop where
  keep : ∀ b o, h.get? b = some o → H b = none → b ∉ fs → b ∉ ex → h'.get? b = some o
  slot : ∀ b o, h.get? b = some o → H b = none → b ∈ fs → b ∉ ex → ∃ sl, h'.get? b = some { o with slots := sl }
  free : ∀ b o, h.get? b = some o → H b = none → b ∉ ex → H' b = none
  there : ∀ b o, h.get? b = some o → b ∉ ex → ∃ o', h'.get? b = some o'
  tups : ∀ b xs, H b = some (.tup xs) → H' b = some (.tup xs)
  frzs : ∀ b o u, H b = some (.frz o u) → H' b = some (.frz o u)
  tbls : ∀ b ps, H b = some (.tbl ps) → ∃ more, H' b = some (.tbl (ps ++ more))
section
variable {fs fs' ex ex' : List Addr} {H H1 H2 : Hp} {h h1 h2 h' : Heap} {a x e : Addr} {o : HO}
theorem Un.any (u : Un fs ex H H1 h h1) {b : Addr} {ob : Obj} (q : h.get? b = some ob) (n : H b = none) (hx : b ∉ ex) : ∃ sl, h1.get? b = some { ob with slots := sl } := by
  by_cases hb : b ∈ fs
  · exact u.slot b ob q n hb hx
  · exact ⟨ob.slots, u.keep b ob q n hb hx⟩
theorem Un.kept (k : ∀ b u, h.get? b = some u → h'.get? b = some u) : Un fs ex H H h h' :=
  ⟨fun b ob q _ _ _ => k b ob q, fun b ob q _ _ _ => ⟨ob.slots, k b ob q⟩, fun _ _ _ n _ => n, fun b ob q _ => ⟨ob, k b ob q⟩, fun _ _ q => q, fun _ _ _ q => q, fun _ ps q => ⟨#[], by rw [q]; simp⟩⟩
theorem Un.refl : Un fs ex H H h h := Un.kept fun _ _ q => q
theorem Un.laid (k : ∀ b u, h.get? b = some u → h'.get? b = some u) (hp : h.objs.size ≤ a) (hn : H a = none) : Un fs ex H (upd H a o) h h' where
  keep := fun b u q _ _ _ => k b u q
  slot := fun b u q _ _ _ => ⟨u.slots, k b u q⟩
  free := fun b u q n _ => by rw [upd_ne (Nat.ne_of_lt (Nat.lt_of_lt_of_le (Heap.lt_size q) hp))]; exact n
  there := fun b u q _ => ⟨u, k b u q⟩
  tups := fun b xs q => by rw [upd_ne (ne_of_none q hn)]; exact q
  frzs := fun b u xs q => by rw [upd_ne (ne_of_none q hn)]; exact q
  tbls := fun b ps q => ⟨#[], by rw [upd_ne (ne_of_none q hn), q]; simp⟩
theorem Un.write (mu : Mut (H x)) (he : e = x ∨ H e = some (.own x)) (k : ∀ b u, b ≠ e → h.get? b = some u → h'.get? b = some u) (heo : ∃ u, h'.get? e = some u) : Un fs ex H (upd H x o) h h' := by
  have hx : ∀ b, H b = none → b ≠ x := fun b n z => by subst z; rw [n] at mu; exact mu
  have hb : ∀ b, H b = none → b ≠ e := fun b n z => by
    subst z
    rcases he with r | r
    · exact hx b n r
    · rw [n] at r; cases r
  have hm : ∀ b u, H b = some u → ¬ Mut (some u) → b ≠ x := fun b u q nm z => by subst z; rw [q] at mu; exact nm mu
  refine ⟨fun b u q n _ _ => k b u (hb b n) q, fun b u q n _ _ => ⟨u.slots, k b u (hb b n) q⟩, fun b u q n _ => by rw [upd_ne (hx b n)]; exact n, fun b u q _ => ?_,
    fun b xs q => by rw [upd_ne (hm b _ q fun z => z)]; exact q, fun b u xs q => by rw [upd_ne (hm b _ q fun z => z)]; exact q, fun b ps q => ⟨#[], by rw [upd_ne (hm b _ q fun z => z), q]; simp⟩⟩
  by_cases hbe : b = e
  · subst hbe; exact heo
  · exact ⟨u, k b u hbe q⟩
end
/-! ### the heap without what is tracked -/
def trk (h : Heap) (H : Hp) : List Addr := (List.range h.objs.size).filter fun a => (H a).isSome
def hidT (h : Heap) (H : Hp) : Heap := PySem.W.hideAll h (trk h H)
theorem hidT_size (h : Heap) (H : Hp) : (hidT h H).objs.size = h.objs.size := PySem.W.hideAll_size _ _
theorem hidT_get {h : Heap} {H : Hp} {b : Addr} {o : Obj} (e : h.get? b = some o) (n : H b = none) : (hidT h H).get? b = some o :=
  PySem.W.hideAll_get _ e fun hm => by
    have q : (H b).isSome = true := (List.mem_filter.mp hm).2
    rw [n] at q; simp at q
theorem of_hidT {h : Heap} {H : Hp} {b : Addr} {o : Obj} (e : (hidT h H).get? b = some o) : h.get? b = some o ∧ H b = none := by
  have e' : h.get? b = some o := PySem.W.of_hideAll (trk h H) e
  refine ⟨e', ?_⟩
  cases q : H b with
  | none => rfl
  | some x =>
    have hm : b ∈ trk h H := List.mem_filter.mpr ⟨List.mem_range.mpr (Heap.lt_size e'), by simp [q]⟩
    have z : (hidT h H).get? b = none := PySem.W.hideAll_none (trk h H) hm
    rw [z] at e; cases e
/-! ### OpenK's ledger, filled with every new object but one -/
end L2
namespace L2
open PySem PySem.Spec PyProof.Rows
/-- the module's facts, over the base: the heap at the law's entry without what is tracked there -/
structure Mod (K : PySem.W.Frag) (mg : Str → Option Value) (base : Heap) : Prop where
  kin : K.In base
  glob : base.Ns mainGlobals mg
  blt : ∃ mb, base.Ns builtinsNs mb ∧ ∀ x : Str, x ≠ "__name__" → mb x = bootBuiltins x
  nolimit : base.NoLimit
/-- the context: a def's body (or a comprehension's block) running. base: fixed through the whole law; s₀, H₀: the entry; outer: the frames whose slots others may change (a def's callers); stack: all frames that run;
   ex: iterators that were made ahead of the entry and are walked here (a comprehension's); fn: the names whose cells were made at the entry (a def: all; a comprehension's block: its own); calm: not within an except suite; pn: pins that every state bears; xe: what is wanted of an exception that leaves the code -/
structure Cx where
  prog : Program
  w : World
  K : PySem.W.Frag
  mg : Str → Option Value
  base : Heap
  A : Around
  N : List Str
  s_0 : Shared
  H_0 : Hp
  env : Env
  outer : List Env
  stack : List Env
  ex : List Addr
  fn : Str → Bool
  calm : Bool
  pn : List (Addr × Obj)
  xe : Value → Shared → Prop
/-- the callers' frames -/
def frs (l : List Env) : List Addr := l.filterMap (·.frame)
abbrev Cx.fs (X : Cx) : List Addr := frs X.outer
def Vis (sc : Scope) (x : Str) : Prop := sc.names.lookup x = some .local ∨ sc.names.lookup x = some .cell ∨ sc.names.lookup x = some .free
def Loc (sc : Scope) (x : Str) : Prop := sc.names.lookup x = some .local ∨ sc.names.lookup x = some .cell
def Look (env : Env) (h : Heap) (m : Str → Option Value) (x : Str) (u : Value) : Prop :=
  (env.kindOf x = some .local ∧ m x = some u) ∨ ((env.kindOf x = some .cell ∨ env.kindOf x = some .free) ∧ ∃ c, env.cells.lookup x = some c ∧ h.IsCell c (some u))
structure Cx.Ok (X : Cx) : Prop where
  mod : Mod X.K X.mg X.base
  kind : X.env.scope.kind = .function
  glob : X.env.globals = mainGlobals
  blt : X.env.builtins = builtinsNs
  above : X.s_0.heap.objs.size ≤ X.env.locals
  inj : ∀ x y c, X.env.cells.lookup x = some c → X.env.cells.lookup y = some c → x = y
  has : ∀ x, (X.env.kindOf x = some .cell ∨ X.env.kindOf x = some .free) → ∃ c, X.env.cells.lookup x = some c
  cab : ∀ x c, X.fn x = true → X.env.cells.lookup x = some c → X.s_0.heap.objs.size ≤ c
  hd : X.calm = true → X.A.handled = none
  frames : X.A.frames = some X.stack
  stk : X.stack = X.outer ∨ (X.stack = X.env :: X.outer ∧ X.env.frame = some X.env.locals)
  exf : ∀ b ∈ X.ex, b ≠ X.env.locals ∧ ∀ x c, X.env.cells.lookup x = some c → c ≠ b
  bs : ∀ b o, X.base.get? b = some o → X.s_0.heap.get? b = some o ∧ X.H_0 b = none
  bsz : X.base.objs.size ≤ X.s_0.heap.objs.size
  noex : ∀ b o, X.base.get? b = some o → b ∉ X.ex
  exfs : ∀ b ∈ X.ex, b ∉ X.fs
  funs : X.s_0.heap.FunFrames X.base X.outer
  frf : ∀ b ∈ X.fs, X.H_0 b = none
structure Inv (X : Cx) (pins : List (Addr × Obj)) (σ : List (Option V)) (H : Hp) (s : Shared) : Prop where
  ok : X.Ok
  os : s.os = X.s_0.os
  bare : AllBare s.gens
  base : Un X.fs X.ex X.H_0 H X.s_0.heap s.heap
  loc : ∃ m, s.heap.Ns X.env.locals m ∧ ∀ (i : Nat) (x : Str) (v : V), X.N[i]? = some x → σ[i]? = some (some v) → Vis X.env.scope x → ∃ u, RelV v u ∧ Look X.env s.heap m x u
  cell : ∀ x c, X.env.cells.lookup x = some c → ∃ v, s.heap.IsCell c v
  free : H X.env.locals = none
  freeC : ∀ x c, X.env.cells.lookup x = some c → H c = none
  pin : ∀ p ∈ X.pn ++ pins, s.heap.get? p.1 = some p.2 ∧ H p.1 = none ∧ p.1 ≠ X.env.locals ∧ p.1 ∉ X.fs ∧ ∀ v, p.2.data ≠ .cell v
  hok : HOk X.prog X.w H s.heap
  len : σ.length = X.N.length
section
variable {X : Cx} {pins : List (Addr × Obj)} {σ : List (Option V)} {H H' : Hp} {s : Shared} {h' : Heap}
theorem Cx.Ok.nofr (ok : X.Ok) {b : Addr} {o : Obj} (e : X.base.get? b = some o) : b ∉ X.fs := fun hb => by
  have := (ok.funs.mem hb).1
  rw [e] at this; cases this
theorem Inv.bs (I : Inv X pins σ H s) : ∀ b o, X.base.get? b = some o → s.heap.get? b = some o ∧ H b = none := fun b o e =>
  ⟨I.base.keep b o (I.ok.bs b o e).1 (I.ok.bs b o e).2 (I.ok.nofr e) (I.ok.noex b o e), I.base.free b o (I.ok.bs b o e).1 (I.ok.bs b o e).2 (I.ok.noex b o e)⟩
theorem Inv.bk (I : Inv X pins σ H s) : ∀ b o, X.base.get? b = some o → s.heap.get? b = some o := fun b o e => (I.bs b o e).1
theorem Inv.mod (I : Inv X pins σ H s) : Mod X.K X.mg X.base := I.ok.mod
theorem Inv.kIn (I : Inv X pins σ H s) : X.K.In s.heap := I.ok.mod.kin.keeps I.bk
theorem Inv.lt (I : Inv X pins σ H s) : X.env.locals < s.heap.objs.size := let ⟨_, hn, _⟩ := I.loc; hn.lt
theorem Inv.sz (I : Inv X pins σ H s) : X.s_0.heap.objs.size ≤ s.heap.objs.size := Nat.le_trans I.ok.above (Nat.le_of_lt I.lt)
theorem Inv.nofs (I : Inv X pins σ H s) {a : Addr} (h : s.heap.objs.size ≤ a) : a ∉ X.fs := fun hb => by
  obtain ⟨_, o, ho, _⟩ := I.ok.funs.mem hb
  exact absurd (Nat.lt_of_lt_of_le (Heap.lt_size ho) (Nat.le_trans I.sz h)) (Nat.lt_irrefl _)
theorem Inv.cne (I : Inv X pins σ H s) : ∀ x c, X.env.cells.lookup x = some c → c ≠ X.env.locals := fun x c e z => by
  obtain ⟨v, o, ho, hd⟩ := I.cell x c e
  obtain ⟨m, ⟨o', es, ep, ho', hd', _⟩, _⟩ := I.loc
  rw [z, ho'] at ho; cases ho; rw [hd'] at hd; cases hd
theorem Inv.funs (I : Inv X pins σ H s) : s.heap.FunFrames X.base X.outer := by
  have all : ∀ (l : List Env), (∀ b ∈ frs l, b ∈ X.fs) → X.s_0.heap.FunFrames X.base l → s.heap.FunFrames X.base l := by
    intro l
    induction l with
    | nil => intro _ _; trivial
    | cons env r ih =>
      intro hs hl
      obtain ⟨hk, ⟨L, o, hf, hn, ho, hd⟩, hr⟩ := hl
      have hL : L ∈ X.fs := hs L (by unfold frs; rw [List.filterMap_cons, hf]; exact List.mem_cons_self)
      obtain ⟨sl, e⟩ := I.base.slot L o ho (I.ok.frf L hL) hL fun z => I.ok.exfs L z hL
      exact ⟨hk, ⟨L, _, hf, hn, e, hd⟩, ih (fun b hb => hs b (by unfold frs; rw [List.filterMap_cons, hf]; exact List.mem_cons_of_mem _ hb)) hr⟩
  exact all X.outer (fun _ hb => hb) I.ok.funs
/-- the frames that run, for a call -/
theorem Inv.stack (I : Inv X pins σ H s) : s.heap.FunFrames X.base X.stack := by
  rcases I.ok.stk with e | ⟨e, hf⟩
  · rw [e]; exact I.funs
  · rw [e]
    obtain ⟨m, hn, _⟩ := I.loc
    refine .cons (by rw [I.ok.kind]; decide) hf hn ?_ I.funs
    exact Heap.get?_none_of_le (Nat.le_trans I.ok.bsz I.ok.above)
theorem Inv.stkSub (I : Inv X pins σ H s) : ∀ b ∈ frs X.stack, b ∈ X.env.locals :: X.fs := fun b hb => by
  rcases I.ok.stk with e | ⟨e, hf⟩
  · rw [e] at hb; exact List.mem_cons_of_mem _ hb
  · rw [e] at hb
    unfold frs at hb
    rw [List.filterMap_cons, hf] at hb
    exact hb
theorem Inv.stkFree (I : Inv X pins σ H s) : ∀ b ∈ frs X.stack, H b = none := fun b hb => by
  rcases List.mem_cons.mp (I.stkSub b hb) with e | hb
  · rw [e]; exact I.free
  · obtain ⟨_, o, ho, _⟩ := I.ok.funs.mem hb
    exact I.base.free b o ho (I.ok.frf b hb) fun z => I.ok.exfs b z hb
/-- THE STEP: the untracked objects but the frame and the records at ch are kept (the callers' frames up to slots), the frame's map is kept, the new abstract heap is held -/
theorem Inv.step {g' : Array GenState} {t' : Nat} {d' : Drawn} {ch : List Addr} (I : Inv X pins σ H s)
    (hch : ∀ b ∈ ch, (b ∈ X.ex ∨ X.s_0.heap.objs.size ≤ b) ∧ b ≠ X.env.locals ∧ (∀ x c, X.env.cells.lookup x = some c → c ≠ b) ∧ ∀ p ∈ X.pn ++ pins, p.1 ≠ b)
    (keep : ∀ b o, b ≠ X.env.locals → b ∉ X.fs → b ∉ ch → s.heap.get? b = some o → H b = none → h'.get? b = some o)
    (slot : ∀ b o, b ≠ X.env.locals → b ∈ X.fs → b ∉ ch → s.heap.get? b = some o → H b = none → ∃ sl, h'.get? b = some { o with slots := sl }) (free : ∀ b o, b ∉ ch → s.heap.get? b = some o → H b = none → H' b = none)
    (there : ∀ b o, b ∉ ch → s.heap.get? b = some o → ∃ o', h'.get? b = some o')
    (tups : ∀ b xs, H b = some (.tup xs) → H' b = some (.tup xs)) (frzs : ∀ b o u, H b = some (.frz o u) → H' b = some (.frz o u)) (tbls : ∀ b ps, H b = some (.tbl ps) → ∃ more, H' b = some (.tbl (ps ++ more)))
    (ns : ∀ m, s.heap.Ns X.env.locals m → h'.Ns X.env.locals m) (hok : HOk X.prog X.w H' h') (hg : AllBare g') :
    Inv X pins σ H' { s with heap := h', gens := g', drawn := d', toks := t' } := by
  have neL : ∀ b o, X.s_0.heap.get? b = some o → b ≠ X.env.locals := fun b o e => Nat.ne_of_lt (Nat.lt_of_lt_of_le (Heap.lt_size e) I.ok.above)
  have neC : ∀ b o, X.s_0.heap.get? b = some o → b ∉ X.ex → b ∉ ch := fun b o e hx hb => by
    rcases (hch b hb).1 with z | z
    · exact hx z
    · exact absurd (Nat.lt_of_lt_of_le (Heap.lt_size e) z) (Nat.lt_irrefl _)
  have cellK : ∀ x c, X.env.cells.lookup x = some c → ∀ v, s.heap.IsCell c v → h'.IsCell c v := fun x c e v ⟨o, ho, hd⟩ => by
    have nch : c ∉ ch := fun z => (hch c z).2.2.1 x c e rfl
    by_cases hc : c ∈ X.fs
    · obtain ⟨sl, q⟩ := slot c o (I.cne x c e) hc nch ho (I.freeC x c e)
      exact ⟨_, q, hd⟩
    · exact ⟨o, keep c o (I.cne x c e) hc nch ho (I.freeC x c e), hd⟩
  refine ⟨I.ok, I.os, hg, ⟨fun b o e n hb hx => ?_, fun b o e n hb hx => ?_, fun b o e n hx => ?_, fun b o e hx => ?_, fun b xs e => tups b xs (I.base.tups b xs e), fun b o xs e => frzs b o xs (I.base.frzs b o xs e), fun b ps e => ?_⟩, ?_, fun x c e => ?_, ?_, fun x c e => ?_, fun p hp => ?_, hok, I.len⟩
  · exact keep b o (neL b o e) hb (neC b o e hx) (I.base.keep b o e n hb hx) (I.base.free b o e n hx)
  · obtain ⟨sl, e1⟩ := I.base.slot b o e n hb hx
    obtain ⟨sl', e2⟩ := slot b _ (neL b o e) hb (neC b o e hx) e1 (I.base.free b o e n hx)
    exact ⟨sl', e2⟩
  · obtain ⟨o', e1⟩ := I.base.there b o e hx
    exact free b o' (neC b o e hx) e1 (I.base.free b o e n hx)
  · obtain ⟨o', e1⟩ := I.base.there b o e hx
    exact there b o' (neC b o e hx) e1
  · obtain ⟨m1, e1⟩ := I.base.tbls b ps e
    obtain ⟨m2, e2⟩ := tbls b _ e1
    exact ⟨m1 ++ m2, by rw [e2, Array.append_assoc]⟩
  · obtain ⟨m, hn, hl⟩ := I.loc
    refine ⟨m, ns m hn, fun i x v e1 e2 e3 => ?_⟩
    obtain ⟨u, r, l⟩ := hl i x v e1 e2 e3
    refine ⟨u, r, ?_⟩
    rcases l with l | ⟨k, c, e, z⟩
    · exact .inl l
    · exact .inr ⟨k, c, e, cellK x c e _ z⟩
  · obtain ⟨v, z⟩ := I.cell x c e
    exact ⟨v, cellK x c e v z⟩
  · obtain ⟨m, ⟨o, _, _, ho, _⟩, _⟩ := I.loc
    exact free _ o (fun z => (hch _ z).2.1 rfl) ho I.free
  · obtain ⟨v, o, ho, hd⟩ := I.cell x c e
    exact free c o (fun z => (hch c z).2.2.1 x c e rfl) ho (I.freeC x c e)
  · obtain ⟨e, n, ne, nf, d⟩ := I.pin p hp
    have nch : p.1 ∉ ch := fun z => (hch p.1 z).2.2.2 p hp rfl
    exact ⟨keep p.1 p.2 ne nf nch e n, free p.1 p.2 nch e n, ne, nf, d⟩
/-- .. where the frame's own object is kept too -/
theorem Inv.un {t' : Nat} (I : Inv X pins σ H s) (u : Un X.fs [] H H' s.heap h') (hok : HOk X.prog X.w H' h') : Inv X pins σ H' { s with heap := h', toks := t' } := by
  obtain ⟨m, ⟨o, es, ep, ho, r⟩, _⟩ := id I.loc
  obtain ⟨sl, hL⟩ := u.any ho I.free (by simp)
  exact I.step (g' := s.gens) (d' := s.drawn) (ch := []) (fun _ z => nomatch z) (fun b o _ hb _ e n => u.keep b o e n hb (by simp)) (fun b o _ hb _ e n => u.slot b o e n hb (by simp)) (fun b o _ e n => u.free b o e n (by simp)) (fun b o _ e => u.there b o e (by simp)) u.tups u.frzs u.tbls (fun m' hm => by
    obtain ⟨o', es', ep', ho', r'⟩ := hm
    rw [ho] at ho'; cases ho'
    exact ⟨_, es', ep', hL, r'⟩) hok I.bare
/-- behind a call (or a comprehension's block): the slots of this frame may have changed too, the records at ch may have turned -/
theorem Inv.call {g' : Array GenState} {t' : Nat} {d' : Drawn} {ch : List Addr} (I : Inv X pins σ H s) (u : Un (frs X.stack) ch H H' s.heap h') (hok : HOk X.prog X.w H' h') (hg : AllBare g')
    (hch : ∀ b ∈ ch, (b ∈ X.ex ∨ X.s_0.heap.objs.size ≤ b) ∧ b ≠ X.env.locals ∧ (∀ x c, X.env.cells.lookup x = some c → c ≠ b) ∧ ∀ p ∈ X.pn ++ pins, p.1 ≠ b) :
    Inv X pins σ H' { s with heap := h', gens := g', drawn := d', toks := t' } := by
  obtain ⟨m, ⟨o, es, ep, ho, r⟩, _⟩ := id I.loc
  obtain ⟨sl, hL⟩ := u.any ho I.free fun z => (hch _ z).2.1 rfl
  exact I.step (ch := ch) hch (fun b o hL hb hc e n => u.keep b o e n (fun z => (List.mem_cons.mp (I.stkSub b z)).elim hL hb) hc) (fun b o _ _ hc e n => u.any e n hc) (fun b o hc e n => u.free b o e n hc) (fun b o hc e => u.there b o e hc) u.tups u.frzs u.tbls (fun m' hm => by
    obtain ⟨o', es', ep', ho', r'⟩ := hm
    rw [ho] at ho'; cases ho'
    exact ⟨_, es', ep', hL, r'⟩) hok hg
/-- an untracked record of ours (an iterator) has turned -/
theorem Inv.turned {t' : Nat} {it : Addr} (I : Inv X pins σ H s) (k : ∀ b o, b ≠ it → s.heap.get? b = some o → h'.get? b = some o) (hn : H it = none) (hL : it ≠ X.env.locals)
    (h1 : it ∈ X.ex ∨ X.s_0.heap.objs.size ≤ it) (h2 : ∀ x c, X.env.cells.lookup x = some c → c ≠ it) (h3 : ∀ p ∈ X.pn ++ pins, p.1 ≠ it) : Inv X pins σ H { s with heap := h', toks := t' } := by
  have nit : ∀ b u, H b = some u → b ≠ it := fun b u e z => by rw [z, hn] at e; cases e
  refine I.step (g' := s.gens) (d' := s.drawn) (ch := [it]) (fun b hb => ?_) (fun b o _ _ hc e _ => k b o (fun z => hc (by simp [z])) e) (fun b o _ _ hc e _ => ⟨o.slots, k b o (fun z => hc (by simp [z])) e⟩) (fun _ _ _ _ n => n)
    (fun b o hc e => ⟨o, k b o (fun z => hc (by simp [z])) e⟩) (fun _ _ e => e) (fun _ _ _ e => e) (fun b ps e => ⟨#[], by rw [e]; simp⟩) (fun m hm => ?_) (fun b u e => ?_) I.bare
  · have e : b = it := by simpa using hb
    subst e
    exact ⟨h1, hL, h2, h3⟩
  · obtain ⟨o, es, ep, ho, r⟩ := hm
    exact ⟨o, es, ep, k _ o (Ne.symm hL) ho, r⟩
  · refine (I.hok b u e).stay (fun c v hc q => k c v ?_ q) (fun _ q => q) fun _ _ q => q
    rcases hc with z | z
    · rw [z]; exact nit b u e
    · exact nit c _ z
theorem Inv.tok (I : Inv X pins σ H s) (t : Nat) : Inv X pins σ H { s with toks := t } := I.un (h' := s.heap) (t' := t) Un.refl I.hok
/-- all objects kept -/
theorem Inv.kept {t' : Nat} (I : Inv X pins σ H s) (k : ∀ b u, s.heap.get? b = some u → h'.get? b = some u) : Inv X pins σ H { s with heap := h', toks := t' } := I.un (Un.kept k) (I.hok.kept k)
/-- a new object laid and tracked -/
theorem Inv.laid {a : Addr} {o : HO} {t' : Nat} (I : Inv X pins σ H s) (k : ∀ b u, s.heap.get? b = some u → h'.get? b = some u) (hp : s.heap.objs.size ≤ a) (new : ObjOk X.prog X.w (upd H a o) h' a o) :
    Inv X pins σ (upd H a o) { s with heap := h', toks := t' } := I.un (Un.laid k hp (I.hok.fresh hp)) (I.hok.laid k hp new)
/-- an object written -/
theorem Inv.write {x e : Addr} {o : HO} {t' : Nat} (I : Inv X pins σ H s) (mu : Mut (H x)) (he : e = x ∨ H e = some (.own x)) (k : ∀ b u, b ≠ e → s.heap.get? b = some u → h'.get? b = some u) (heo : ∃ u, h'.get? e = some u)
    (new : ObjOk X.prog X.w (upd H x o) h' x o) : Inv X pins σ (upd H x o) { s with heap := h', toks := t' } := I.un (Un.write mu he k heo) (I.hok.write mu he k heo new)
/-- forgetting slots, pins -/
theorem Inv.weak {σ' : List (Option V)} (I : Inv X pins σ H s) (hl : σ'.length = σ.length) (w : ∀ (i : Nat) v, σ'[i]? = some (some v) → σ[i]? = some (some v)) : Inv X pins σ' H s :=
  ⟨I.ok, I.os, I.bare, I.base, let ⟨m, hn, hl'⟩ := I.loc; ⟨m, hn, fun i x v e1 e2 e3 => hl' i x v e1 (w i v e2) e3⟩, I.cell, I.free, I.freeC, I.pin, I.hok, hl.trans I.len⟩
theorem Inv.pins_of {pins' : List (Addr × Obj)} (I : Inv X pins σ H s) (h : ∀ p ∈ pins', s.heap.get? p.1 = some p.2 ∧ H p.1 = none ∧ p.1 ≠ X.env.locals ∧ p.1 ∉ X.fs ∧ ∀ v, p.2.data ≠ .cell v) : Inv X pins' σ H s :=
  ⟨I.ok, I.os, I.bare, I.base, I.loc, I.cell, I.free, I.freeC, fun p hp => (List.mem_append.mp hp).elim (fun z => I.pin p (List.mem_append_left _ z)) (h p), I.hok, I.len⟩
theorem nodup_ix {N : List Str} (hN : N.Nodup) {i j : Nat} {x : Str} (a : N[i]? = some x) (b : N[j]? = some x) : i = j := by
  obtain ⟨h1, e1⟩ := List.getElem?_eq_some_iff.mp a
  obtain ⟨h2, e2⟩ := List.getElem?_eq_some_iff.mp b
  exact (List.getElem_inj hN).mp (e1.trans e2.symm)
/-- a name is stored; what changed -/
theorem store_ok2 {M : Model} {A : Around} {E : Value → Shared → Prop} {i : Nat} {x : Str} {v : V} {u : Value} {Q : Unit → Shared → Prop} (I : Inv X pins σ H s) (hN : X.N.Nodup) (hi : X.N[i]? = some x) (hx : Loc X.env.scope x) (r : RelV v u)
    (h : ∀ s', Inv X pins (σ.set i (some v)) H s' → (∃ a, Heap.SameBut a s.heap s'.heap ∧ (a = X.env.locals ∨ X.env.cells.lookup x = some a)) → Q () s') (hf : X.fn x = true ∨ X.env.scope.names.lookup x = some .local := by first | exact .inl rfl | exact .inr rfl | assumption) : wpAny M A (storeName X.env x u) Q E s := by
  obtain ⟨m, hn, hl⟩ := id I.loc
  have hcls : (X.env.scope.kind == .class || (X.env.scope.kind == .module && X.env.locals != X.env.globals)) = false := by rw [I.ok.kind]; rfl
  have hiσ : i < σ.length := by rw [I.len]; exact (List.getElem?_eq_some_iff.mp hi).1
  have cne := I.cne
  have tracked : ∀ {a : Addr} {h' : Heap}, (∃ o, s.heap.get? a = some o ∧ H a = none) → Heap.SameBut a s.heap h' → HOk X.prog X.w H h' := fun {a h'} ha hs b ob e => by
    obtain ⟨_, _, hfree⟩ := ha
    refine (I.hok b ob e).stay (fun c w' hc q => (hs.2 c ?_).trans q) (fun _ q => q) fun _ _ q => q
    rintro rfl
    rcases hc with rfl | hc
    · rw [hfree] at e; cases e
    · rw [hfree] at hc; cases hc
  rcases hx with hk | hk
  · refine wpAny_storeName_local hk hn (fun h' hn' hs => ?_) hcls
    obtain ⟨oL, _, _, hoL, _⟩ := id hn
    refine h _ ⟨I.ok, I.os, I.bare, ⟨fun b o e n hb hx => ?_, fun b o e n hb hx => ?_, I.base.free, fun b o e hx => ?_, I.base.tups, I.base.frzs, I.base.tbls⟩, ⟨_, hn', fun j y v' e1 e2 e3 => ?_⟩, fun y c e => ?_, I.free, I.freeC, fun p hp => ?_, tracked ⟨oL, hoL, I.free⟩ hs, by simpa using I.len⟩ ⟨_, hs, .inl rfl⟩
    · exact (hs.2 b (Nat.ne_of_lt (Nat.lt_of_lt_of_le (Heap.lt_size e) I.ok.above))).trans (I.base.keep b o e n hb hx)
    · obtain ⟨sl, e1⟩ := I.base.slot b o e n hb hx
      exact ⟨sl, (hs.2 b (Nat.ne_of_lt (Nat.lt_of_lt_of_le (Heap.lt_size e) I.ok.above))).trans e1⟩
    · obtain ⟨o', e1⟩ := I.base.there b o e hx
      exact ⟨o', (hs.2 b (Nat.ne_of_lt (Nat.lt_of_lt_of_le (Heap.lt_size e) I.ok.above))).trans e1⟩
    · by_cases hj : j = i
      · subst hj
        rw [hi] at e1; cases e1
        rw [List.getElem?_set_self hiσ] at e2
        cases e2
        exact ⟨u, r, .inl ⟨hk, by simp⟩⟩
      · rw [List.getElem?_set_ne (Ne.symm hj)] at e2
        obtain ⟨u', r', q⟩ := hl j y v' e1 e2 e3
        refine ⟨u', r', ?_⟩
        rcases q with ⟨k, e⟩ | ⟨k, c, e, z⟩
        · refine .inl ⟨k, ?_⟩
          have : y ≠ x := fun e => hj (nodup_ix hN e1 (e ▸ hi))
          simp [this, e]
        · exact .inr ⟨k, c, e, z.sameBut hs (cne y c e)⟩
    · obtain ⟨w', z⟩ := I.cell y c e
      exact ⟨w', z.sameBut hs (cne y c e)⟩
    · obtain ⟨e, n, ne, nf, d⟩ := I.pin p hp
      exact ⟨(hs.2 p.1 ne).trans e, n, ne, nf, d⟩
  · have hfn : X.fn x = true := by
      rcases hf with z | z
      · exact z
      · rw [z] at hk; cases hk
    obtain ⟨c, hc⟩ := I.ok.has x (.inl hk)
    obtain ⟨w', z⟩ := I.cell x c hc
    refine wpAny_storeName_cell I.ok.kind hk hc z (fun h' hc' hs => ?_)
    obtain ⟨oc, hoc, hocd⟩ := id z
    refine h { s with heap := h' } ⟨I.ok, I.os, I.bare, ⟨fun b o e n hb hx => ?_, fun b o e n hb hx => ?_, I.base.free, fun b o e hx => ?_, I.base.tups, I.base.frzs, I.base.tbls⟩, ⟨m, hn.sameBut hs (Ne.symm (cne x c hc)), fun j y v' e1 e2 e3 => ?_⟩, fun y c' e => ?_, I.free, I.freeC, fun p hp => ?_, tracked ⟨oc, hoc, I.freeC x c hc⟩ hs, by simpa using I.len⟩ ⟨c, hs, .inr hc⟩
    · exact (hs.2 b (Nat.ne_of_lt (Nat.lt_of_lt_of_le (Heap.lt_size e) (I.ok.cab x c hfn hc)))).trans (I.base.keep b o e n hb hx)
    · obtain ⟨sl, e1⟩ := I.base.slot b o e n hb hx
      exact ⟨sl, (hs.2 b (Nat.ne_of_lt (Nat.lt_of_lt_of_le (Heap.lt_size e) (I.ok.cab x c hfn hc)))).trans e1⟩
    · obtain ⟨o', e1⟩ := I.base.there b o e hx
      exact ⟨o', (hs.2 b (Nat.ne_of_lt (Nat.lt_of_lt_of_le (Heap.lt_size e) (I.ok.cab x c hfn hc)))).trans e1⟩
    · by_cases hj : j = i
      · subst hj
        rw [hi] at e1; cases e1
        rw [List.getElem?_set_self hiσ] at e2
        cases e2
        exact ⟨u, r, .inr ⟨.inl hk, c, hc, hc'⟩⟩
      · rw [List.getElem?_set_ne (Ne.symm hj)] at e2
        obtain ⟨u', r', q⟩ := hl j y v' e1 e2 e3
        refine ⟨u', r', ?_⟩
        rcases q with q | ⟨k, c', e, z'⟩
        · exact .inl q
        · refine .inr ⟨k, c', e, z'.sameBut hs ?_⟩
          rintro rfl
          exact hj (nodup_ix hN e1 (I.ok.inj _ _ _ e hc ▸ hi))
    · by_cases hcc : c' = c
      · subst hcc; exact ⟨_, hc'⟩
      · obtain ⟨w2, z2⟩ := I.cell y c' e
        exact ⟨w2, z2.sameBut hs hcc⟩
    · obtain ⟨e, n, ne, nf, d⟩ := I.pin p hp
      refine ⟨(hs.2 p.1 ?_).trans e, n, ne, nf, d⟩
      intro q
      rw [q, hoc] at e
      have q' : oc = p.2 := Option.some.inj e
      exact d w' (by rw [← q']; exact hocd)
theorem store_ok {M : Model} {A : Around} {E : Value → Shared → Prop} {i : Nat} {x : Str} {v : V} {u : Value} {Q : Unit → Shared → Prop} (I : Inv X pins σ H s) (hN : X.N.Nodup) (hi : X.N[i]? = some x) (hx : Loc X.env.scope x) (r : RelV v u)
    (h : ∀ s', Inv X pins (σ.set i (some v)) H s' → Q () s') (hf : X.fn x = true ∨ X.env.scope.names.lookup x = some .local := by first | exact .inl rfl | exact .inr rfl | assumption) : wpAny M A (storeName X.env x u) Q E s :=
  store_ok2 I hN hi hx r (fun s' I' _ => h s' I') hf
/-- behind a call or a block, the state as it is -/
theorem Inv.call' {s' : Shared} {ch : List Addr} (I : Inv X pins σ H s) (ho : s'.os = s.os) (u : Un (frs X.stack) ch H H' s.heap s'.heap) (hok : HOk X.prog X.w H' s'.heap) (hg : AllBare s'.gens)
    (hch : ∀ b ∈ ch, (b ∈ X.ex ∨ X.s_0.heap.objs.size ≤ b) ∧ b ≠ X.env.locals ∧ (∀ x c, X.env.cells.lookup x = some c → c ≠ b) ∧ ∀ p ∈ X.pn ++ pins, p.1 ≠ b) : Inv X pins σ H' s' := by
  obtain ⟨h', g', d', t', o'⟩ := s'
  have e : o' = s.os := ho
  subst e
  exact I.call (g' := g') (t' := t') (d' := d') u hok hg hch
end
/-! ### the judgements -/
/-- an exception: its class, its own dict's address (where it has one), the abstract heap behind it -/
abbrev XK := Value → Option Addr → Hp → Prop
abbrev St := List (Option V)
abbrev VK := V → Hp → Prop
/-- an expression's reading; a test's; an argument list's -/
abbrev TE := St → Hp → VK → Prop
abbrev TT := St → Hp → (Bool → Hp → Prop) → Prop
abbrev TA := St → Hp → (List V → Hp → Prop) → Prop
/-- what is wanted behind a statement -/
structure Ends where
  nx : St → Hp → Prop
  rt : VK
  bk : St → Hp → Prop := fun _ _ => False
  ct : St → Hp → Prop := fun _ _ => False
abbrev TS := Ends → St → Hp → Prop
def EP (X : Cx) (pins : List (Addr × Obj)) (σ : St) (Q : VK) (u : Value) (s' : Shared) : Prop := ∃ v H', Inv X pins σ H' s' ∧ RelV v u ∧ Q v H'
def TP (X : Cx) (pins : List (Addr × Obj)) (σ : St) (Q : Bool → Hp → Prop) (b : Bool) (s' : Shared) : Prop := ∃ H', Inv X pins σ H' s' ∧ Q b H'
def AP (X : Cx) (pins : List (Addr × Obj)) (σ : St) (Q : List V → Hp → Prop) (us : List Value) (s' : Shared) : Prop := ∃ vs H', Inv X pins σ H' s' ∧ Vals vs us ∧ Q vs H'
def SP (X : Cx) (pins : List (Addr × Obj)) (D : Ends) (f : Flow) (s' : Shared) : Prop :=
  match f with
  | .next => ∃ σ' H', Inv X pins σ' H' s' ∧ D.nx σ' H'
  | .brk => ∃ σ' H', Inv X pins σ' H' s' ∧ D.bk σ' H'
  | .cont => ∃ σ' H', Inv X pins σ' H' s' ∧ D.ct σ' H'
  | .ret u => ∃ v σ' H', Inv X pins σ' H' s' ∧ RelV v u ∧ D.rt v H'
def PE (X : Cx) (e : Expr) (t : TE) : Prop :=
  ∀ (pins : List (Addr × Obj)) (s : Shared) (σ : St) (H : Hp) (Q : VK), Inv X pins σ H s → t σ H Q → wpAny (model X.prog X.w) X.A (eval e X.env) (EP X pins σ Q) X.xe s
def PT (X : Cx) (e : Expr) (t : TT) : Prop :=
  ∀ (pins : List (Addr × Obj)) (s : Shared) (σ : St) (H : Hp) (Q : Bool → Hp → Prop), Inv X pins σ H s → t σ H Q → wpAny (model X.prog X.w) X.A (isTrue e X.env (eval e X.env)) (TP X pins σ Q) X.xe s
/-- a test whatever its 'whole' is (and, or) -/
def PW (X : Cx) (e : Expr) (t : TT) : Prop :=
  ∀ (whole : Sem Value) (pins : List (Addr × Obj)) (s : Shared) (σ : St) (H : Hp) (Q : Bool → Hp → Prop), Inv X pins σ H s → t σ H Q → wpAny (model X.prog X.w) X.A (isTrue e X.env whole) (TP X pins σ Q) X.xe s
theorem PW.pt {X : Cx} {e : Expr} {t : TT} (h : PW X e t) : PT X e t := h _
/-- an argument list (no star), from the left -/
def PA (X : Cx) (es : List Expr) (t : TA) : Prop :=
  ∀ (pos : Pos) (pins : List (Addr × Obj)) (s : Shared) (σ : St) (H : Hp) (Q : List V → Hp → Prop), Inv X pins σ H s → t σ H Q → wpAny (model X.prog X.w) X.A (spliced (backTo pos (starEach es X.env))) (AP X pins σ Q) X.xe s
def PS (X : Cx) (st : Stmt) (t : TS) : Prop :=
  ∀ (pins : List (Addr × Obj)) (s : Shared) (σ : St) (H : Hp) (D : Ends), Inv X pins σ H s → t D σ H → wpAny (model X.prog X.w) X.A (exec st X.env) (SP X pins D) X.xe s
def PSs (X : Cx) (st : List Stmt) (t : TS) : Prop :=
  ∀ (pins : List (Addr × Obj)) (s : Shared) (σ : St) (H : Hp) (D : Ends), Inv X pins σ H s → t D σ H → wpAny (model X.prog X.w) X.A (execs st X.env) (SP X pins D) X.xe s
/-- weaken the end -/
theorem thn {α : Type} {t : Sem α} {Q Q' : α → Shared → Prop} {M : Model} {A : Around} {E : Value → Shared → Prop} {s : Shared} (h : wpAny M A t Q E s) (hQ : ∀ a s, Q a s → Q' a s) : wpAny M A t Q' E s := wpAny_mono h hQ fun _ _ x => x
end L2
namespace L2
open PySem PySem.Spec PyProof.Rows
section
variable {X : Cx}
/-! ### names and constants -/
def tVar (i : Nat) : TE := fun σ H Q => ∃ v, σ[i]? = some (some v) ∧ Q v H
def tC (v : V) : TE := fun _ H Q => Q v H
theorem pe_var {i : Nat} {x : Str} {pos : Pos} (hN : X.N[i]? = some x) (hv : Vis X.env.scope x) (hd : (x == ("__debug__" : Str)) = false := by decide) (hcd : (x == ("__classdict__" : Str)) = false := by decide) : PE X (.Name x pos) (tVar i) := by
  intro pins s σ H Q I h
  obtain ⟨v, e, h⟩ := h
  obtain ⟨m, hn, hl⟩ := I.loc
  obtain ⟨u, r, l⟩ := hl i x v hN e hv
  have fin : EP X pins σ Q u s := ⟨v, H, I, r, h⟩
  rcases l with ⟨hk, hm⟩ | ⟨hk, c, hc, hcell⟩
  · exact wpAny_Name (wpAny_loadName_local I.ok.kind hk hn hm fin) hd
  · rcases hk with hk | hk
    · exact wpAny_Name (wpAny_loadName_cell I.ok.kind hk hc hcell fin) hd
    · exact wpAny_Name (wpAny_loadName_free I.ok.kind hk hc hcell fin hcd) hd
theorem pe_int {i j pos} : PE X (.Constant (.int i) j pos) (tC (.int i)) := fun _ _ _ H _ I h => wpAny_Constant_int ⟨.int i, H, I.tok _, ⟨_, rfl⟩, h⟩
theorem pe_bl {b j pos} : PE X (.Constant (.bool b) j pos) (tC (.bl b)) := fun _ _ _ H _ I h => Constant_bool ⟨.bl b, H, I, rfl, h⟩
theorem pe_non {j pos} : PE X (.Constant .none j pos) (tC .non) := fun _ _ _ H _ I h => Constant_none ⟨.non, H, I, rfl, h⟩
/-- a global name of the def -/
def Gl (X : Cx) (x : Str) : Prop := X.env.kindOf x = some .globalImplicit
theorem ld_glob {E : Value → Shared → Prop} {pins : List (Addr × Obj)} {s : Shared} {σ : St} {H : Hp} {x : Str} {u : Value} {pos : Pos} {Q : Value → Shared → Prop} (I : Inv X pins σ H s) (hg : Gl X x) (hm : X.mg x = some u) (h : Q u s)
    (hd : (x == ("__debug__" : Str)) = false := by decide) : wpAny (model X.prog X.w) X.A (eval (.Name x pos) X.env) Q E s :=
  Calls.Name_function_global I.ok.kind hg (Calls.loadGlobal_global (by rw [I.ok.glob]; exact I.mod.glob.keeps I.bk) hm h) hd
theorem ld_blt {E : Value → Shared → Prop} {pins : List (Addr × Obj)} {s : Shared} {σ : St} {H : Hp} {x : Str} {u : Value} {pos : Pos} {Q : Value → Shared → Prop} (I : Inv X pins σ H s) (hg : Gl X x) (hm : X.mg x = none) (hv : bootBuiltins x = some u) (h : Q u s)
    (hn : x ≠ "__name__" := by decide) (hd : (x == ("__debug__" : Str)) = false := by decide) : wpAny (model X.prog X.w) X.A (eval (.Name x pos) X.env) Q E s := by
  obtain ⟨mb, h1, h2⟩ := I.mod.blt
  exact Calls.Name_function_global I.ok.kind hg (Calls.loadGlobal_builtin (by rw [I.ok.glob]; exact I.mod.glob.keeps I.bk) hm (by rw [I.ok.blt]; exact h1.keeps I.bk) ((h2 x hn).trans hv) h) hd
/-- a module's constant, a class, a function, as a value -/
theorem pe_glob {x : Str} {v : V} {u : Value} {pos : Pos} (hg : Gl X x) (hm : X.mg x = some u) (r : RelV v u) (hd : (x == ("__debug__" : Str)) = false := by decide) : PE X (.Name x pos) (tC v) :=
  fun _ _ _ H _ I h => ld_glob I hg hm ⟨v, H, I, r, h⟩ hd
/-! ### arithmetic -/
variable {a b : Expr} {ta tb : TE} {pos : Pos}
/-! ### comparisons -/
/-- a comparison as a value, as a test -/
def tB (t : TE) : TT := fun σ H Q => t σ H fun x H1 => ∃ c, x = .bl c ∧ Q c H1
/-- an expression whose value is a bool, as a test -/
theorem pt_val {e : Expr} {t : TE} (h : PE X e t) (he : ∀ whole, isTrue e X.env whole = (do let v ← whole; standAt e.pos; holding [v] (truthy v)) := by intro _; rfl) : PT X e (tB t) := by
  intro pins s σ H Q I hw
  refine isTrue_plain (thn (h pins s σ H _ I hw) fun v s1 ⟨x, H1, I1, r1, q1⟩ => ?_) (he _)
  obtain ⟨d, rfl, q⟩ := q1
  cases r1
  exact wpAny_truthy_bool ⟨H1, I1, q⟩
/-! ### and, or, not -/
variable {tA tB' : TT} {rest : List Expr}
def tOr (t u : TT) : TT := fun σ H Q => t σ H fun c H1 => if c = true then Q true H1 else u σ H1 Q
def tNot (t : TT) : TT := fun σ H Q => t σ H fun c H1 => Q (!c) H1
theorem pw_or1 (ha : PT X a tA) : PW X (.BoolOp .Or [a] pos) tA := by
  intro wh pins s σ H Q I h
  refine isTrue_or (thn (ha pins s σ H Q I h) fun c s1 e => ?_)
  cases c with
  | false => exact isTrue_or_nil e
  | true => exact e
theorem pw_or (ha : PT X a tA) (hb : PW X (.BoolOp .Or (b :: rest) pos) tB') : PW X (.BoolOp .Or (a :: b :: rest) pos) (tOr tA tB') := by
  intro wh pins s σ H Q I h
  refine isTrue_or (thn (ha pins s σ H _ I h) fun c s1 ⟨H1, I1, q1⟩ => ?_)
  cases c with
  | true => exact ⟨H1, I1, q1⟩
  | false => exact hb wh pins s1 σ H1 Q I1 q1
theorem pt_not (ha : PT X a tA) : PT X (.UnaryOp .Not a pos) (tNot tA) := by
  intro pins s σ H Q I h
  exact isTrue_not (ha pins s σ H (fun c H1 => Q (!c) H1) I h)
/-- .. as values (bools) -/
def tAndV (ta tb : TE) : TE := fun σ H Q => ta σ H fun x H1 => ∃ c, x = .bl c ∧ if c = true then tb σ H1 Q else Q (.bl false) H1
theorem pe_one {op} {t : TE} (h : PE X a t) : PE X (.BoolOp op [a] pos) t := fun pins s σ H Q I hw => BoolOp_one (h pins s σ H Q I hw)
theorem pe_and (ha : PE X a ta) (hb : PE X (.BoolOp .And (b :: rest) pos) tb) : PE X (.BoolOp .And (a :: b :: rest) pos) (tAndV ta tb) := by
  intro pins s σ H Q I h
  refine BoolOp_and (thn (ha pins s σ H _ I h) fun v s1 ⟨x, H1, I1, r1, q1⟩ => ?_)
  obtain ⟨c, rfl, q1⟩ := q1
  cases r1
  refine wpAny_truthy_bool ?_
  cases c with
  | true => exact hb pins s1 σ H1 Q I1 q1
  | false => exact ⟨.bl false, H1, I1, rfl, q1⟩
/-- a if t else b -/
def tIf (t : TT) (ta tb : TE) : TE := fun σ H Q => t σ H fun c H1 => if c = true then ta σ H1 Q else tb σ H1 Q
theorem pe_ifExp {c : Expr} (hc : PT X c tA) (ha : PE X a ta) (hb : PE X b tb) : PE X (.IfExp c a b pos) (tIf tA ta tb) := by
  intro pins s σ H Q I h
  refine wpAny_IfExp (thn (hc pins s σ H _ I h) fun d s1 ⟨H1, I1, q1⟩ => ?_)
  cases d with
  | true => exact ha pins s1 σ H1 Q I1 q1
  | false => exact hb pins s1 σ H1 Q I1 q1
end
end L2
namespace L2
open PySem PySem.Spec PyProof.Rows
/-! ### a list, a tuple that is read: tracked, frozen, or an object of the module -/
def SqL (K : PySem.W.Frag) (H : Hp) (a : Addr) (xs : List V) : Prop :=
  Rd H a (.lst xs) ∨
    ∃ (o : Obj) (its : Array Value) (n : Nat), K.lookup a = some o ∧ o.cls = .type "list" ∧ o.dict = none ∧ o.data = .seq its n ∧ its.size ≤ sizeLine ∧ Vals xs its.toList
def SqT (K : PySem.W.Frag) (H : Hp) (a : Addr) (xs : List V) : Prop :=
  Rd H a (.tup xs) ∨
    ∃ (o : Obj) (its : Array Value) (n : Nat), K.lookup a = some o ∧ o.cls = .type "tuple" ∧ o.data = .seq its n ∧ its.size ≤ sizeLine ∧ Vals xs its.toList
def absV : Value → Option V
  | .none => some .non
  | .bool b => some (.bl b)
  | .int i _ => some (.int i)
  | .str x _ => some (.str x)
  | .bytes b _ => some (.byt b)
  | .float b _ => some (.flt b)
  | .ref a => some (.ref a)
  | .type n => some (.ty n)
  | _ => none
theorem RelV.abs {x : V} {u : Value} (r : RelV x u) : absV u = some x := by
  cases x with
  | non => cases r; rfl
  | bl _ => cases r; rfl
  | int _ => obtain ⟨t, rfl⟩ := r; rfl
  | str _ => obtain ⟨t, rfl⟩ := r; rfl
  | byt _ => obtain ⟨t, rfl⟩ := r; rfl
  | flt _ => obtain ⟨t, rfl⟩ := r; rfl
  | ref _ => cases r; rfl
  | ty _ => cases r; rfl
theorem RelV.inj {x y : V} {u : Value} (r : RelV x u) (q : RelV y u) : x = y := Option.some.inj (r.abs.symm.trans q.abs)
theorem Vals.inj : ∀ {xs ys : List V} {us : List Value}, Vals xs us → Vals ys us → xs = ys
  | _, _, _, .nil, .nil => rfl
  | _, _, _, .cons r t, .cons r' t' => by rw [r.inj r', Vals.inj t t']
section
variable {X : Cx} {pins : List (Addr × Obj)} {σ : St} {H : Hp} {s : Shared} {a : Addr} {xs ys : List V}
theorem SqL.of {K : PySem.W.Frag} (h : H a = some (.lst xs)) : SqL K H a xs := .inl (.inl h)
theorem SqT.of {K : PySem.W.Frag} (h : H a = some (.tup xs)) : SqT K H a xs := .inl (.inl h)
theorem Inv.list (I : Inv X pins σ H s) (h : SqL X.K H a xs) : ∃ its : List Value, Vals xs its ∧ PlainL s.heap a its.toArray ∧ xs.length ≤ sizeLine := by
  rcases h with h | ⟨o, its, n, hk, hc, hd, hs, hz, r⟩
  · obtain ⟨z, its, n, r, e⟩ := h.ok I.hok
    exact ⟨its, r, ⟨_, n, e, rfl, rfl, rfl⟩, z⟩
  · refine ⟨its.toList, r, ⟨o, n, I.kIn a o hk, hc, hd, by simpa using hs⟩, ?_⟩
    have e := r.length
    simp only [Array.length_toList] at e
    omega
theorem Inv.tuple (I : Inv X pins σ H s) (h : SqT X.K H a xs) : ∃ its : List Value, Vals xs its ∧ IsTup s.heap a its.toArray ∧ xs.length ≤ sizeLine := by
  rcases h with h | ⟨o, its, n, hk, hc, hs, hz, r⟩
  · obtain ⟨z, its, r, p⟩ := h.ok I.hok
    exact ⟨its, r, p, z⟩
  · refine ⟨its.toList, r, ⟨o, I.kIn a o hk, hc, n, by simpa using hs⟩, ?_⟩
    have e := r.length
    simp only [Array.length_toList] at e
    omega
theorem Inv.list_inj (I : Inv X pins σ H s) (h : SqL X.K H a xs) (h' : SqL X.K H a ys) : xs = ys := by
  obtain ⟨its, r, ⟨o, n, e, _, _, d⟩, _⟩ := I.list h
  obtain ⟨its', r', ⟨o', n', e', _, _, d'⟩, _⟩ := I.list h'
  rw [e] at e'; cases e'
  rw [d] at d'
  injection d' with d1 _
  have : its = its' := by simpa using congrArg Array.toList d1
  subst this
  exact r.inj r'
end
/-! ### another wish about exceptions -/
abbrev Cx.wish (X : Cx) (E : Value → Shared → Prop) : Cx := { X with xe := E }
/-- no exception leaves -/
abbrev Cx.nox (X : Cx) : Cx := X.wish fun _ _ => False
theorem Cx.Ok.wish {X : Cx} (ok : X.Ok) (E : Value → Shared → Prop) : (X.wish E).Ok :=
  ⟨ok.mod, ok.kind, ok.glob, ok.blt, ok.above, ok.inj, ok.has, ok.cab, ok.hd, ok.frames, ok.stk, ok.exf, ok.bs, ok.bsz, ok.noex, ok.exfs, ok.funs, ok.frf⟩
theorem Cx.Ok.unwish {X : Cx} {E : Value → Shared → Prop} (ok : (X.wish E).Ok) : X.Ok :=
  ⟨ok.mod, ok.kind, ok.glob, ok.blt, ok.above, ok.inj, ok.has, ok.cab, ok.hd, ok.frames, ok.stk, ok.exf, ok.bs, ok.bsz, ok.noex, ok.exfs, ok.funs, ok.frf⟩
section
variable {X : Cx} {pins : List (Addr × Obj)} {σ : St} {H : Hp} {s : Shared} {E : Value → Shared → Prop}
theorem Inv.wish (I : Inv X pins σ H s) (E : Value → Shared → Prop) : Inv (X.wish E) pins σ H s := ⟨I.ok.wish E, I.os, I.bare, I.base, I.loc, I.cell, I.free, I.freeC, I.pin, I.hok, I.len⟩
theorem Inv.unwish (I : Inv (X.wish E) pins σ H s) : Inv X pins σ H s := ⟨I.ok.unwish, I.os, I.bare, I.base, I.loc, I.cell, I.free, I.freeC, I.pin, I.hok, I.len⟩
theorem SP.unwish {D : Ends} {f : Flow} {s' : Shared} (h : SP (X.wish E) pins D f s') : SP X pins D f s' := by
  cases f with
  | next => obtain ⟨σ', H', I, q⟩ := h; exact ⟨σ', H', I.unwish, q⟩
  | brk => obtain ⟨σ', H', I, q⟩ := h; exact ⟨σ', H', I.unwish, q⟩
  | cont => obtain ⟨σ', H', I, q⟩ := h; exact ⟨σ', H', I.unwish, q⟩
  | ret u => obtain ⟨v, σ', H', I, r, q⟩ := h; exact ⟨v, σ', H', I.unwish, r, q⟩
theorem PSs.nox {st : List Stmt} {t : TS} (h : PSs X.nox st t) : PSs X st t := fun pins s σ H D I hw =>
  wpAny_mono (h pins s σ H D (I.wish _) hw) (fun _ _ q => q.unwish) fun _ _ z => False.elim z
end
/-! ### blocks and small statements -/
section
variable {X : Cx} {st : Stmt} {rest : List Stmt} {t u : TS} {e : Expr} {te : TE} {pos : Pos}
def tNext : TS := fun D σ H => D.nx σ H
def tSeq (t u : TS) : TS := fun D σ H => t { D with nx := u D } σ H
theorem pss_nil : PSs X [] tNext := fun _ _ σ H _ I h => wpAny_execs_nil ⟨σ, H, I, h⟩
theorem pss_cons (h1 : PS X st t) (h2 : PSs X rest u) : PSs X (st :: rest) (tSeq t u) := by
  intro pins s σ H D I h
  refine wpAny_execs_cons (thn (h1 pins s σ H { D with nx := u D } I h) fun f s1 q => ?_)
  cases f with
  | next =>
    obtain ⟨σ', H', I', q⟩ := q
    exact h2 pins s1 σ' H' D I' q
  | ret v => exact q
  | brk => exact q
  | cont => exact q
theorem pss_one (h1 : PS X st t) : PSs X [st] t := by
  intro pins s σ H D I h
  refine wpAny_execs_cons (thn (h1 pins s σ H D I h) fun f s1 q => ?_)
  cases f with
  | next => exact wpAny_execs_nil q
  | ret v => exact q
  | brk => exact q
  | cont => exact q
/-- in a def's body nothing is shown -/
theorem Inv.quiet {pins : List (Addr × Obj)} {σ : St} {H : Hp} {s : Shared} (I : Inv X pins σ H s) : interactive X.env = false := by simp [interactive, I.ok.kind]
/-- an expression whose value is dropped -/
def tDrop (te : TE) : TS := fun D σ H => te σ H fun _ H1 => D.nx σ H1
theorem ps_expr (he : PE X e te) (hs : swapsWith e none pos.line X.env = pure false := by rfl) : PS X (.Expr e pos) (tDrop te) := by
  intro pins s σ H D I h
  exact wpAny_Expr_any (thn (he pins s σ H _ I h) fun v s1 ⟨x, H1, I1, r1, q1⟩ => ⟨σ, H1, I1, q1⟩) I.quiet hs
def tRet (te : TE) : TS := fun D σ H => te σ H D.rt
theorem ps_ret (he : PE X e te) : PS X (.Return (some e) pos) (tRet te) := by
  intro pins s σ H D I h
  exact wpAny_Return_some (thn (he pins s σ H _ I h) fun v s1 ⟨x, H1, I1, r1, q1⟩ => ⟨x, σ, H1, I1, r1, q1⟩)
def tIfS (c : TT) (t u : TS) : TS := fun D σ H => c σ H fun b H1 => if b = true then t D σ H1 else u D σ H1
theorem ps_if {c : Expr} {a b : List Stmt} {tc : TT} (hc : PT X c tc) (ha : PSs X a t) (hb : PSs X b u) : PS X (.If c a b pos) (tIfS tc t u) := by
  intro pins s σ H D I h
  refine wpAny_If (thn (hc pins s σ H _ I h) fun d s1 ⟨H1, I1, q1⟩ => ?_)
  cases d with
  | true => exact ha pins s1 σ H1 D I1 q1
  | false => exact hb pins s1 σ H1 D I1 q1
end
/-! ### targets -/
abbrev TG := V → St → Hp → (St → Hp → Prop) → Prop
def PG (X : Cx) (target : Expr) (t : TG) : Prop :=
  ∀ (pins : List (Addr × Obj)) (s : Shared) (σ : St) (H : Hp) (v : V) (u : Value) (Q : St → Hp → Prop), Inv X pins σ H s → RelV v u → t v σ H Q →
    wpAny (model X.prog X.w) X.A (assign target X.env u) (fun _ s' => ∃ σ' H', Inv X pins σ' H' s' ∧ Q σ' H') X.xe s
/-- o[i] = v, by values -/
abbrev TSet := V → V → V → Hp → (Hp → Prop) → Prop
def PSet (X : Cx) (t : TSet) : Prop :=
  ∀ (pins : List (Addr × Obj)) (s : Shared) (σ : St) (H : Hp) (o i v : V) (ov iv u : Value) (Q : Hp → Prop), Inv X pins σ H s → RelV o ov → RelV i iv → RelV v u → t o i v H Q →
    wpAny (model X.prog X.w) X.A (setItem ov iv u) (fun _ s' => ∃ H', Inv X pins σ H' s' ∧ Q H') X.xe s
section
variable {X : Cx} {pos : Pos}
def gName (i : Nat) : TG := fun v σ H Q => Q (σ.set i (some v)) H
theorem pg_name {i : Nat} {x : Str} (hN : X.N.Nodup) (hi : X.N[i]? = some x) (hx : Loc X.env.scope x) (hf : X.fn x = true ∨ X.env.scope.names.lookup x = some .local := by first | exact .inl rfl | exact .inr rfl | assumption) : PG X (.Name x pos) (gName i) := by
  intro pins s σ H v u Q I r h
  exact wpAny_assign_Name (store_ok I hN hi hx r (fun s' I' => ⟨_, H, I', h⟩) hf)
/-- o[i] = .. -/
def gSub (to ti : TE) (t : TSet) : TG := fun v σ H Q => to σ H fun o H1 => ti σ H1 fun i H2 => t o i v H2 fun H3 => Q σ H3
theorem pg_sub {o i : Expr} {to ti : TE} {t : TSet} (ho : PE X o to) (hi : PE X i ti) (hs : PSet X t)
    (ha : ∀ v, assign (.Subscript o i pos) X.env v = (do
      let ov ← holding [v] (eval o X.env)
      let iv ← holding [v, ov] (eval i X.env)
      standAt pos
      holding [v, ov, iv] (setItem ov iv v)
      release [v, ov, iv] []) := by intro _; rfl) : PG X (.Subscript o i pos) (gSub to ti t) := by
  intro pins s σ H v u Q I r h
  rw [ha]
  refine wpAny_bind (wpAny_holding (thn (ho pins s σ H _ I h) fun ov s1 ⟨x, H1, I1, r1, q1⟩ => ?_))
  refine wpAny_bind (wpAny_holding (thn (hi pins s1 σ H1 _ I1 q1) fun iv s2 ⟨y, H2, I2, r2, q2⟩ => ?_))
  refine wpAny_bind (wpAny_standAt (wpAny_bind (wpAny_holding (thn (hs pins s2 σ H2 x y v ov iv u _ I2 r1 r2 r q2) fun _ s3 ⟨H3, I3, q3⟩ => ?_))))
  exact wpAny_release ⟨σ, H3, I3, q3⟩
/-- target = value -/
def tAsg (te : TE) (g : TG) : TS := fun D σ H => te σ H fun x H1 => g x σ H1 D.nx
theorem ps_asg {tg e : Expr} {te : TE} {g : TG} (he : PE X e te) (hg : PG X tg g) (hs : swapsWithSole [tg] e pos.line X.env = pure false := by rfl) (hw : swappedStores [tg] e X.env = pure none := by rfl)
    (h1 : (assignEach [tg] X.env).map (·.2) = [assign tg X.env] := by rfl) : PS X (.Assign [tg] e pos) (tAsg te g) := by
  intro pins s σ H D I h
  refine wpAny_Assign_stores (thn (he pins s σ H _ I h) fun v s1 ⟨x, H1, I1, r1, q1⟩ => ?_) hs hw
  rw [h1]
  exact thn (hg pins s1 σ H1 x v _ I1 r1 q1) fun _ s2 q => q
/-- name = value -/
theorem ps_set {i : Nat} {x : Str} {e : Expr} {te : TE} {pos' : Pos} (hN : X.N.Nodup) (hi : X.N[i]? = some x) (hx : Loc X.env.scope x) (he : PE X e te) (hs : swapsWith e (some (.Name x pos')) pos.line X.env = pure false := by rfl) (hf : X.fn x = true ∨ X.env.scope.names.lookup x = some .local := by first | exact .inl rfl | exact .inr rfl | assumption) :
    PS X (.Assign [.Name x pos'] e pos) (tAsg te (gName i)) := by
  intro pins s σ H D I h
  refine wpAny_Assign_Name (thn (he pins s σ H _ I h) fun v s1 ⟨y, H1, I1, r1, q1⟩ => ?_) hs
  exact store_ok I1 hN hi hx r1 (fun s2 I2 => ⟨_, H1, I2, q1⟩) hf
end
/-! ### while -/
section
variable {X : Cx} {pos : Pos}
/-- the invariant W with its measure -/
def tWhile (c : TT) (tb : TS) : TS := fun D σ H => ∃ W : Nat → St → Hp → Prop, (∃ m, W m σ H) ∧ ∀ m σ H, W m σ H →
  c σ H fun b H1 => if b = true then ∃ N : St → Hp → Prop, (∀ σ' H', N σ' H' → ∃ m', m' < m ∧ W m' σ' H') ∧ tb { D with nx := N, ct := N, bk := D.nx } σ H1 else D.nx σ H1
theorem ps_while {c : Expr} {body : List Stmt} {tc : TT} {tb : TS} (hp : PassesOwn (model X.prog X.w) X.A X.env X.xe) (hc : PT X c tc) (hb : PSs X body tb) : PS X (.While c body [] pos) (tWhile tc tb) := by
  intro pins s σ H D I h
  obtain ⟨W, ⟨m0, w0⟩, turn⟩ := h
  refine wpAny_While (codeAny_whileLoop (fun n s' => ∃ σ' H', Inv X pins σ' H' s' ∧ W n σ' H') ?_ m0 ⟨σ, H, I, w0⟩)
  rintro n s1 ⟨σ1, H1, I1, w1⟩
  refine wpAny_passesOwn hp (thn (hc pins s1 σ1 H1 _ I1 (turn n σ1 H1 w1)) fun b s2 ⟨H2, I2, q2⟩ => ?_)
  cases b with
  | true =>
    obtain ⟨N, hN, q2⟩ := q2
    rw [if_pos rfl]
    refine wpAny_passesOwn hp (thn (hb pins s2 σ1 H2 _ I2 q2) fun f s3 q3 => ?_)
    cases f with
    | next =>
      obtain ⟨σ3, H3, I3, n3⟩ := q3
      obtain ⟨m', hm, w3⟩ := hN σ3 H3 n3
      exact ⟨m', hm, σ3, H3, I3, w3⟩
    | cont =>
      obtain ⟨σ3, H3, I3, n3⟩ := q3
      obtain ⟨m', hm, w3⟩ := hN σ3 H3 n3
      exact ⟨m', hm, σ3, H3, I3, w3⟩
    | brk => exact q3
    | ret v => exact q3
  | false =>
    rw [if_neg Bool.false_ne_true]
    exact wpAny_execs_nil ⟨σ1, H2, I2, q2⟩
end
/-! ### what a loop or a comprehension walks -/
/-- at turn i: it yields x (the heap may grow), or it stops -/
structure It where
  go : Nat → Hp → Prop
  yld : Nat → Hp → V → Hp → Prop
  stop : Nat → Hp → Prop
/-- the iterator's own objects may turn: they are not the frame's, not pinned, younger than the entry (or a comprehension's own) -/
def FpOk (X : Cx) (pins : List (Addr × Obj)) (H : Hp) (b : Addr) : Prop :=
  H b = none ∧ b ≠ X.env.locals ∧ b ∉ X.fs ∧ (b ∈ X.ex ∨ X.s_0.heap.objs.size ≤ b) ∧ (∀ x c, X.env.cells.lookup x = some c → c ≠ b) ∧ ∀ p ∈ X.pn ++ pins, p.1 ≠ b
theorem Inv.fpOk {X : Cx} {pins : List (Addr × Obj)} {σ : St} {H H' : Hp} {s : Shared} {b : Addr} (I : Inv X pins σ H s) (hb : s.heap.objs.size ≤ b) (hn : H' b = none) : FpOk X pins H' b := by
  refine ⟨hn, Nat.ne_of_gt (Nat.lt_of_lt_of_le I.lt hb), I.nofs hb, .inr (Nat.le_trans I.sz hb), fun x c e z => ?_, fun p hp z => ?_⟩
  · obtain ⟨v, q⟩ := I.cell x c e
    exact absurd (Nat.lt_of_lt_of_le q.lt (by rw [z]; exact hb)) (Nat.lt_irrefl _)
  · exact absurd (Nat.lt_of_lt_of_le (Heap.lt_size (I.pin p hp).1) (by rw [z]; exact hb)) (Nat.lt_irrefl _)
structure Turn (P : Program) (w : World) (K : PySem.W.Frag) (tg : Expr) (J : It) (fp : List Addr) (it : Addr) (tn : Nat → Heap → Prop) : Prop where
  mem : it ∈ fp
  obj : ∀ i h, tn i h → ∀ b ∈ fp, ∃ o, h.get? b = some o ∧ ∀ v, o.data ≠ .cell v
  keep : ∀ i h h', tn i h → (∀ b ∈ fp, ∀ o, h.get? b = some o → h'.get? b = some o) → tn i h'
  item : ∀ (X : Cx), X.prog = P → X.w = w → X.K = K → X.calm = true → ∀ (i : Nat) (pins : List (Addr × Obj)) (s : Shared) (σ : St) (H : Hp) (E : Value → Shared → Prop), Inv X pins σ H s → (∀ b ∈ fp, FpOk X pins H b) → tn i s.heap → J.go i H →
    wpAny (model P w) X.A (pyNext (.ref it)) (fun r s1 => ∃ u, r = some u ∧
      wpAny (model P w) X.A (letOwnedTupleGo tg (.ref it) u) (fun _ s2 => ∃ x H', Inv X pins σ H' s2 ∧ RelV x u ∧ J.yld i H x H' ∧ tn (i + 1) s2.heap ∧ ∀ b ∈ fp, H' b = none) E s1) E s
  done : ∀ (X : Cx), X.prog = P → X.w = w → X.K = K → X.calm = true → ∀ (i : Nat) (pins : List (Addr × Obj)) (s : Shared) (σ : St) (H : Hp) (E : Value → Shared → Prop), Inv X pins σ H s → (∀ b ∈ fp, FpOk X pins H b) → tn i s.heap → J.stop i H →
    wpAny (model P w) X.A (pyNext (.ref it)) (fun r s1 => r = none ∧ Inv X pins σ H s1) E s
  self : ∀ (A : Around) (i : Nat) (s : Shared) (Q : Value → Shared → Prop) (E : Value → Shared → Prop), tn i s.heap → Q (.ref it) s → wpAny (model P w) A (pyIter (.ref it)) Q E s
abbrev TI := St → Hp → (It → Hp → Prop) → Prop
/-- an iterator has come -/
def PIE (X : Cx) (pins : List (Addr × Obj)) (σ : St) (tg : Expr) (R : It → Hp → Prop) (itv : Value) (s2 : Shared) : Prop :=
  ∃ (it : Addr) (fp : List Addr) (tn : Nat → Heap → Prop) (J : It) (H' : Hp), itv = .ref it ∧ Inv X pins σ H' s2 ∧ Turn X.prog X.w X.K tg J fp it tn ∧ tn 0 s2.heap ∧ (∀ b ∈ fp, FpOk X pins H' b) ∧ R J H'
def PI (X : Cx) (tg iter : Expr) (wi : TI) : Prop :=
  ∀ (pins : List (Addr × Obj)) (s : Shared) (σ : St) (H : Hp) (R : It → Hp → Prop), Inv X pins σ H s → wi σ H R →
    wpAny (model X.prog X.w) X.A (eval iter X.env) (fun v s1 => wpAny (model X.prog X.w) X.A (pyIter v) (PIE X pins σ tg R) X.xe s1) X.xe s
/-- the step ahead of the store is nothing for an iterator that keeps no tuple -/
theorem go_of {M : Model} {A : Around} {E : Value → Shared → Prop} {s : Shared} {tg : Expr} {it : Addr} {u : Value} {o : Obj} {n : String} {vs : Array Value} {Q : Unit → Shared → Prop} (ho : s.heap.get? it = some o) (hc : o.cls = .type n) (hd : o.data = .fields vs)
    (hn : ["enumerate", "zip", "dict_itemiterator", "dict_reverseitemiterator", "odict_iterator", "itertools.zip_longest", "itertools.pairwise"].contains n = false) (hQ : Q () s) : wpAny M A (letOwnedTupleGo tg (.ref it) u) Q E s := by
  unfold letOwnedTupleGo
  cases tg <;> first
    | exact wpAny_pure hQ
    | (cases u <;> first
        | exact wpAny_pure hQ
        | (refine wpAny_bind (wpAny_load ho ?_)
           rw [hc, hd]
           show wpAny M A (if (["enumerate", "zip", "dict_itemiterator", "dict_reverseitemiterator", "odict_iterator", "itertools.zip_longest", "itertools.pairwise"].contains n && vs[0]? == some (rawInt _)) = true then _ else _) Q E s
           rw [if_neg (by intro h; rw [hn, Bool.false_and] at h; cases h)]
           exact wpAny_pure hQ))
/-- the list at a, as it stands at each turn (a loop may append to it) -/
def Itl (K : PySem.W.Frag) (a : Addr) : It :=
  ⟨fun i H => ∃ xs x, SqL K H a xs ∧ xs[i]? = some x, fun i H x H' => H' = H ∧ ∀ xs, SqL K H a xs → xs[i]? = some x, fun i H => ∃ xs, SqL K H a xs ∧ xs.length ≤ i⟩
/-- lo, lo + 1, .. (n of them) -/
def Itr (lo : Int) (n : Nat) : It := ⟨fun i _ => i < n, fun i H x H' => H' = H ∧ x = .int (lo + i), fun i _ => n ≤ i⟩
theorem turn_list {P : Program} {w : World} {K : PySem.W.Frag} {tg : Expr} (a it : Addr) : Turn P w K tg (Itl K a) [it] it (fun i h => h.IsListIter it a i) where
  mem := by simp
  obj := fun i h st b hb => by
    have e : b = it := by simpa using hb
    subst e
    obtain ⟨o, e, c, d⟩ := st
    exact ⟨o, e, fun v z => by rw [d] at z; cases z⟩
  keep := fun i h h' st k => st.at fun o e => k it (by simp) o e
  item := by
    intro X hP hw hK hc i pins s σ H E I hf st hg
    subst hP hw hK
    obtain ⟨xs, x, hq, hx⟩ := hg
    obtain ⟨its, rv, p, hz⟩ := I.list hq
    obtain ⟨u, hu, ru⟩ := rv.get hx
    obtain ⟨f0, f1, f2, f3, f4, f5⟩ := hf it (by simp)
    refine wpAny_pyNext_list_item st p.isList (x := u) (by simpa using hu) fun h' st' sb => ?_
    have I1 : Inv X pins σ H { s with heap := h' } := I.turned (t' := s.toks) (fun b o hb e => (sb.2 b hb).trans e) f0 f1 f3 f4 f5
    obtain ⟨o, e, c, d⟩ := id st'
    exact ⟨u, rfl, go_of (s := { s with heap := h' }) e c d (by decide) ⟨x, H, I1, ru, ⟨rfl, fun ys hy => by rw [I.list_inj hy hq]; exact hx⟩, st', fun b hb => (hf b hb).1⟩⟩
  done := by
    intro X hP hw hK hc i pins s σ H E I hf st hg
    subst hP hw hK
    obtain ⟨xs, hq, hx⟩ := hg
    obtain ⟨its, rv, p, hz⟩ := I.list hq
    obtain ⟨f0, f1, f2, f3, f4, f5⟩ := hf it (by simp)
    have hl := rv.length
    exact wpAny_pyNext_list_end (I.ok.hd hc) st p.isList (by simp; omega) fun h' eb => ⟨rfl, I.turned (t' := s.toks) (fun b o hb e => eb b o hb e) f0 f1 f3 f4 f5⟩
  self := fun _ _ _ _ _ st h => wpAny_pyIter_listiter st h
theorem turn_range {P : Program} {w : World} {K : PySem.W.Frag} {tg : Expr} (it : Addr) (lo : Int) (n : Nat) : Turn P w K tg (Itr lo n) [it] it (fun i h => IsRangeIter h it (lo + (i : Nat) * 1) ((n : Int) - (i : Nat)) 1) where
  mem := by simp
  obj := fun i h st b hb => by
    have e : b = it := by simpa using hb
    subst e
    exact ⟨_, st, fun v z => by
      have z' : Data.fields _ = Data.cell v := z
      cases z'⟩
  keep := fun i h h' st k => k it (by simp) _ st
  item := by
    intro X hP hw hK hc i pins s σ H E I hf st hg
    subst hP hw hK
    obtain ⟨f0, f1, f2, f3, f4, f5⟩ := hf it (by simp)
    have W := Walks.range (prog := X.prog) (w := X.w) (I.ok.hd hc) it lo 1 n
    refine W.item i s _ _ hg st fun v h' tk hv st' kk => ?_
    obtain ⟨t, rfl⟩ := hv
    have I1 : Inv X pins σ H { s with heap := h', toks := tk } := I.turned (fun b o hb e => kk b o (by simpa using hb) e) f0 f1 f3 f4 f5
    refine ⟨_, rfl, go_of (s := { s with heap := h', toks := tk }) (n := "range_iterator") st' rfl rfl (by decide) ⟨.int (lo + i), H, I1, ⟨t, ?_⟩, ⟨rfl, rfl⟩, st', fun b hb => (hf b hb).1⟩⟩
    rw [Int.mul_one]
  done := by
    intro X hP hw hK hc i pins s σ H E I hf st hg
    subst hP hw hK
    obtain ⟨f0, f1, f2, f3, f4, f5⟩ := hf it (by simp)
    exact wpAny_pyNext_range_end (I.ok.hd hc) st (by have : n ≤ i := hg; omega) fun h' eb => ⟨rfl, I.turned (t' := s.toks) (fun b o hb e => eb b o hb e) f0 f1 f3 f4 f5⟩
  self := fun _ _ _ _ _ st h => wpAny_pyIter_rangeiter st h
end L2
namespace L2
open PySem PySem.Spec PyProof.Rows
section
variable {X : Cx} {tg : Expr}
def iList (K : PySem.W.Frag) (tl : TE) : TI := fun σ H R => tl σ H fun x H1 => ∃ a, x = .ref a ∧ (∃ xs, SqL K H1 a xs) ∧ R (Itl K a) H1
theorem pi_list {l : Expr} {tl : TE} (hl : PE X l tl) : PI X tg l (iList X.K tl) := by
  intro pins s σ H R I h
  refine thn (hl pins s σ H _ I h) fun v s1 ⟨x, H1, I1, r1, q1⟩ => ?_
  obtain ⟨a, e, ⟨xs, hq⟩, q⟩ := q1
  subst e
  cases r1
  obtain ⟨its, rv, p, hz⟩ := I1.list hq
  refine wpAny_pyIter_list p.isList ?_
  refine ⟨s1.heap.objs.size, [s1.heap.objs.size], _, _, H1, rfl, I1.kept (t' := s1.toks) fun b o e => Heap.get?_push_of_some _ e, turn_list a _, ⟨_, Heap.get?_push_size _ rfl, rfl, rfl⟩, fun b hb => ?_, q⟩
  have e : b = s1.heap.objs.size := by simpa using hb
  subst e
  exact I1.fpOk (Nat.le_refl _) (I1.hok.fresh (Nat.le_refl _))
/-- a range object just made, walked -/
theorem range_it {pins : List (Addr × Obj)} {σ : St} {H : Hp} {s : Shared} {R : It → Hp → Prop} {E : Value → Shared → Prop} {lo hi : Int} {t u v : Tok} {tk : Nat} (I : Inv X pins σ H s) (h1 : -(2 ^ 62) ≤ lo) (h2 : lo < 2 ^ 62) (h3 : -(2 ^ 62) ≤ hi) (h4 : hi < 2 ^ 62)
    (q : R (Itr lo (hi - lo).toNat) H) : wpAny (model X.prog X.w) X.A (pyIter (.ref s.heap.objs.size)) (PIE X pins σ tg R) E { s with heap := s.heap.push { cls := .type "range", data := .fields #[.int lo t, .int hi u, .int 1 v] }, toks := tk } := by
  refine wpAny_pyIter_range (IsRange.new ..) (small_one h1 h2 h3 h4) ?_
  have I1 : Inv X pins σ H { s with heap := s.heap.push { cls := .type "range", data := .fields #[.int lo t, .int hi u, .int 1 v] }, toks := tk } := I.kept fun b o e => Heap.get?_push_of_some _ e
  refine ⟨(s.heap.push { cls := .type "range", data := .fields #[.int lo t, .int hi u, .int 1 v] }).objs.size, [(s.heap.push { cls := .type "range", data := .fields #[.int lo t, .int hi u, .int 1 v] }).objs.size], _, _, H, rfl,
    I1.kept (t' := tk) fun b o e => Heap.get?_push_of_some _ e, turn_range _ lo (hi - lo).toNat, ?_, fun b hb => ?_, q⟩
  · have e1 : lo + ((0 : Nat) : Int) * 1 = lo := by simp
    have e2 : (((hi - lo).toNat : Nat) : Int) - ((0 : Nat) : Int) = Builtin.Range.rangeSize lo hi 1 := by rw [rangeSize_one]; split <;> omega
    show IsRangeIter _ _ (lo + ((0 : Nat) : Int) * 1) ((((hi - lo).toNat : Nat) : Int) - ((0 : Nat) : Int)) 1
    rw [e1, e2]
    exact Heap.get?_push_size _ rfl
  · have e : b = (s.heap.push { cls := .type "range", data := .fields #[.int lo t, .int hi u, .int 1 v] }).objs.size := by simpa using hb
    subst e
    exact I1.fpOk (Nat.le_refl _) (I1.hok.fresh (Nat.le_refl _))
def iRng1 (ta : TA) : TI := fun σ H R => ta σ H fun vs H1 => ∃ j : Int, vs = [.int j] ∧ -(2 ^ 62) ≤ j ∧ j < 2 ^ 62 ∧ R (Itr 0 j.toNat) H1
theorem pi_range1 {a : Expr} {ta : TA} {p pos : Pos} (hg : Gl X "range") (hm : X.mg "range" = none) (ha : PA X [a] ta) (hs : starEach [a] X.env = [(false, eval a X.env)] := by rfl) : PI X tg (.Call (.Name "range" p) [a] [] pos) (iRng1 ta) := by
  intro pins s σ H R I h
  refine Call_ (ld_blt I hg hm boot_range (PyProof.Rows.callWith_type1 (thn (ha pos pins s σ H _ I h) fun us s1 ⟨vs, H1, I1, r1, q1⟩ => ?_) hs rfl))
  obtain ⟨j, e, q1, q2, q⟩ := q1
  subst e
  cases r1 with
  | cons r rr =>
    cases rr
    obtain ⟨t, rfl⟩ := r
    exact call_range_1 (range_it I1 (by omega) (by omega) q1 q2 (by simpa using q))
/-! ### for -/
/-- W: the invariant by the turn and a measure; N: what the body is to reach -/
def tFor (wi : TI) (g : TG) (tb : TS) : TS := fun D σ H => wi σ H fun J H1 => ∃ W : Nat → Nat → St → Hp → Prop, (∃ m, W 0 m σ H1) ∧ ∀ i m σ H, W i m σ H →
  (J.stop i H ∧ D.nx σ H) ∨ (J.go i H ∧ ∃ N : St → Hp → Prop, (∀ σ' H', N σ' H' → ∃ m', m' < m ∧ W (i + 1) m' σ' H') ∧ ∀ x H', J.yld i H x H' → g x σ H' fun σ2 H2 => tb { D with nx := N, ct := N, bk := D.nx } σ2 H2)
/-- the records at fp as they stand -/
def pinsAt (fp : List Addr) (h : Heap) : List (Addr × Obj) := fp.filterMap fun b => (h.get? b).map fun o => (b, o)
theorem mem_pinsAt {fp : List Addr} {h : Heap} {b : Addr} {o : Obj} (hb : b ∈ fp) (e : h.get? b = some o) : (b, o) ∈ pinsAt fp h := List.mem_filterMap.mpr ⟨b, hb, by rw [e]; rfl⟩
theorem of_pinsAt {fp : List Addr} {h : Heap} {p : Addr × Obj} (hp : p ∈ pinsAt fp h) : p.1 ∈ fp ∧ h.get? p.1 = some p.2 := by
  obtain ⟨b, hb, e⟩ := List.mem_filterMap.mp hp
  cases q : h.get? b with
  | none => rw [q] at e; cases e
  | some o =>
    rw [q] at e
    have e' : (b, o) = p := Option.some.inj e
    subst e'
    exact ⟨hb, q⟩
theorem Inv.pinned {pins : List (Addr × Obj)} {σ : St} {H : Hp} {s : Shared} {fp : List Addr} (I : Inv X pins σ H s) (hf : ∀ b ∈ fp, FpOk X pins H b) (ho : ∀ b ∈ fp, ∃ o, s.heap.get? b = some o ∧ ∀ v, o.data ≠ .cell v) : Inv X (pins ++ pinsAt fp s.heap) σ H s :=
  I.pins_of fun p hp => (List.mem_append.mp hp).elim (fun z => I.pin p (List.mem_append_right _ z)) fun z => by
    obtain ⟨hb, e⟩ := of_pinsAt z
    obtain ⟨f0, f1, f2, _⟩ := hf p.1 hb
    obtain ⟨o, e', d⟩ := ho p.1 hb
    rw [e] at e'; cases e'
    exact ⟨e, f0, f1, f2, d⟩
theorem Inv.unpinned {pins pl : List (Addr × Obj)} {σ : St} {H : Hp} {s : Shared} (I : Inv X (pins ++ pl) σ H s) : Inv X pins σ H s := I.pins_of fun p hp => I.pin p (List.mem_append_right _ (List.mem_append_left _ hp))
theorem ps_for {iter : Expr} {body : List Stmt} {wi : TI} {g : TG} {tb : TS} {pos : Pos} (hp : PassesOwn (model X.prog X.w) X.A X.env X.xe) (hc : X.calm = true) (hi : PI X tg iter wi) (hg : PG X tg g) (hb : PSs X body tb)
    (hs : ∀ x, foldedSetIterable iter X.env x = pure x := by intro _; rfl) : PS X (.For tg iter body [] pos) (tFor wi g tb) := by
  intro pins s σ H D I h
  refine wpAny_For (thn (hi pins s σ H _ I h) fun v s1 h1 => thn h1 fun itv s2 h2 => ?_) hs
  obtain ⟨it, fp, tn, J, H2, e, I2, T, st2, f2, W, ⟨m0, w0⟩, turn⟩ := h2
  subst e
  -- what stays true of the iterator's objects through the loop
  have stat : ∀ {H' : Hp}, (∀ b ∈ fp, H' b = none) → ∀ b ∈ fp, FpOk X pins H' b := fun hn b hb => ⟨hn b hb, (f2 b hb).2⟩
  refine codeAny_forLoop_any (fun n s' => ∃ i σ' H', Inv X pins σ' H' s' ∧ tn i s'.heap ∧ (∀ b ∈ fp, H' b = none) ∧ W i n σ' H') ?_ m0 ⟨0, σ, H2, I2, st2, fun b hb => (f2 b hb).1, w0⟩
  rintro n s3 ⟨i, σ3, H3, I3, st3, fr3, w3⟩
  rcases turn i n σ3 H3 w3 with ⟨stop, qn⟩ | ⟨go, N, hN, step⟩
  · refine wpAny_passesOwn hp (thn (T.done X rfl rfl rfl hc i pins s3 σ3 H3 X.xe I3 (stat fr3) st3 stop) fun r s4 ⟨hr, I4⟩ => ?_)
    subst hr
    exact wpAny_execs_nil ⟨σ3, H3, I4, qn⟩
  · refine wpAny_passesOwn hp (thn (T.item X rfl rfl rfl hc i pins s3 σ3 H3 X.xe I3 (stat fr3) st3 go) fun r s4 ⟨u, hr, h4⟩ => ?_)
    subst hr
    refine wpAny_passesOwn hp (thn h4 fun _ s5 ⟨x, H5, I5, r5, y5, st5, fr5⟩ => ?_)
    have I5' := I5.pinned (stat fr5) (T.obj _ _ st5)
    refine wpAny_passesOwn hp (thn (hg _ s5 σ3 H5 x u _ I5' r5 (step x H5 y5)) fun _ s6 ⟨σ6, H6, I6, q6⟩ => ?_)
    refine wpAny_passesOwn hp (thn (hb _ s6 σ6 H6 _ I6 q6) fun f s7 q7 => ?_)
    have again : ∀ {σ7 : St} {H7 : Hp}, Inv X (pins ++ pinsAt fp s5.heap) σ7 H7 s7 → N σ7 H7 → ∃ m, m < n ∧ ∃ i σ' H', Inv X pins σ' H' s7 ∧ tn i s7.heap ∧ (∀ b ∈ fp, H' b = none) ∧ W i m σ' H' := fun {σ7 H7} I7 n7 => by
      obtain ⟨m', hm, w7⟩ := hN σ7 H7 n7
      refine ⟨m', hm, i + 1, σ7, H7, I7.unpinned, T.keep _ _ _ st5 fun b hb o e => (I7.pin (b, o) (List.mem_append_right _ (List.mem_append_right _ (mem_pinsAt hb e)))).1, fun b hb => ?_, w7⟩
      obtain ⟨o, e, d⟩ := T.obj _ _ st5 b hb
      exact (I7.pin (b, o) (List.mem_append_right _ (List.mem_append_right _ (mem_pinsAt hb e)))).2.1
    cases f with
    | next => obtain ⟨σ7, H7, I7, n7⟩ := q7; exact again I7 n7
    | cont => obtain ⟨σ7, H7, I7, n7⟩ := q7; exact again I7 n7
    | brk => obtain ⟨σ7, H7, I7, q7⟩ := q7; exact ⟨σ7, H7, I7.unpinned, q7⟩
    | ret v => obtain ⟨x7, σ7, H7, I7, r7, q7⟩ := q7; exact ⟨x7, σ7, H7, I7.unpinned, r7, q7⟩
end
/-! ### the forms one uses -/
/-- over a list that the body leaves as it is -/
theorem for_list {K : PySem.W.Frag} {a : Addr} {xs : List V} {g : TG} {tb : TS} {D : Ends} {σ : St} {H : Hp} (Pv : Nat → St → Hp → Prop) (h0 : Pv 0 σ H) (hl : ∀ i σ H, i ≤ xs.length → Pv i σ H → SqL K H a xs)
    (hs : ∀ i x σ H, xs[i]? = some x → Pv i σ H → g x σ H fun σ2 H2 => tb { D with nx := Pv (i + 1), ct := Pv (i + 1), bk := D.nx } σ2 H2) (hd : ∀ σ H, Pv xs.length σ H → D.nx σ H) :
    ∃ W : Nat → Nat → St → Hp → Prop, (∃ m, W 0 m σ H) ∧ ∀ i m σ H, W i m σ H →
      ((Itl K a).stop i H ∧ D.nx σ H) ∨ ((Itl K a).go i H ∧ ∃ N : St → Hp → Prop, (∀ σ' H', N σ' H' → ∃ m', m' < m ∧ W (i + 1) m' σ' H') ∧ ∀ x H', (Itl K a).yld i H x H' → g x σ H' fun σ2 H2 => tb { D with nx := N, ct := N, bk := D.nx } σ2 H2) := by
  refine ⟨fun i m σ H => m = xs.length - i ∧ i ≤ xs.length ∧ Pv i σ H, ⟨xs.length, by simp, Nat.zero_le _, h0⟩, ?_⟩
  rintro i m σ H ⟨rfl, hi, p⟩
  have q := hl i σ H hi p
  by_cases hlt : i < xs.length
  · refine .inr ⟨⟨xs, xs[i], q, by simp [hlt]⟩, Pv (i + 1), fun σ' H' p' => ⟨xs.length - (i + 1), by omega, rfl, hlt, p'⟩, fun x H' y => ?_⟩
    obtain ⟨e, y⟩ := y
    subst e
    exact hs i x σ _ (y xs q) p
  · have e : i = xs.length := by omega
    subst e
    exact .inl ⟨⟨xs, q, Nat.le_refl _⟩, hd σ H p⟩
theorem for_range {lo : Int} {n : Nat} {g : TG} {tb : TS} {D : Ends} {σ : St} {H : Hp} (Pv : Nat → St → Hp → Prop) (h0 : Pv 0 σ H)
    (hs : ∀ i σ H, i < n → Pv i σ H → g (.int (lo + i)) σ H fun σ2 H2 => tb { D with nx := Pv (i + 1), ct := Pv (i + 1), bk := D.nx } σ2 H2) (hd : ∀ σ H, Pv n σ H → D.nx σ H) :
    ∃ W : Nat → Nat → St → Hp → Prop, (∃ m, W 0 m σ H) ∧ ∀ i m σ H, W i m σ H →
      ((Itr lo n).stop i H ∧ D.nx σ H) ∨ ((Itr lo n).go i H ∧ ∃ N : St → Hp → Prop, (∀ σ' H', N σ' H' → ∃ m', m' < m ∧ W (i + 1) m' σ' H') ∧ ∀ x H', (Itr lo n).yld i H x H' → g x σ H' fun σ2 H2 => tb { D with nx := N, ct := N, bk := D.nx } σ2 H2) := by
  refine ⟨fun i m σ H => m = n - i ∧ i ≤ n ∧ Pv i σ H, ⟨n, by simp, Nat.zero_le _, h0⟩, ?_⟩
  rintro i m σ H ⟨rfl, hi, p⟩
  by_cases hlt : i < n
  · refine .inr ⟨hlt, Pv (i + 1), fun σ' H' p' => ⟨n - (i + 1), by omega, rfl, hlt, p'⟩, fun x H' y => ?_⟩
    obtain ⟨e, y⟩ := y
    subst e y
    exact hs i σ _ hlt p
  · have e : i = n := by omega
    subst e
    exact .inl ⟨Nat.le_refl _, hd σ H p⟩
end L2
namespace L2
open PySem PySem.Spec PyProof.Rows
abbrev R2 := V → V → Hp → VK → Prop
/-- a two-place operation on values: f is binaryOp op, inplaceOp op or compareOp op -/
def OpR (X : Cx) (f : Value → Value → Sem Value) (r : R2) : Prop :=
  ∀ (pins : List (Addr × Obj)) (s : Shared) (σ : St) (H : Hp) (x y : V) (v u : Value) (Q : VK), Inv X pins σ H s → RelV x v → RelV y u → r x y H Q →
    wpAny (model X.prog X.w) X.A (f v u) (EP X pins σ Q) X.xe s
/-- a call of a value that is known (a builtin, a type) with values -/
def CallR (X : Cx) (f : Value) (r : List V → Hp → VK → Prop) : Prop :=
  ∀ (pins : List (Addr × Obj)) (s : Shared) (σ : St) (H : Hp) (xs : List V) (us : List Value) (Q : VK), Inv X pins σ H s → Vals xs us → r xs H Q →
    wpAny (model X.prog X.w) X.A (call f us) (EP X pins σ Q) X.xe s
def tOp (r : R2) (ta tb : TE) : TE := fun σ H Q => ta σ H fun x H1 => tb σ H1 fun y H2 => r x y H2 Q
/-- ints in, under C, and a value out -/
def rI (C : Int → Int → Prop) (g : Int → Int → V) : R2 := fun x y H Q => ∃ i j, x = .int i ∧ y = .int j ∧ C i j ∧ Q (g i j) H
def rI0 (g : Int → Int → V) : R2 := fun x y H Q => ∃ i j, x = .int i ∧ y = .int j ∧ Q (g i j) H
section
variable {X : Cx} {a b c : Expr} {ta tb tc : TE} {pos : Pos}
theorem binT (ha : PE X a ta) (hb : PE X b tb) {pins : List (Addr × Obj)} {s : Shared} {σ : St} {H : Hp} {R : V → V → Hp → Prop} (I : Inv X pins σ H s)
    (h : ta σ H fun x H1 => tb σ H1 fun y H2 => R x y H2) {Q : Value → Shared → Prop} {f : Value → Value → Sem Value}
    (hf : ∀ v u s2 x y H2, Inv X pins σ H2 s2 → RelV x v → RelV y u → R x y H2 → wpAny (model X.prog X.w) X.A (f v u) Q X.xe s2) :
    wpAny (model X.prog X.w) X.A (eval a X.env) (fun v s₁ => wpAny (model X.prog X.w) X.A (eval b X.env) (fun u s₂ => wpAny (model X.prog X.w) X.A (f v u) Q X.xe s₂) X.xe s₁) X.xe s := by
  refine thn (ha pins s σ H _ I h) fun v s1 ⟨x, H1, I1, r1, q1⟩ => ?_
  refine thn (hb pins s1 σ H1 _ I1 q1) fun u s2 ⟨y, H2, I2, r2, q2⟩ => ?_
  exact hf v u s2 x y H2 I2 r1 r2 q2
theorem pe_op {op : Operator} {r : R2} (ho : OpR X (binaryOp op) r) (ha : PE X a ta) (hb : PE X b tb) : PE X (.BinOp a op b pos) (tOp r ta tb) := by
  intro pins s σ H Q I h
  exact wpAny_BinOp (binT ha hb I h fun v u s2 x y H2 I2 rx ry q => ho pins s2 σ H2 x y v u Q I2 rx ry q)
/-! ### ints -/
theorem opI {f : Value → Value → Sem Value} {C : Int → Int → Prop} {g : Int → Int → Int}
    (rule : ∀ (i j : Int) (t u : Tok) (s : Shared) (Q : Value → Shared → Prop) (E : Value → Shared → Prop), C i j → Q (.int (g i j) s.toks) { s with toks := s.toks + 1 } → wpAny (model X.prog X.w) X.A (f (.int i t) (.int j u)) Q E s) :
    OpR X f (rI C fun i j => .int (g i j)) := by
  intro pins s σ H x y v u Q I rx ry h
  obtain ⟨i, j, rfl, rfl, hc, q⟩ := h
  obtain ⟨t, rfl⟩ := rx
  obtain ⟨t', rfl⟩ := ry
  exact rule i j t t' s _ _ hc ⟨.int (g i j), H, I.tok _, ⟨_, rfl⟩, q⟩
theorem opI0 {f : Value → Value → Sem Value} {g : Int → Int → Int}
    (rule : ∀ (i j : Int) (t u : Tok) (s : Shared) (Q : Value → Shared → Prop) (E : Value → Shared → Prop), Q (.int (g i j) s.toks) { s with toks := s.toks + 1 } → wpAny (model X.prog X.w) X.A (f (.int i t) (.int j u)) Q E s) :
    OpR X f (rI0 fun i j => .int (g i j)) := by
  intro pins s σ H x y v u Q I rx ry h
  obtain ⟨i, j, rfl, rfl, q⟩ := h
  obtain ⟨t, rfl⟩ := rx
  obtain ⟨t', rfl⟩ := ry
  exact rule i j t t' s _ _ ⟨.int (g i j), H, I.tok _, ⟨_, rfl⟩, q⟩
theorem opB0 {f : Value → Value → Sem Value} {g : Int → Int → Bool}
    (rule : ∀ (i j : Int) (t u : Tok) (s : Shared) (Q : Value → Shared → Prop) (E : Value → Shared → Prop), Q (.bool (g i j)) s → wpAny (model X.prog X.w) X.A (f (.int i t) (.int j u)) Q E s) :
    OpR X f (rI0 fun i j => .bl (g i j)) := by
  intro pins s σ H x y v u Q I rx ry h
  obtain ⟨i, j, rfl, rfl, q⟩ := h
  obtain ⟨t, rfl⟩ := rx
  obtain ⟨t', rfl⟩ := ry
  exact rule i j t t' s _ _ ⟨.bl (g i j), H, I, rfl, q⟩
def CDiv (i j : Int) : Prop := 0 < j ∧ j < 1073741824
def CMul (i j : Int) : Prop := (-(2 ^ 64) < i ∧ i < 2 ^ 64) ∨ (-(2 ^ 64) < j ∧ j < 2 ^ 64)
theorem CMul.ok {i j : Int} (h : CMul i j) : IntMulOk i j := by
  rcases h with ⟨h1, h2⟩ | ⟨h1, h2⟩
  · exact .of_left (intBits_le_64 h1 h2)
  · exact .of_right (intBits_le_64 h1 h2)
theorem op_add : OpR X (binaryOp .Add) (rI0 fun i j => .int (i + j)) := opI0 fun _ _ _ _ _ _ _ q => add_int q
theorem op_mul : OpR X (binaryOp .Mult) (rI CMul fun i j => .int (i * j)) := opI fun _ _ _ _ _ _ _ hc q => mul_int q hc.ok
/-- // by a positive divisor -/
theorem op_fdiv : OpR X (binaryOp .FloorDiv) (rI CDiv fun i j => .int (i / j)) := opI fun i j _ _ _ _ _ hc q => by
  have h1 : (0 : Int) < j := hc.1
  have h2 : j < 1073741824 := hc.2
  exact floordiv_int (by omega) (by rw [Int.fdiv_eq_ediv_of_nonneg i (by omega)]; exact q) (.inl (PyProof.noPylong_small (by omega)))
/-- % by a positive divisor of any size -/
theorem op_mod : OpR X (binaryOp .Mod) (rI (fun _ j => 0 < j) fun i j => .int (i % j)) := opI fun i j _ _ _ _ _ hc q => by
  have h1 : (0 : Int) < j := hc
  exact mod_int' (by omega) (by rw [Int.fmod_eq_emod_of_nonneg i (by omega)]; exact q)
/-! ### bools among ints: n += (a < b) -/
end
/-! ### comparisons -/
/-- the scalars that == tells apart as data does -/
def scal : V → V → Bool
  | .non, .non => true | .non, .int _ => true | .int _, .non => true | .non, .bl _ => true | .bl _, .non => true | .non, .str _ => true | .str _, .non => true
  | .int _, .int _ => true | .bl _, .bl _ => true | .str _, .str _ => true | .byt _, .byt _ => true
  | .int _, .str _ => true | .str _, .int _ => true | .bl _, .str _ => true | .str _, .bl _ => true
  | _, _ => false
def rEq : R2 := fun x y H Q => scal x y = true ∧ Q (.bl (decide (x = y))) H
def rNe : R2 := fun x y H Q => scal x y = true ∧ Q (.bl (!decide (x = y))) H
theorem dec_int {i j : Int} : decide (V.int i = V.int j) = (i == j) := by
  rw [Bool.eq_iff_iff]
  simp
theorem dec_bl {i j : Bool} : decide (V.bl i = V.bl j) = (i == j) := by
  rw [Bool.eq_iff_iff]
  simp
theorem dec_str {i j : Str} : decide (V.str i = V.str j) = (i == j) := by
  rw [Bool.eq_iff_iff]
  simp
theorem dec_byt {i j : Array UInt8} : decide (V.byt i = V.byt j) = (i.toList == j.toList) := by
  rw [Bool.eq_iff_iff]
  cases i
  cases j
  simp
section
variable {X : Cx} {a b c : Expr} {ta tb tc : TE} {pos : Pos}
theorem fin_bl {pins : List (Addr × Obj)} {σ : St} {H : Hp} {s : Shared} {Q : VK} {k k' : Bool} (I : Inv X pins σ H s) (q : Q (.bl k) H) (e : k = k') : EP X pins σ Q (.bool k') s := by
  subst e
  exact ⟨.bl k, H, I, rfl, q⟩
theorem op_eq : OpR X (compareOp .Eq) rEq := by
  intro pins s σ H x y v u Q I rx ry h
  obtain ⟨hs, q⟩ := h
  cases x with
  | non =>
    cases rx
    cases y with
    | non => cases ry; exact PySem.EqNone.eq_none_none (fin_bl I q (by simp))
    | bl j => cases ry; exact PySem.EqNone.eq_none_bool (fin_bl I q (by simp))
    | int j => obtain ⟨t', rfl⟩ := ry; exact PySem.EqNone.eq_none_int (fin_bl I q (by simp))
    | str j => obtain ⟨t', rfl⟩ := ry; exact PySem.EqNone.eq_none_str (fin_bl I q (by simp))
    | _ => exact absurd (show false = true from hs) Bool.false_ne_true
  | bl i =>
    cases rx
    cases y with
    | non => cases ry; exact PySem.EqNone.eq_bool_none (fin_bl I q (by simp))
    | bl j => cases ry; exact eq_bool (fin_bl I q dec_bl)
    | str j => obtain ⟨t', rfl⟩ := ry; exact PySem.EqMixed.eq_bool_str (fin_bl I q (by simp))
    | _ => exact absurd (show false = true from hs) Bool.false_ne_true
  | int i =>
    obtain ⟨t, rfl⟩ := rx
    cases y with
    | non => cases ry; exact PySem.EqNone.eq_int_none (fin_bl I q (by simp))
    | int j => obtain ⟨t', rfl⟩ := ry; exact eq_int (fin_bl I q dec_int)
    | str j => obtain ⟨t', rfl⟩ := ry; exact PySem.EqMixed.eq_int_str (fin_bl I q (by simp))
    | _ => exact absurd (show false = true from hs) Bool.false_ne_true
  | str i =>
    obtain ⟨t, rfl⟩ := rx
    cases y with
    | non => cases ry; exact PySem.EqNone.eq_str_none (fin_bl I q (by simp))
    | bl j => cases ry; exact PySem.EqMixed.eq_str_bool (fin_bl I q (by simp))
    | int j => obtain ⟨t', rfl⟩ := ry; exact PySem.EqMixed.eq_str_int (fin_bl I q (by simp))
    | str j => obtain ⟨t', rfl⟩ := ry; exact eq_str (fin_bl I q dec_str)
    | _ => exact absurd (show false = true from hs) Bool.false_ne_true
  | byt i =>
    obtain ⟨t, rfl⟩ := rx
    cases y with
    | byt j => obtain ⟨t', rfl⟩ := ry; exact PySem.W.eq_bytes (fin_bl I q dec_byt)
    | _ => exact absurd (show false = true from hs) Bool.false_ne_true
  | _ => cases y <;> exact absurd (show false = true from hs) Bool.false_ne_true
theorem op_ne : OpR X (compareOp .NotEq) rNe := by
  intro pins s σ H x y v u Q I rx ry h
  obtain ⟨hs, q⟩ := h
  cases x with
  | non =>
    cases rx
    cases y with
    | non => cases ry; exact PySem.EqNone.ne_none_none (fin_bl I q (by simp))
    | bl j => cases ry; exact PySem.EqNone.ne_none_bool (fin_bl I q (by simp))
    | int j => obtain ⟨t', rfl⟩ := ry; exact PySem.EqNone.ne_none_int (fin_bl I q (by simp))
    | str j => obtain ⟨t', rfl⟩ := ry; exact PySem.EqNone.ne_none_str (fin_bl I q (by simp))
    | _ => exact absurd (show false = true from hs) Bool.false_ne_true
  | bl i =>
    cases rx
    cases y with
    | non => cases ry; exact PySem.EqNone.ne_bool_none (fin_bl I q (by simp))
    | bl j => cases ry; exact ne_bool (fin_bl I q (congrArg not dec_bl))
    | str j => obtain ⟨t', rfl⟩ := ry; exact PySem.EqMixed.ne_bool_str (fin_bl I q (by simp))
    | _ => exact absurd (show false = true from hs) Bool.false_ne_true
  | int i =>
    obtain ⟨t, rfl⟩ := rx
    cases y with
    | non => cases ry; exact PySem.EqNone.ne_int_none (fin_bl I q (by simp))
    | int j => obtain ⟨t', rfl⟩ := ry; exact ne_int (fin_bl I q (congrArg not dec_int))
    | str j => obtain ⟨t', rfl⟩ := ry; exact PySem.EqMixed.ne_int_str (fin_bl I q (by simp))
    | _ => exact absurd (show false = true from hs) Bool.false_ne_true
  | str i =>
    obtain ⟨t, rfl⟩ := rx
    cases y with
    | non => cases ry; exact PySem.EqNone.ne_str_none (fin_bl I q (by simp))
    | bl j => cases ry; exact PySem.EqMixed.ne_str_bool (fin_bl I q (by simp))
    | int j => obtain ⟨t', rfl⟩ := ry; exact PySem.EqMixed.ne_str_int (fin_bl I q (by simp))
    | str j => obtain ⟨t', rfl⟩ := ry; exact ne_str (fin_bl I q (congrArg not dec_str))
    | _ => exact absurd (show false = true from hs) Bool.false_ne_true
  | byt i =>
    obtain ⟨t, rfl⟩ := rx
    cases y with
    | byt j => obtain ⟨t', rfl⟩ := ry; exact PySem.W.ne_bytes (fin_bl I q (congrArg not dec_byt))
    | _ => exact absurd (show false = true from hs) Bool.false_ne_true
  | _ => cases y <;> exact absurd (show false = true from hs) Bool.false_ne_true
theorem op_lt : OpR X (compareOp .Lt) (rI0 fun i j => .bl (decide (i < j))) := opB0 fun _ _ _ _ _ _ _ q => lt_int q
theorem op_gt : OpR X (compareOp .Gt) (rI0 fun i j => .bl (decide (j < i))) := opB0 fun _ _ _ _ _ _ _ q => gt_int q
theorem op_ge : OpR X (compareOp .GtE) (rI0 fun i j => .bl (decide (j ≤ i))) := opB0 fun _ _ _ _ _ _ _ q => ge_int q
/-- is None, is not None: the right side a value none -/
theorem op_isN : OpR X (compareOp .Is) (fun x y H Q => y = .non ∧ Q (.bl (decide (x = .non))) H) := by
  intro pins s σ H x y v u Q I rx ry h
  obtain ⟨rfl, q⟩ := h
  cases ry
  refine is_none_gen (fin_bl I q ?_)
  cases x <;> first
    | (cases rx; rfl)
    | (obtain ⟨t, rfl⟩ := rx; rfl)
theorem op_notN : OpR X (compareOp .IsNot) (fun x y H Q => y = .non ∧ Q (.bl (!decide (x = .non))) H) := by
  intro pins s σ H x y v u Q I rx ry h
  obtain ⟨rfl, q⟩ := h
  cases ry
  refine isnot_none_gen (fin_bl I q ?_)
  cases x <;> first
    | (cases rx; rfl)
    | (obtain ⟨t, rfl⟩ := rx; rfl)
theorem nomark (b : Expr) {op : CmpOp} (h : op ≠ .In := by decide) (h2 : op ≠ .NotIn := by decide) : behindInMarks op b = false := by
  have e1 : (op == CmpOp.In) = false := by cases op <;> first | rfl | exact absurd rfl h
  have e2 : (op == CmpOp.NotIn) = false := by cases op <;> first | rfl | exact absurd rfl h2
  cases b <;> simp [behindInMarks, e1, e2]
/-- a comparison as a value; hm: nomark b, or (for in, not in) by with_unfolding_all rfl -/
theorem pe_cmpR {op : CmpOp} {r : R2} (ho : OpR X (compareOp op) r) (ha : PE X a ta) (hb : PE X b tb) (hm : behindInMarks op b = false) : PE X (.Compare a [op] [b] pos) (tOp r ta tb) := by
  intro pins s σ H Q I h
  exact wpAny_Compare1 (binT ha hb I h fun v u s2 x y H2 I2 rx ry q => ho pins s2 σ H2 x y v u Q I2 rx ry q) hm
/-- a reading of a value as a test -/
def tTest (t : TE) : TT := fun σ H Q => t σ H fun x H' => ∃ k, x = .bl k ∧ Q k H'
theorem pt_cmpR {op : CmpOp} {r : R2} (ho : OpR X (compareOp op) r) (ha : PE X a ta) (hb : PE X b tb) (hm : behindInMarks op b = false) : PT X (.Compare a [op] [b] pos) (tTest (tOp r ta tb)) := by
  intro pins s σ H Q I h
  refine wpAny_isTrue_Compare1 (thn (ha pins s σ H _ I h) fun v s1 ⟨x, H1, I1, r1, q1⟩ => thn (hb pins s1 σ H1 _ I1 q1) fun u s2 ⟨y, H2, I2, r2, q2⟩ =>
    thn (ho pins s2 σ H2 x y v u _ I2 r1 r2 q2) fun c s3 ⟨z, H3, I3, r3, k, e, q3⟩ => ?_) hm
  subst e
  cases r3
  exact wpAny_truthy_bool ⟨H3, I3, q3⟩
/-! ### truth -/
theorem line63 : (sizeLine : Nat) < 2 ^ 63 := by rw [sizeLine_eq]; decide
/-! ### strs and bytes -/
/-! ### scalar builtins, by CallR -/
theorem vals1 {x : V} {us : List Value} (r : Vals [x] us) : ∃ u, us = [u] ∧ RelV x u := by
  cases r with
  | cons r1 r2 => cases r2; exact ⟨_, rfl, r1⟩
theorem vals2 {x y : V} {us : List Value} (r : Vals [x, y] us) : ∃ u w', us = [u, w'] ∧ RelV x u ∧ RelV y w' := by
  cases r with
  | cons r1 r2 =>
    cases r2 with
    | cons r3 r4 => cases r4; exact ⟨_, _, rfl, r1, r3⟩
theorem call_min2 (hc : X.calm = true) : CallR X (.builtin "min") (fun xs H Q => ∃ i j, xs = [.int i, .int j] ∧ Q (.int (if j < i then j else i)) H) := by
  intro pins s σ H xs us Q I r h
  obtain ⟨i, j, rfl, q⟩ := h
  obtain ⟨u, w', rfl, ⟨t, rfl⟩, ⟨t', rfl⟩⟩ := vals2 r
  refine min_two_ints (I.ok.hd hc) fun h' tk k => ⟨_, H, I.kept k, ?_, q⟩
  by_cases hj : j < i
  · rw [if_pos hj, if_pos hj]; exact ⟨_, rfl⟩
  · rw [if_neg hj, if_neg hj]; exact ⟨_, rfl⟩
end
end L2
namespace L2
open PySem PySem.Spec PyProof.Rows
/-! ### an instance, its attributes a map -/
structure ObjM (h : Heap) (x dx C : Addr) (mA : Str → Option Value) : Prop where
  obj : h.get? x = some (PySem.W.instObj C dx)
  ns : h.Ns1 dx mA
  ne : dx ≠ x
theorem lookIn_ns {h : Heap} {dx : Addr} {mA : Str → Option Value} (n : h.Ns1 dx mA) : ∃ od, h.get? dx = some od ∧ ∀ name, PySem.W.lookIn name od = some (mA name) := by
  obtain ⟨o, es, ep, ho, hd, hk, _, hm⟩ := n
  refine ⟨o, ho, fun name => ?_⟩
  have e := hm name
  unfold nsFind findBy at e
  rw [← Array.find?_toList] at e
  unfold PySem.W.lookIn
  rw [hd]
  dsimp only
  split
  · rename_i y q
    rw [q] at e
    exact congrArg some e
  · rename_i q
    rw [q] at e
    have a : es.toList.any (·.refKey) = false := by
      rw [List.any_eq_false]
      intro y hy
      obtain ⟨z, t, hkey⟩ := hk y (Array.mem_toList_iff.mp hy)
      simp [DictEntry.refKey, hkey]
    have a' : ¬ es.toList.any (·.refKey) = true := by rw [a]; exact Bool.false_ne_true
    rw [if_neg a']
    exact congrArg some e
theorem ObjM.look {h : Heap} {x dx C : Addr} {mA : Str → Option Value} (I : ObjM h x dx C mA) : ∃ od, PySem.W.InstAt h x (PySem.W.instObj C dx) C (some od) ∧ ∀ name, PySem.W.lookIn name od = some (mA name) :=
  let ⟨od, ho, hl⟩ := lookIn_ns I.ns
  ⟨od, ⟨I.obj, rfl, rfl, ho⟩, hl⟩
section
variable {prog : Program} {w : World} {A : Around} {E : Value → Shared → Prop} {s : Shared} {K : PySem.W.Frag} {x dx C f : Addr} {mA : Str → Option Value} {name : Str} {v : Value}
theorem get_map {expr : Bool} {Q : Value → Shared → Prop} (X : K.In s.heap) (I : ObjM s.heap x dx C mA) (hg : PySem.W.plainGet K C name = true) (hh : PySem.W.hasDictIn K C = true)
    (ha : PySem.W.findIn K (.ref C) name = some none) (hv : mA name = some v) (hv' : PySem.W.handedIn v = true) (h : Q v { s with toks := s.toks + 1 }) :
    wpAny (model prog w) A (getAttr (.ref x) name expr) Q E s := by
  obtain ⟨od, J, hl⟩ := I.look
  exact PySem.W.get_value X J (PySem.W.plainGet_of hg).1 (PySem.W.findObj_own hh ha rfl (by rw [hl, hv])) hv' h
theorem get_meth {pl : Sem Bool} {Q : Value × List Value → Shared → Prop} (X : K.In s.heap) (I : ObjM s.heap x dx C mA) (hg : PySem.W.plainGet K C name = true)
    (hf : PySem.W.findIn K (.ref C) name = some (some (.ref f))) (ht : PySem.W.isFn K (.ref f) = true) (hv : mA name = none) (h : Q (.ref f, [.ref x]) s) :
    wpAny (model prog w) A (getMethod (.ref x) name pl) Q E s := by
  obtain ⟨od, J, hl⟩ := I.look
  exact PySem.W.method_fn X J (PySem.W.plainGet_of hg).1 (PySem.W.plainGet_of hg).2 hf (beq_iff_eq.mp ht) (by show (PySem.W.lookIn name od).map (·.isSome) = some false; rw [hl, hv]; rfl) h
theorem set_map {ns : List Str} {Q : Unit → Shared → Prop} (X : K.In s.heap) (I : ObjM s.heap x dx C mA)
    (hs : PySem.W.findIn K (.ref C) "__setattr__" = some (some (.builtin "object.__setattr__"))) (hp : PySem.W.plainOver K C = true) (ht : PySem.W.takerIn K C name = some none) (hh : PySem.W.hasDictIn K C = true)
    (hw : PySem.Within mA ns) (hsz : ns.length ≤ sizeLine)
    (h : ∀ h', ObjM h' x dx C (fun y => if y = name then some v else mA y) → Heap.SameBut dx s.heap h' → Q () { s with heap := h', toks := s.toks + 2 }) :
    wpAny (model prog w) A (setAttr (.ref x) name v) Q E s := by
  obtain ⟨od, J, hl⟩ := I.look
  refine PySem.W.set_plain X J hs (PySem.W.osa_open (s := { s with toks := s.toks + 1 }) (r := none) X J hp ht fun b => ?_)
  obtain ⟨cd, hc, hd'⟩ := PySem.W.any_some hh
  have hx : s.heap.get? x = some ⟨.ref C, some dx, .plain, #[]⟩ := I.obj
  refine wpAny_bind (wpAny_pure (wpAny_bind (wpAny_bind (wpAny_loadPart hx (wpAny_bind (PySem.W.Looks.here (s := { s with toks := s.toks + 1 }) (PySem.W.looks_clsIn X hc) ?_))))))
  rw [hd']
  refine wpAny_pure (a := some dx) (wpAny_bind (wpAny_pure (wpAny_bind ?_)))
  refine wpAny_nsSet1 (s := { s with toks := s.toks + 1 }) I.ns fun h' hn2 hs2 => ?_
  obtain ⟨oD, esD, epD, hoD, hdD, hcD⟩ := hn2.count (PySem.Within.cons name v hw)
  refine wpAny_bind (wpAny_lookBehind hoD (by rw [hdD]; exact pastItsLine_dict (Nat.le_trans hcD (by rw [List.length_cons]; omega))) ?_)
  exact wpAny_pure (h _ ⟨(hs2.2 _ (Ne.symm I.ne)).trans I.obj, hn2, I.ne⟩ hs2)
/-- C(..): the dict at the heap's end, the instance behind it; then its __init__ -/
theorem make_map {R : Result → Shared → Prop} {vs : List Value} {kw : List (Str × Value)} (X : K.In s.heap) (hm : PySem.W.makesIn K C = true)
    (hi : PySem.W.findIn K (.ref C) "__init__" = some (some (.ref f))) (hf : PySem.W.typeIn K (.ref f) = some (.type "function"))
    (h : codeAny (model prog w) (A.under (.builtin "type.__call__" ⟨.ref C :: vs, kw⟩)) (.call (.ref f) ⟨.ref (s.heap.objs.size + 1) :: vs, kw⟩) (PySem.W.InitBack (s.heap.objs.size + 1) R)
      { s with heap := (s.heap.push PySem.W.emptyDict).push (PySem.W.instObj C s.heap.objs.size) }) :
    codeAny (model prog w) A (.call (.ref C) ⟨vs, kw⟩) R s := by
  obtain ⟨hh, g, d, t, os⟩ := s
  exact PySem.W.make_core (PySem.W.makes_of X hm) (PySem.W.looks_findIn X hi) (fun self => PySem.W.bind_fn X self hf) (.inl rfl) h
end
/-! ### the attributes as a list of pairs -/
def putF (f : Str) (v : V) : List (Str × V) → List (Str × V)
  | [] => [(f, v)]
  | (g, x) :: r => if g = f then (g, v) :: r else (g, x) :: putF f v r
theorem lookup_putF (f g : Str) (v : V) : ∀ fs : List (Str × V), (putF f v fs).lookup g = if g = f then some v else fs.lookup g
  | [] => by
    show List.lookup g [(f, v)] = _
    by_cases h : g = f
    · have hb : (g == f) = true := beq_iff_eq.mpr h
      simp only [List.lookup, hb, if_pos h]
    · have hb : (g == f) = false := beq_eq_false_iff_ne.mpr h
      simp only [List.lookup, hb, if_neg h]
  | (k, x) :: r => by
    have ih := lookup_putF f g v r
    rw [show putF f v ((k, x) :: r) = (if k = f then (k, v) :: r else (k, x) :: putF f v r) from rfl]
    by_cases hk : k = f
    · rw [if_pos hk]
      by_cases h : g = k
      · have hb : (g == k) = true := beq_iff_eq.mpr h
        simp only [List.lookup, hb, if_pos (h.trans hk)]
      · have hb : (g == k) = false := beq_eq_false_iff_ne.mpr h
        simp only [List.lookup, hb, if_neg (fun e : g = f => h (e.trans hk.symm))]
    · rw [if_neg hk]
      by_cases h : g = k
      · have hb : (g == k) = true := beq_iff_eq.mpr h
        simp only [List.lookup, hb, if_neg (fun e : g = f => hk (h.symm.trans e))]
      · have hb : (g == k) = false := beq_eq_false_iff_ne.mpr h
        simp only [List.lookup, hb]
        exact ih
theorem keys_putF (f : Str) (v : V) : ∀ fs : List (Str × V), f ∈ (putF f v fs).map (·.1) ∧ ∀ g, g ∈ fs.map (·.1) → g ∈ (putF f v fs).map (·.1)
  | [] => ⟨by simp [putF], fun g h => by simp at h⟩
  | (k, x) :: r => by
    obtain ⟨i1, i2⟩ := keys_putF f v r
    rw [show putF f v ((k, x) :: r) = (if k = f then (k, v) :: r else (k, x) :: putF f v r) from rfl]
    by_cases hk : k = f
    · rw [if_pos hk]
      subst hk
      exact ⟨by simp, fun g h => by simpa using h⟩
    · rw [if_neg hk]
      refine ⟨?_, fun g h => ?_⟩
      · rw [List.map_cons]
        exact List.mem_cons_of_mem _ i1
      · rw [List.map_cons] at h ⊢
        rcases List.mem_cons.mp h with e | e
        · exact List.mem_cons.mpr (.inl e)
        · exact List.mem_cons_of_mem _ (i2 g e)
theorem length_putF (f : Str) (v : V) : ∀ fs : List (Str × V), (putF f v fs).length ≤ fs.length + 1
  | [] => by simp [putF]
  | (k, x) :: r => by
    have ih := length_putF f v r
    rw [show putF f v ((k, x) :: r) = (if k = f then (k, v) :: r else (k, x) :: putF f v r) from rfl]
    by_cases hk : k = f
    · rw [if_pos hk, List.length_cons, List.length_cons]; omega
    · rw [if_neg hk, List.length_cons, List.length_cons]; omega
theorem RelO.some_of {v : V} {o : Option Value} (r : RelO (some v) o) : ∃ u, o = some u ∧ RelV v u := by
  cases o with
  | none => exact (show False from r).elim
  | some u => exact ⟨u, rfl, r⟩
theorem RelO.none_of {o : Option Value} (r : RelO none o) : o = none := by
  cases o with
  | none => rfl
  | some u => exact (show False from r).elim
theorem handed_of {v : V} {u : Value} (r : RelV v u) : PySem.W.handedIn u = true := by
  cases v with
  | non => cases (show u = Value.none from r); rfl
  | bl b => cases (show u = Value.bool b from r); rfl
  | int i => obtain ⟨t, e⟩ := (show ∃ t, u = Value.int i t from r); cases e; rfl
  | str x => obtain ⟨t, e⟩ := (show ∃ t, u = Value.str x t from r); cases e; rfl
  | byt b => obtain ⟨t, e⟩ := (show ∃ t, u = Value.bytes b t from r); cases e; rfl
  | flt b => obtain ⟨t, e⟩ := (show ∃ t, u = Value.float b t from r); cases e; rfl
  | ref a => cases (show u = Value.ref a from r); rfl
  | ty n => cases (show u = Value.type n from r); rfl
section
variable {P : Program} {w : World} {H H' : Hp} {h h' : Heap} {a C dx : Addr} {fs fs' : List (Str × V)}
theorem ins_get (hok : HOk P w H h) (e : H a = some (.ins C dx fs)) : ∃ mA, ObjM h a dx C mA ∧ (∀ f, RelO (fs.lookup f) (mA f)) ∧ PySem.Within mA (fs.map (·.1)) ∧ fs.length ≤ 1000 ∧ H dx = some (.own a) := by
  obtain ⟨d, z, ne, ob, mA, n, r, q⟩ := (show ObjOk P w H h a (.ins C dx fs) from hok a _ e)
  exact ⟨mA, ⟨ob, n, ne⟩, r, q, z, d⟩
end
/-! ### what of the text a class must have -/
structure Cls (K : PySem.W.Frag) (C : Addr) : Prop where
  pg : PySem.W.plainGet K C Str.empty = true
  hd : PySem.W.hasDictIn K C = true
  po : PySem.W.plainOver K C = true
  sa : PySem.W.findIn K (.ref C) "__setattr__" = some (some (.builtin "object.__setattr__"))
theorem Cls.get {K : PySem.W.Frag} {C : Addr} (c : Cls K C) (f : Str) : PySem.W.plainGet K C f = true := c.pg
/-- no class of it has the name -/
def NoAttr (K : PySem.W.Frag) (C : Addr) (f : Str) : Prop := PySem.W.findIn K (.ref C) f = some none
theorem NoAttr.taker {K : PySem.W.Frag} {C : Addr} {f : Str} (n : NoAttr K C f) : PySem.W.takerIn K C f = some none := by
  unfold PySem.W.takerIn
  rw [show PySem.W.findIn K (.ref C) f = some none from n]
  rfl
/-- a method: a plain def of the class or of one above it -/
structure Meth (K : PySem.W.Frag) (C : Addr) (m : Str) (f : Addr) : Prop where
  at_ : PySem.W.findIn K (.ref C) m = some (some (.ref f))
  fn : PySem.W.isFn K (.ref f) = true
  kp : PySem.W.keepIn K (.ref f) = true
section
variable {X : Cx} {pins : List (Addr × Obj)} {σ : St} {H : Hp} {s : Shared} {a C dx : Addr} {fs : List (Str × V)} {f : Str} {v : V} {A : Around} {E : Value → Shared → Prop}
theorem getattr_ok {b : Bool} {Q : Value → Shared → Prop} (I : Inv X pins σ H s) (e : H a = some (.ins C dx fs)) (c : Cls X.K C) (n : NoAttr X.K C f) (l : fs.lookup f = some v)
    (h : ∀ u s', Inv X pins σ H s' → RelV v u → Q u s') : wpAny (model X.prog X.w) A (getAttr (.ref a) f b) Q E s := by
  obtain ⟨mA, O, r, _, _, _⟩ := ins_get I.hok e
  obtain ⟨u, hu, ru⟩ := RelO.some_of (v := v) (o := mA f) (by rw [← l]; exact r f)
  exact get_map I.kIn O (c.get f) c.hd n hu (handed_of ru) (h u _ (I.tok _) ru)
theorem getmeth_ok {m : Str} {g : Addr} {pl : Sem Bool} {Q : Value × List Value → Shared → Prop} (I : Inv X pins σ H s) (e : H a = some (.ins C dx fs)) (c : Cls X.K C) (k : Meth X.K C m g) (l : fs.lookup m = none)
    (h : Q (.ref g, [.ref a]) s) : wpAny (model X.prog X.w) A (getMethod (.ref a) m pl) Q E s := by
  obtain ⟨mA, O, r, _, _, _⟩ := ins_get I.hok e
  have hn : mA m = none := RelO.none_of (by rw [← l]; exact r m)
  exact get_meth I.kIn O (c.get m) k.at_ k.fn hn h
theorem setattr_ok {y : V} {u : Value} {Q : Unit → Shared → Prop} (I : Inv X pins σ H s) (e : H a = some (.ins C dx fs)) (c : Cls X.K C) (n : NoAttr X.K C f) (hl : fs.length < 1000) (ry : RelV y u)
    (h : ∀ s', Inv X pins σ (upd H a (.ins C dx (putF f y fs))) s' → Q () s') : wpAny (model X.prog X.w) A (setAttr (.ref a) f u) Q E s := by
  obtain ⟨mA, O, r, wi, _, ho⟩ := ins_get I.hok e
  have hz : (fs.map (·.1)).length ≤ sizeLine := by rw [List.length_map, sizeLine_eq]; omega
  refine set_map I.kIn O c.sa c.po n.taker c.hd wi hz fun h' O' sb => h _ ?_
  have hd : ∃ o, h'.get? dx = some o := let ⟨o, _, _, e', _⟩ := O'.ns; ⟨o, e'⟩
  refine I.write (x := a) (e := dx) (by rw [e]; exact True.intro) (.inr ho) (fun b q hb z => (sb.2 b hb).trans z) hd ?_
  refine ⟨by rw [upd_ne O.ne]; exact ho, ?_, O.ne, O'.obj, _, O'.ns, fun g => ?_, fun g hg => ?_⟩
  · have := length_putF f y fs; omega
  · show RelO ((putF f y fs).lookup g) (if g = f then some u else mA g)
    rw [lookup_putF]
    by_cases q : g = f
    · rw [if_pos q, if_pos q]; exact ry
    · rw [if_neg q, if_neg q]; exact r g
  · by_cases q : g = f
    · rw [q]; exact (keys_putF f y fs).1
    · refine (keys_putF f y fs).2 g (wi g fun z => hg ?_)
      show (if g = f then some u else mA g) = none
      rw [if_neg q]; exact z
/-- a new instance, tracked, without attributes -/
theorem Inv.made (I : Inv X pins σ H s) : Inv X pins σ (upd (upd H s.heap.objs.size (.own (s.heap.objs.size + 1))) (s.heap.objs.size + 1) (.ins C s.heap.objs.size []))
    { s with heap := (s.heap.push PySem.W.emptyDict).push (PySem.W.instObj C s.heap.objs.size) } := by
  have e1 : (s.heap.push PySem.W.emptyDict).get? s.heap.objs.size = some PySem.W.emptyDict := Heap.get?_push_size s.heap rfl
  have e2 : ((s.heap.push PySem.W.emptyDict).push (PySem.W.instObj C s.heap.objs.size)).get? (s.heap.objs.size + 1) = some (PySem.W.instObj C s.heap.objs.size) := by
    have := Heap.get?_push_size (s.heap.push PySem.W.emptyDict) (o := PySem.W.instObj C s.heap.objs.size) rfl
    rwa [Heap.size_push] at this
  have e3 : (s.heap.push PySem.W.emptyDict).Ns s.heap.objs.size (fun _ => none) := ⟨PySem.W.emptyDict, #[], _, e1, rfl, (fun e he => absurd he (by simp)), fun _ => rfl⟩
  have I1 := I.laid (a := s.heap.objs.size) (o := .own (s.heap.objs.size + 1)) (h' := s.heap.push PySem.W.emptyDict) (t' := s.toks) (fun b u q => Heap.get?_push_of_some _ q) (Nat.le_refl _) ⟨_, e1⟩
  refine I1.laid (a := s.heap.objs.size + 1) (o := .ins C s.heap.objs.size []) (t' := s.toks) (fun b u q => Heap.get?_push_of_some _ q) (Nat.le_of_eq (Heap.size_push _ _)) ?_
  have ne : s.heap.objs.size ≠ s.heap.objs.size + 1 := Nat.ne_of_lt (Nat.lt_succ_self _)
  refine ⟨by rw [upd_ne ne, upd_same], Nat.zero_le _, ne, e2, fun _ => none, (Heap.Ns1.of_empty e3).at fun o q => Heap.get?_push_of_some _ q, fun _ => True.intro, fun y hy => absurd rfl hy⟩
/-- e.f where nothing but the object is asked: through attributeBase (super) and the last hold -/
theorem attr_of {prog : Program} {w : World} {env : Env} {e : Expr} {f : Str} {pos : Pos} {s : Shared} {Q : Value → Shared → Prop} (hb : attributeBase e f env (eval e env) = eval e env)
    (h : wpAny (model prog w) A (eval e env) (fun o s₁ => wpAny (model prog w) A (getAttr o f true) Q E s₁) E s) : wpAny (model prog w) A (eval (.Attribute e f pos) env) Q E s :=
  Attribute_any_ h (by rw [arm_eval_Attribute, hb])
end
/-! ### readings and rules -/
/-- e.f, an attribute of the instance -/
def tFld (K : PySem.W.Frag) (ta : TE) (f : Str) : TE := fun σ H Q => ta σ H fun x H1 => ∃ a C dx fs v, x = .ref a ∧ H1 a = some (.ins C dx fs) ∧ Cls K C ∧ NoAttr K C f ∧ fs.lookup f = some v ∧ Q v H1
/-- an augmented operator on two values -/
def InOp (X : Cx) (op : Operator) (rd : V → V → Hp → VK → Prop) : Prop :=
  ∀ (pins : List (Addr × Obj)) (s : Shared) (σ : St) (H : Hp) (x y : V) (u v : Value) (Q : VK), Inv X pins σ H s → RelV x u → RelV y v → rd x y H Q → wpAny (model X.prog X.w) X.A (inplaceOp op u v) (EP X pins σ Q) X.xe s
section
variable {X : Cx} {o e value : Expr} {f : Str} {pos pos' tpos : Pos} {ta tv : TE}
theorem pe_fld (he : PE X e ta) (hb : attributeBase e f X.env (eval e X.env) = eval e X.env) : PE X (.Attribute e f pos) (tFld X.K ta f) := by
  intro pins s σ H Q I h
  refine attr_of hb (thn (he pins s σ H _ I h) fun u s1 ⟨x, H1, I1, rx, a, C, dx, fs, v, ex, ea, c, n, l, q⟩ => ?_)
  subst ex
  obtain rfl : u = Value.ref a := rx
  exact getattr_ok I1 ea c n l fun u' s2 I2 ru => ⟨v, H1, I2, ru, q⟩
def rAdd : V → V → Hp → VK → Prop := fun x y H Q => ∃ i j, x = .int i ∧ y = .int j ∧ Q (.int (i + j)) H
theorem in_add : InOp X .Add rAdd := by
  rintro pins s σ H x y u v Q I rx ry ⟨i, j, rfl, rfl, q⟩
  obtain ⟨t, rfl⟩ := (show ∃ t, u = Value.int i t from rx)
  obtain ⟨t', rfl⟩ := (show ∃ t', v = Value.int j t' from ry)
  exact PyProof.Rows.iadd_int ⟨.int (i + j), H, I.tok _, ⟨_, rfl⟩, q⟩
end
/-! ### isinstance -/
section
variable {X : Cx} {pins : List (Addr × Obj)} {σ : St} {H : Hp} {s : Shared} {A : Around} {E : Value → Shared → Prop} {Q : Value → Shared → Prop} {c : Value} {b : Bool}
end
end L2
namespace L2
open PySem PySem.Spec PyProof.Rows
/-! ### room -/
structure Room (k : Nat) (A : Around) : Prop where
  hd : A.handled = none
  dp : A.depth + 3 * k + 5 < recursionLimit
  un : A.units + 16 * k + 200 < cLine
theorem Room.mono {j k : Nat} {A : Around} (r : Room k A) (h : j ≤ k) : Room j A := ⟨r.hd, by have := r.dp; omega, by have := r.un; omega⟩
theorem Room.deeper {k : Nat} {A : Around} (r : Room (k + 1) A) (env : Env) : Room k (A.deeper env) :=
  ⟨r.hd, by have := r.dp; show A.depth + 1 + 3 * k + 5 < _; omega, by have := r.un; show A.units + 3 + 16 * k + 200 < _; omega⟩
theorem make_depth {A : Around} {C : Addr} {us : List Value} {kw : List (Str × Value)} : (A.under (.builtin "type.__call__" ⟨.ref C :: us, kw⟩)).depth = A.depth + 1 := by
  first | rfl | simp [Around.under, Code.weight, Code.isCreation, Code.isGuard, Code.isCaller, Code.frames, Code.isFrame, guardIds]
theorem make_units {A : Around} {C : Addr} {us : List Value} {kw : List (Str × Value)} : (A.under (.builtin "type.__call__" ⟨.ref C :: us, kw⟩)).units = A.units + 1 := by
  first | rfl | simp [Around.under, Code.cUnits, Code.frames, Code.isFrame]
theorem Room.make {k : Nat} {A : Around} (r : Room (k + 1) A) (C : Addr) (us : List Value) (kw : List (Str × Value)) : Room k (A.under (.builtin "type.__call__" ⟨.ref C :: us, kw⟩)) :=
  ⟨r.hd, by have := r.dp; rw [make_depth]; omega, by have := r.un; rw [make_units]; omega⟩
theorem Room.depth {k : Nat} {A : Around} (r : Room k A) : A.depth < recursionLimit := by have := r.dp; omega
theorem Room.units {k : Nat} {A : Around} (r : Room k A) : A.units + 64 < cLine := by have := r.un; omega
/-! ### argument lists and displays -/
def tNil : TA := fun _ H Q => Q [] H
def tCons (ta : TE) (tr : TA) : TA := fun σ H Q => ta σ H fun x H1 => tr σ H1 fun xs H2 => Q (x :: xs) H2
section
variable {X : Cx} {e : Expr} {es : List Expr} {te : TE} {t : TA} {pos : Pos}
theorem pa_nil : PA X [] tNil := fun _ _ _ _ H Q I h => Calls.spliced_nil ⟨[], H, I, .nil, h⟩
theorem pa_cons (ha : PE X e te) (hr : PA X es t) (hs : starEach (e :: es) X.env = (false, eval e X.env) :: starEach es X.env := by rfl) : PA X (e :: es) (tCons te t) := by
  intro pos pins s σ H Q I h
  rw [hs]
  show wpAny _ _ (spliced ((false, eval e X.env) :: backTo pos (starEach es X.env))) _ _ s
  refine Calls.spliced_cons (thn (ha pins s σ H _ I h) fun u s1 ⟨x, H1, I1, r1, q1⟩ => ?_)
  exact thn (hr pos pins s1 σ H1 _ I1 q1) fun us s2 ⟨xs, H2, I2, r2, q2⟩ => ⟨x :: xs, H2, I2, .cons r1 r2, q2⟩
/-- a tuple, a list of written items -/
def tTup (t : TA) : TE := fun σ H Q => t σ H fun xs H1 => xs.length ≤ sizeLine ∧ ∀ p, H1 p = none → Q (.ref p) (upd H1 p (.tup xs))
def tLst (t : TA) : TE := fun σ H Q => t σ H fun xs H1 => xs.length ≤ sizeLine ∧ ∀ p, H1 p = none → Q (.ref p) (upd H1 p (.lst xs))
theorem pe_tup {x1} (h : PA X es t) : PE X (.Tuple es x1 pos) (tTup t) := by
  intro pins s σ H Q I hq
  refine wpAny_Tuple_spliced (thn (h pos pins s σ H _ I hq) fun us s1 ⟨xs, H1, I1, r, z, q⟩ => ⟨by rw [← r.length]; exact z, ?_⟩)
  have hf : H1 s1.heap.objs.size = none := I1.hok.fresh (Nat.le_refl _)
  refine ⟨.ref s1.heap.objs.size, upd H1 s1.heap.objs.size (.tup xs), I1.laid (t' := s1.toks) (fun b u e => Heap.get?_push_of_some _ e) (Nat.le_refl _) ?_, rfl, q _ hf⟩
  exact ⟨z, us, r, ⟨_, Heap.get?_push_size _ rfl, rfl, _, rfl⟩⟩
theorem pe_lst (h : PA X es t) : PE X (.List es pos) (tLst t) := by
  intro pins s σ H Q I hq
  refine wpAny_List_spliced (thn (h pos pins s σ H _ I hq) fun us s1 ⟨xs, H1, I1, r, z, q⟩ => ⟨by rw [← r.length]; exact z, ?_⟩)
  have hf : H1 s1.heap.objs.size = none := I1.hok.fresh (Nat.le_refl _)
  refine ⟨.ref s1.heap.objs.size, upd H1 s1.heap.objs.size (.lst xs), I1.laid (t' := s1.toks) (fun b u e => Heap.get?_push_of_some _ e) (Nat.le_refl _) ?_, rfl, q _ hf⟩
  exact ⟨z, us, 0, r, Heap.get?_push_size _ rfl⟩
end
/-! ### what a def promises -/
/-- a def's promise: the bound arguments in the parameters' order, the heap, the wanted end, the wanted exception -/
abbrev Sp := List V → Hp → VK → XK → Prop
/-- how an exception lies behind a call (file 08 gives it): the callers' frames, abstract heap and state ahead of the call, the wish, the exception, the state -/
abbrev CXT := List Env → Hp → Shared → XK → Value → Shared → Prop
/-- the state at a call -/
structure Env0 (P : Program) (w : World) (K : PySem.W.Frag) (mg : Str → Option Value) (base : Heap) (A : Around) (outer : List Env) (s : Shared) (H : Hp) : Prop where
  frames : A.frames = some outer
  mod : Mod K mg base
  bs : ∀ b o, base.get? b = some o → s.heap.get? b = some o ∧ H b = none
  bsz : base.objs.size ≤ s.heap.objs.size
  funs : s.heap.FunFrames base outer
  frf : ∀ b ∈ frs outer, H b = none
  hok : HOk P w H s.heap
  bare : AllBare s.gens
/-- a call's end -/
def CE (outer : List Env) (P : Program) (w : World) (H : Hp) (s : Shared) (Q : VK) (u : Value) (s' : Shared) : Prop :=
  ∃ v H', s'.os = s.os ∧ AllBare s'.gens ∧ Un (frs outer) [] H H' s.heap s'.heap ∧ HOk P w H' s'.heap ∧ RelV v u ∧ Q v H'
def CR (CX : CXT) (outer : List Env) (P : Program) (w : World) (H : Hp) (s : Shared) (Q : VK) (E : XK) (r : Result) (s' : Shared) : Prop :=
  match r with
  | .ok (.ret u) => CE outer P w H s Q u s'
  | .ok _ => False
  | .error e => CX outer H s E e s'
structure FnOk (P : Program) (w : World) (K : PySem.W.Frag) (mg : Str → Option Value) (base : Heap) (CX : CXT) (k : Nat) (f : Addr) (fd : FuncData) (ps : List Str) (sp : Sp) : Prop where
  len : ∀ vs H Q E, sp vs H Q E → vs.length = ps.length
  run : ∀ (A : Around) (outer : List Env) (s : Shared) (H : Hp) (args : Args) (us : List Value) (vs : List V) (Q : VK) (E : XK), Room k A → Env0 P w K mg base A outer s H → BindsTo s fd args (ps.zip us) → Vals vs us → sp vs H Q E →
    codeAny (model P w) A (.call (.ref f) args) (CR CX outer P w H s Q E) s
theorem FnOk.mono {P : Program} {w : World} {K : PySem.W.Frag} {mg : Str → Option Value} {base : Heap} {CX : CXT} {j k : Nat} {f : Addr} {fd : FuncData} {ps : List Str} {sp : Sp} (F : FnOk P w K mg base CX j f fd ps sp) (h : j ≤ k) :
    FnOk P w K mg base CX k f fd ps sp := ⟨F.len, fun A outer s H args us vs Q E hr => F.run A outer s H args us vs Q E (hr.mono h)⟩
/-- a weaker promise -/
theorem FnOk.imp {P : Program} {w : World} {K : PySem.W.Frag} {mg : Str → Option Value} {base : Heap} {CX : CXT} {k : Nat} {f : Addr} {fd : FuncData} {ps : List Str} {sp sp' : Sp} (F : FnOk P w K mg base CX k f fd ps sp)
    (h : ∀ vs H Q E, sp' vs H Q E → sp vs H Q E) : FnOk P w K mg base CX k f fd ps sp' :=
  ⟨fun vs H Q E q => F.len vs H Q E (h _ _ _ _ q), fun A outer s H args us vs Q E hr he hb hv hs => F.run A outer s H args us vs Q E hr he hb hv (h _ _ _ _ hs)⟩
theorem Env0.make {P : Program} {w : World} {K : PySem.W.Frag} {mg : Str → Option Value} {base : Heap} {A : Around} {outer : List Env} {s : Shared} {H : Hp} (e : Env0 P w K mg base A outer s H) (C : Addr) (us : List Value) (kw : List (Str × Value)) :
    Env0 P w K mg base (A.under (.builtin "type.__call__" ⟨.ref C :: us, kw⟩)) outer s H := ⟨by first | exact e.frames | (simpa [Around.under, Code.envs, Code.isFrame, pushEnvs] using e.frames), e.mod, e.bs, e.bsz, e.funs, e.frf, e.hok, e.bare⟩
section
variable {X : Cx} {pins : List (Addr × Obj)} {σ : St} {H : Hp} {s s' : Shared}
/-- from a body: what a callee wants -/
theorem Inv.env0 (I : Inv X pins σ H s) : Env0 X.prog X.w X.K X.mg X.base X.A X.stack s H :=
  ⟨I.ok.frames, I.ok.mod, I.bs, Nat.le_trans I.ok.bsz I.sz, I.stack, I.stkFree, I.hok, I.bare⟩
/-- behind a call -/
theorem Inv.after {Q : VK} {u : Value} (I : Inv X pins σ H s) (h : CE X.stack X.prog X.w H s Q u s') : EP X pins σ Q u s' := by
  obtain ⟨v, H', os, bare, un, hok, r, q⟩ := h
  obtain ⟨hh, g, d, t, os'⟩ := s'
  obtain rfl : os' = s.os := os
  exact ⟨v, H', I.call (h' := hh) (g' := g) (d' := d) (t' := t) (ch := []) un hok bare (fun b z => absurd z (by simp)), r, q⟩
end
/-! ### calls -/
/-- f(..): the written arguments, then the defaults dvs; E: what is wanted of an exception -/
def tCall (sp : Sp) (dvs : List V) (E : XK) (t : TA) : TE := fun σ H Q => t σ H fun vs H1 => sp (vs ++ dvs) H1 Q E
/-- o.m(..) of an instance of the class at C -/
def tMeth (C : Addr) (m : Str) (sp : Sp) (dvs : List V) (E : XK) (ta : TE) (t : TA) : TE := fun σ H Q => ta σ H fun x H1 => ∃ a dx fs, x = .ref a ∧ H1 a = some (.ins C dx fs) ∧ fs.lookup m = none ∧
  t σ H1 fun vs H2 => sp (x :: (vs ++ dvs)) H2 Q E
/-- C(..): a new instance and its dict, then __init__ -/
def tMake (C : Addr) (sp : Sp) (dvs : List V) (E : XK) (t : TA) : TE := fun σ H Q => t σ H fun vs H1 => ∀ x dx, H1 x = none → H1 dx = none → dx ≠ x →
  sp (.ref x :: (vs ++ dvs)) (upd (upd H1 dx (.own x)) x (.ins C dx [])) (fun v H2 => v = .non ∧ Q (.ref x) H2) E
/-- how the parameters are bound: us the positional arguments, kw the keywords' values by name, ds the defaults that fill up -/
def Binds (K : PySem.W.Frag) (fd : FuncData) (ps : List Str) (ds : List Value) : Prop :=
  ∀ (s : Shared) (us : List Value), K.In s.heap → (us ++ ds).length = ps.length → BindsTo s fd ⟨us, []⟩ (ps.zip (us ++ ds))
/-- every parameter is given -/
theorem Binds.all {K : PySem.W.Frag} {fd : FuncData} {ps : List Str} (h : ∀ us : List Value, us.length = ps.length → bindArgs fd ⟨us, []⟩ = pure (ps.zip us)) : Binds K fd ps [] := fun s us _ hl => by
  rw [List.append_nil] at hl ⊢
  exact .of_eq (h us hl)
/-- an exception of a callee reaches what this body wants of exceptions -/
def Passes (CX : CXT) (X : Cx) (E : XK) : Prop := ∀ (pins : List (Addr × Obj)) (σ : St) (H : Hp) (s : Shared) (e : Value) (s' : Shared), Inv X pins σ H s → CX X.stack H s E e s' → X.xe e s'
section
variable {X : Cx} {CX : CXT} {k : Nat} {f C : Addr} {fd : FuncData} {ps : List Str} {sp : Sp} {dvs : List V} {ds : List Value} {E : XK} {x m : Str} {p pos apos : Pos} {e o : Expr} {es : List Expr} {ta : TE} {t : TA}
/-- the callee runs -/
theorem run_fn {pins : List (Addr × Obj)} {σ : St} {H : Hp} {s : Shared} {Q : VK} {us : List Value} {vs : List V} (F : FnOk X.prog X.w X.K X.mg X.base CX k f fd ps sp) (hr : Room k X.A) (hb : Binds X.K fd ps ds) (hd : Vals dvs ds) (hx : Passes CX X E)
    (I : Inv X pins σ H s) (r : Vals vs us) (h : sp (vs ++ dvs) H Q E) : wpAny (model X.prog X.w) X.A (call (.ref f) us) (EP X pins σ Q) X.xe s := by
  have r2 : Vals (vs ++ dvs) (us ++ ds) := r.append hd
  have hl : (us ++ ds).length = ps.length := by rw [← r2.length]; exact F.len _ _ _ _ h
  refine wpAny_call (codeAny_mono (F.run X.A X.stack s H ⟨us, []⟩ (us ++ ds) (vs ++ dvs) Q E hr I.env0 (hb s us I.kIn hl) r2 h) fun r s' hq => ?_)
  cases r with
  | error e => exact hx pins σ H s e s' I hq
  | ok fl =>
    cases fl with
    | ret u => exact I.after hq
    | next => exact False.elim hq
    | brk => exact False.elim hq
    | cont => exact False.elim hq
theorem pe_call (F : FnOk X.prog X.w X.K X.mg X.base CX k f fd ps sp) (hr : Room k X.A) (hg : Gl X x) (hm : X.mg x = some (.ref f)) (hk : PySem.W.keepIn X.K (.ref f) = true) (hb : Binds X.K fd ps ds) (hd : Vals dvs ds) (hx : Passes CX X E)
    (ha : PA X (e :: es) t) (hdb : (x == ("__debug__" : Str)) = false := by decide) (he : starEach (e :: es) X.env = (false, eval e X.env) :: starEach es X.env := by rfl) (hpl : (backTo pos (starEach es X.env)).any (·.1) = false := by rfl) :
    PE X (.Call (.Name x p) (e :: es) [] pos) (tCall sp dvs E t) := by
  intro pins s σ H Q I h
  refine wpAny_Call_Name_kw (ld_glob I hg hm ?_ hdb)
  refine PySem.W.callWith_K (h₀ := X.base) I.ok.mod.kin hk (thn (ha pos pins s σ H _ I h) fun us s1 ⟨vs, H1, I1, r, q⟩ => ⟨I1.kIn, ?_⟩) he hpl
  exact run_fn F hr hb hd hx I1 r q
/-- o.m(e, ..) -/
theorem pe_meth {pl : Sem Bool} (he : PE X o ta) (c : Cls X.K C) (hm : Meth X.K C m f) (F : FnOk X.prog X.w X.K X.mg X.base CX k f fd ps sp) (hr : Room k X.A) (hb : Binds X.K fd ps ds) (hd : Vals dvs ds) (hx : Passes CX X E) (ha : PA X (e :: es) t)
    (hst : starEach (e :: es) X.env = (false, eval e X.env) :: starEach es X.env := by rfl) (hpl : (backTo pos (starEach es X.env)).any (·.1) = false := by rfl)
    (ht : eval (.Call (.Attribute o m apos) (e :: es) [] pos) X.env = (do
      let ov ← eval o X.env
      standAt apos.atName
      let (f, first) ← holding [ov] (getMethod ov m pl)
      callWith pos f first (backTo pos (starEach (e :: es) X.env)) (backToKw pos (keywordEach [] X.env))) := by rfl) :
    PE X (.Call (.Attribute o m apos) (e :: es) [] pos) (tMeth C m sp dvs E ta t) := by
  intro pins s σ H Q I h
  refine PySem.W.methodCall_KW (pl := pl) (thn (he pins s σ H _ I h) fun u s1 ⟨x, H1, I1, rx, a, dx, fs, ex, ea, l, q⟩ => ?_) ht
  subst ex
  obtain rfl : u = Value.ref a := rx
  refine getmeth_ok I1 ea c hm l ?_
  refine PySem.W.callWith_K (first := [.ref a]) (h₀ := X.base) I.ok.mod.kin hm.kp (thn (ha pos pins s1 σ H1 _ I1 q) fun us s2 ⟨vs, H2, I2, r, q2⟩ => ⟨I2.kIn, ?_⟩) hst hpl
  exact run_fn (us := .ref a :: us) (vs := .ref a :: vs) F hr hb hd hx I2 (.cons rfl r) q2
/-- o.m() -/
theorem pe_meth0 {pl : Sem Bool} (he : PE X o ta) (c : Cls X.K C) (hm : Meth X.K C m f) (F : FnOk X.prog X.w X.K X.mg X.base CX k f fd ps sp) (hr : Room k X.A) (hb : Binds X.K fd ps ds) (hd : Vals dvs ds) (hx : Passes CX X E)
    (ht : eval (.Call (.Attribute o m apos) [] [] pos) X.env = (do
      let ov ← eval o X.env
      standAt apos.atName
      let (f, first) ← holding [ov] (getMethod ov m pl)
      callWith pos f first (backTo pos (starEach [] X.env)) (backToKw pos (keywordEach [] X.env))) := by rfl) :
    PE X (.Call (.Attribute o m apos) [] [] pos) (tMeth C m sp dvs E ta tNil) := by
  intro pins s σ H Q I h
  refine PySem.W.methodCall_KW (pl := pl) (thn (he pins s σ H _ I h) fun u s1 ⟨x, H1, I1, rx, a, dx, fs, ex, ea, l, q⟩ => ?_) ht
  subst ex
  obtain rfl : u = Value.ref a := rx
  refine getmeth_ok I1 ea c hm l ?_
  exact PySem.W.callWith_K0 (first := [.ref a]) I1.kIn hm.kp (run_fn (us := [.ref a]) (vs := [.ref a]) F hr hb hd hx I1 (.cons rfl .nil) q)
/-- what a class must have to be made -/
structure Mk (K : PySem.W.Frag) (C f : Addr) : Prop where
  makes : PySem.W.makesIn K C = true
  init : PySem.W.findIn K (.ref C) "__init__" = some (some (.ref f))
  fn : PySem.W.isFn K (.ref f) = true
  kp : PySem.W.keepIn K (.ref C) = true
theorem run_make {pins : List (Addr × Obj)} {σ : St} {H : Hp} {s : Shared} {Q : VK} {us : List Value} {vs : List V} (M : Mk X.K C f) (F : FnOk X.prog X.w X.K X.mg X.base CX k f fd ps sp) (hr : Room (k + 1) X.A) (hb : Binds X.K fd ps ds) (hd : Vals dvs ds)
    (hx : Passes CX X E) (I : Inv X pins σ H s) (r : Vals vs us)
    (h : ∀ x dx, H x = none → H dx = none → dx ≠ x → sp (.ref x :: (vs ++ dvs)) (upd (upd H dx (.own x)) x (.ins C dx [])) (fun v H2 => v = .non ∧ Q (.ref x) H2) E) :
    wpAny (model X.prog X.w) X.A (call (.ref C) us) (EP X pins σ Q) X.xe s := by
  have hq := h (s.heap.objs.size + 1) s.heap.objs.size (I.hok.fresh (Nat.le_succ _)) (I.hok.fresh (Nat.le_refl _)) (Nat.ne_of_lt (Nat.lt_succ_self _))
  have I2 := Inv.made (C := C) I
  have r2 : Vals (V.ref (s.heap.objs.size + 1) :: (vs ++ dvs)) (Value.ref (s.heap.objs.size + 1) :: (us ++ ds)) := .cons rfl (r.append hd)
  have hl : (Value.ref (s.heap.objs.size + 1) :: us ++ ds).length = ps.length := by
    have e := r2.length
    rw [F.len _ _ _ _ hq] at e
    exact e.symm
  refine wpAny_call (make_map (f := f) I.kIn M.makes M.init (beq_iff_eq.mp M.fn) (codeAny_mono (F.run _ X.stack _ _ ⟨Value.ref (s.heap.objs.size + 1) :: us, []⟩ (Value.ref (s.heap.objs.size + 1) :: (us ++ ds)) _ _ E (hr.make C us [])
    (I2.env0.make C us []) (hb _ (Value.ref (s.heap.objs.size + 1) :: us) I2.kIn hl) r2 hq) fun r s' hq' => ?_))
  cases r with
  | error e => exact hx pins σ _ _ e s' I2 hq'
  | ok fl =>
    cases fl with
    | ret u =>
      obtain ⟨v, H', I3, rv, ev, q3⟩ := I2.after hq'
      subst ev
      exact ⟨rv, ⟨V.ref (s.heap.objs.size + 1), H', I3, rfl, q3⟩⟩
    | next => exact False.elim hq'
    | brk => exact False.elim hq'
    | cont => exact False.elim hq'
theorem pe_make (M : Mk X.K C f) (F : FnOk X.prog X.w X.K X.mg X.base CX k f fd ps sp) (hr : Room (k + 1) X.A) (hg : Gl X x) (hm : X.mg x = some (.ref C)) (hb : Binds X.K fd ps ds) (hd : Vals dvs ds) (hx : Passes CX X E)
    (ha : PA X (e :: es) t) (hdb : (x == ("__debug__" : Str)) = false := by decide) (he : starEach (e :: es) X.env = (false, eval e X.env) :: starEach es X.env := by rfl) (hpl : (backTo pos (starEach es X.env)).any (·.1) = false := by rfl) :
    PE X (.Call (.Name x p) (e :: es) [] pos) (tMake C sp dvs E t) := by
  intro pins s σ H Q I h
  refine wpAny_Call_Name_kw (ld_glob I hg hm ?_ hdb)
  refine PySem.W.callWith_K (h₀ := X.base) I.ok.mod.kin M.kp (thn (ha pos pins s σ H _ I h) fun us s1 ⟨vs, H1, I1, r, q⟩ => ⟨I1.kIn, ?_⟩) he hpl
  exact run_make M F hr hb hd hx I1 r q
theorem pe_make0 (M : Mk X.K C f) (F : FnOk X.prog X.w X.K X.mg X.base CX k f fd ps sp) (hr : Room (k + 1) X.A) (hg : Gl X x) (hm : X.mg x = some (.ref C)) (hb : Binds X.K fd ps ds) (hd : Vals dvs ds) (hx : Passes CX X E)
    (hdb : (x == ("__debug__" : Str)) = false := by decide) : PE X (.Call (.Name x p) [] [] pos) (tMake C sp dvs E tNil) := by
  intro pins s σ H Q I h
  refine wpAny_Call_Name_kw (ld_glob I hg hm ?_ hdb)
  exact PySem.W.callWith_K0 I.kIn M.kp (run_make (us := []) M F hr hb hd hx I .nil h)
end
/-! ### keywords -/
section
variable {X : Cx} {CX : CXT} {k : Nat} {f C : Addr} {fd : FuncData} {ps ks : List Str} {sp : Sp} {E : XK} {x m : Str} {p pos apos kpos : Pos} {e o : Expr} {es : List Expr} {kws : List Keyword} {te ta : TE} {t tk : TA} {nm : Option Str}
variable {g : List Value → List Value → List Value} {gV : List V → List V → List V}
end
/-! ### a def's body keeps its promise -/
/-- names: the parameters first -/
structure FnScope (N P : List Str) (sc : Scope) : Prop where
  kind : sc.kind = .function
  co : sc.isCoroutine = false
  gen : sc.isGenerator = false
  nd : N.Nodup
  pre : N.take P.length = P
  par : ∀ x ∈ P, sc.names.lookup x = some .local ∨ sc.names.lookup x = some .cell
  nofree : ∀ y ∈ sc.names, y.2 ≠ .free
theorem bindL_out {kindOf : Str → Option NameKind} {x : Str} : ∀ {binds : List (Str × Value)} {m : Str → Option Value}, (∀ v, (x, v) ∉ binds) → bindL kindOf binds m x = m x
  | [], _, _ => rfl
  | (n, v) :: r, m, h => by
    unfold bindL
    rw [bindL_out fun w hw => h w (List.mem_cons_of_mem _ hw)]
    split
    · have : x ≠ n := by rintro rfl; exact h v List.mem_cons_self
      simp [this]
    · rfl
theorem bindC_out {kindOf : Str → Option NameKind} {x : Str} : ∀ {binds : List (Str × Value)} {m : Str → Option Value}, (∀ v, (x, v) ∉ binds) → bindC kindOf binds m x = m x
  | [], _, _ => rfl
  | (n, v) :: r, m, h => by
    unfold bindC
    rw [bindC_out fun w hw => h w (List.mem_cons_of_mem _ hw)]
    split
    · rfl
    · have : x ≠ n := by rintro rfl; exact h v List.mem_cons_self
      simp [this]
theorem bindL_get {kindOf : Str → Option NameKind} {x : Str} {v : Value} : ∀ {P : List Str} {vs : List Value} {i : Nat} {m : Str → Option Value}, P.Nodup → P[i]? = some x → vs[i]? = some v → kindOf x = some .local →
    bindL kindOf (P.zip vs) m x = some v
  | [], _, _, _, _, h, _, _ => by simp at h
  | _ :: _, [], _, _, _, _, h, _ => by simp at h
  | p :: P, w :: vs, 0, m, nd, h1, h2, hk => by
    simp at h1 h2; subst h1; subst h2
    show bindL kindOf ((p, w) :: P.zip vs) m p = _
    unfold bindL
    rw [bindL_out fun v hv => (List.nodup_cons.mp nd).1 (List.of_mem_zip hv).1, if_pos hk]
    simp
  | p :: P, w :: vs, i + 1, m, nd, h1, h2, hk => by
    show bindL kindOf ((p, w) :: P.zip vs) m x = _
    unfold bindL
    exact bindL_get (i := i) (List.nodup_cons.mp nd).2 (by simpa using h1) (by simpa using h2) hk
theorem bindC_get {kindOf : Str → Option NameKind} {x : Str} {v : Value} : ∀ {P : List Str} {vs : List Value} {i : Nat} {m : Str → Option Value}, P.Nodup → P[i]? = some x → vs[i]? = some v → kindOf x ≠ some .local →
    bindC kindOf (P.zip vs) m x = some v
  | [], _, _, _, _, h, _, _ => by simp at h
  | _ :: _, [], _, _, _, _, h, _ => by simp at h
  | p :: P, w :: vs, 0, m, nd, h1, h2, hk => by
    simp at h1 h2; subst h1; subst h2
    show bindC kindOf ((p, w) :: P.zip vs) m p = _
    unfold bindC
    rw [bindC_out fun v hv => (List.nodup_cons.mp nd).1 (List.of_mem_zip hv).1, if_neg hk]
    simp
  | p :: P, w :: vs, i + 1, m, nd, h1, h2, hk => by
    show bindC kindOf ((p, w) :: P.zip vs) m x = _
    unfold bindC
    exact bindC_get (i := i) (List.nodup_cons.mp nd).2 (by simpa using h1) (by simpa using h2) hk
/-- the names' values at the entry -/
def start (N : List Str) (vs : List V) : St := vs.map some ++ List.replicate (N.length - vs.length) none
/-- the context of a def's body, at its entry; an exception leaves the frame, then lies as CX says -/
def cxOf (CX : CXT) (P : Program) (w : World) (K : PySem.W.Frag) (mg : Str → Option Value) (base : Heap) (N : List Str) (qual : Str) (scope : Scope) (f : Addr) (cd : Value) (A : Around) (outer : List Env) (s : Shared) (H : Hp) (E : XK) : Cx where
  prog := P
  w := w
  K := K
  mg := mg
  base := base
  A := A.deeper (envOfC qual scope s.heap.objs.size f cd)
  N := N
  s_0 := s
  H_0 := H
  env := envOfC qual scope s.heap.objs.size f cd
  outer := outer
  stack := envOfC qual scope s.heap.objs.size f cd :: outer
  ex := []
  calm := true
  fn := fun _ => true
  pn := []
  xe := fun e s' => wpAny (model P w) (A.deeper (envOfC qual scope s.heap.objs.size f cd)) (leaving (envOfC qual scope s.heap.objs.size f cd) e) (fun _ s'' => CX outer H s E e s'') (fun e' s'' => CX outer H s E e' s'') s'
theorem cell_has {sc : Scope} {n : Nat} {x : Str} (h : sc.names.lookup x = some .cell) : ∃ c, (cellsFrom n sc.names []).lookup x = some c := by
  have q := PySem.W.cellsFrom_some sc.names n [] (.inl h)
  exact Option.isSome_iff_exists.mp q
theorem inv_start {CX : CXT} {P : Program} {w : World} {K : PySem.W.Frag} {mg : Str → Option Value} {base : Heap} {N ps : List Str} {qual : Str} {scope : Scope} {f : Addr} {cd : Value} {A : Around} {outer : List Env} {s s1 : Shared} {H : Hp} {E : XK} {us : List Value} {vs : List V}
    (S : FnScope N ps scope) (hd : A.handled = none) (e0 : Env0 P w K mg base A outer s H) (hl : vs.length = ps.length) (r : Vals vs us)
    (x : InCallC s s.heap.objs.size (bindL (envOfC qual scope s.heap.objs.size f cd).kindOf (ps.zip us) fun _ => none) (cellsFrom (s.heap.objs.size + 1) scope.names []) (bindC (envOfC qual scope s.heap.objs.size f cd).kindOf (ps.zip us) fun _ => none) s1) :
    Inv (cxOf CX P w K mg base N qual scope f cd A outer s H E) [] (start N vs) H s1 := by
  have hpl : ps.length ≤ N.length := by have := congrArg List.length S.pre; rw [List.length_take] at this; omega
  obtain ⟨h1, tk, rfl, hk⟩ := x.done
  have noA : ∀ b : Addr, b ∉ (cxOf CX P w K mg base N qual scope f cd A outer s H E).ex := fun b z => absurd (show b ∈ ([] : List Addr) from z) (by simp)
  refine ⟨⟨e0.mod, S.kind, rfl, rfl, Nat.le_refl _, fun y z c h1 h2 => ?_, fun y hy => ?_, fun y c _ h => ?_, fun _ => hd, Around.frames_deeper e0.frames, .inr ⟨rfl, rfl⟩, fun b z => absurd z (noA b), e0.bs, e0.bsz, fun b _ _ => noA b, fun b z => absurd z (noA b), e0.funs, e0.frf⟩,
    rfl, e0.bare, Un.kept hk, ⟨_, x.toInCall.ns, fun i y v h1 h2 h3 => ?_⟩, fun y c h => ⟨_, x.cell y c h⟩, e0.hok.fresh (Nat.le_refl _), fun y c h => ?_, fun p hp => absurd (show p ∈ ([] : List (Addr × Obj)) from hp) (by simp), e0.hok.kept hk, ?_⟩
  · exact name_of_addr x.apart (PySem.mem_of_lookup h1) (PySem.mem_of_lookup h2)
  · have hy : scope.names.lookup y = some .cell ∨ scope.names.lookup y = some .free := hy
    rcases hy with hy | hy
    · exact cell_has hy
    · exact absurd rfl (S.nofree _ (PySem.mem_of_lookup hy))
  · exact Nat.le_of_lt (x.above y c (PySem.mem_of_lookup h))
  · have hi : i < vs.length := by
      unfold start at h2
      by_cases hi : i < vs.length
      · exact hi
      · rw [List.getElem?_append_right (by simpa using hi)] at h2
        rw [List.getElem?_replicate] at h2
        split at h2 <;> cases h2
    have ha : vs[i]? = some v := by
      unfold start at h2
      rw [List.getElem?_append_left (by simpa using hi), List.getElem?_map] at h2
      cases e : vs[i]? with
      | none => rw [e] at h2; cases h2
      | some a => rw [e] at h2; cases h2; rfl
    obtain ⟨u, hu, rv⟩ := r.get ha
    have hp : ps[i]? = some y := by
      rw [← S.pre, List.getElem?_take_of_lt (by omega)]; exact h1
    have ndP : ps.Nodup := by rw [← S.pre]; exact S.nd.sublist (List.take_sublist _ _)
    refine ⟨u, rv, ?_⟩
    rcases S.par y (List.mem_of_getElem? hp) with k | k
    · exact .inl ⟨k, bindL_get ndP hp hu k⟩
    · obtain ⟨c, e⟩ := cell_has (n := s.heap.objs.size + 1) k
      refine .inr ⟨.inl k, c, e, ?_⟩
      have q := x.cell y c e
      rw [bindC_get ndP hp hu (by show scope.names.lookup y ≠ _; rw [k]; decide)] at q
      exact q
  · exact e0.hok.fresh (Nat.le_of_lt (x.above y c (PySem.mem_of_lookup h)))
  · unfold start
    show _ = N.length
    rw [List.length_append, List.length_map, List.length_replicate]
    omega
/-- THE RULE: a def (or a method) of the text, by its body. The body's reading t is chosen for each entry; it is run at the parameters' values -/
theorem fn_of {CX : CXT} {P : Program} {w : World} {K : PySem.W.Frag} {mg : Str → Option Value} {base : Heap} {k : Nat} {f : Addr} {name qual : Str} {params : Arguments} {body : List Stmt} {scope : Scope} {dV kV doc pm cdv ct oc : Value} {an od : Option Addr}
    {osl : Array (Option Value)} {N ps : List Str} {sp : Sp} (lk : K.lookup f = some ⟨oc, od, .func (PySem.W.fnOf name qual params body scope dV kV doc pm an cdv ct), osl⟩) (hcd : PySem.W.codeIn K cdv qual = true) (S : FnScope N ps scope)
    (len : ∀ vs H Q E, sp vs H Q E → vs.length = ps.length)
    (hbody : ∀ (A : Around) (outer : List Env) (s : Shared) (H : Hp) (vs : List V) (Q : VK) (E : XK), Room k (A.deeper (envOfC qual scope s.heap.objs.size f cdv)) → sp vs H Q E →
      ∃ t, PSs (cxOf CX P w K mg base N qual scope f cdv A outer s H E) body t ∧ t { nx := fun _ H' => Q .non H', rt := Q } (start N vs) H) :
    FnOk P w K mg base CX (k + 1) f (PySem.W.fnOf name qual params body scope dV kV doc pm an cdv ct) ps sp := by
  refine ⟨len, fun A outer s H args us vs Q E hr e0 hb r hsp => ?_⟩
  have hl := len _ _ _ _ hsp
  have KX : K.In s.heap := e0.mod.kin.keeps fun b o e => (e0.bs b o e).1
  have lim : s.heap.NoLimit := e0.mod.nolimit.keeps fun b o e => (e0.bs b o e).1
  have hkind : ∀ y ∈ ps.zip us, scope.names.lookup y.1 = some .local ∨ (scope.names.lookup y.1 = some .cell ∧ ((cellsFrom (s.heap.objs.size + 1) scope.names []).lookup y.1).isSome = true) := fun ⟨n, v⟩ hy => by
    rcases S.par n (List.of_mem_zip hy).1 with q | q
    · exact .inl q
    · exact .inr ⟨q, PySem.W.cellsFrom_some _ _ _ (.inl q)⟩
  refine codeAny_call_function hr.depth (KX _ _ lk) rfl S.co S.gen rfl (PySem.W.codeRec_of KX hcd) (hb _ _ _ _ ?_)
  refine wpAny_newFunctionEnv_cells S.kind hkind fun env he s1 x => ?_
  subst he
  refine ⟨lim.keeps x.toInCall.keep, codeAny_func ?_⟩
  obtain ⟨t, ht, hq⟩ := hbody A outer s H vs Q E (hr.deeper _) hsp
  have I : Inv (cxOf CX P w K mg base N qual scope f cdv A outer s H E) [] (start N vs) H s1 := inv_start S hr.hd e0 hl r x
  refine wpAny_mono (ht [] s1 (start N vs) H _ I hq) (fun fl s' hs => ?_) fun e s' hs => hs
  have fin : ∀ {σ' : St} {H' : Hp} {v : V} {u : Value}, Inv (cxOf CX P w K mg base N qual scope f cdv A outer s H E) [] σ' H' s' → RelV v u → Q v H' → CE outer P w H s Q u s' :=
    fun {σ' H' v u} J rv q => ⟨v, H', J.os, J.bare, J.base, J.hok, rv, q⟩
  cases fl with
  | ret u =>
    obtain ⟨v, σ', H', J, rv, q⟩ := hs
    exact fin J rv q
  | next =>
    obtain ⟨σ', H', J, q⟩ := hs
    exact fin (v := V.non) (u := Value.none) J rfl q
  | brk =>
    obtain ⟨_, _, _, q⟩ := hs
    exact False.elim q
  | cont =>
    obtain ⟨_, _, _, q⟩ := hs
    exact False.elim q
end L2
namespace L2
open PySem PySem.Spec PyProof.Rows
section
variable {X : Cx} {x : Str} {p pos : Pos} {e : Expr} {es : List Expr} {t : TA} {id T : String} {r : List V → Hp → VK → Prop}
def tCB (r : List V → Hp → VK → Prop) (t : TA) : TE := fun σ H Q => t σ H fun vs H1 => r vs H1 Q
/-- f(e, ..), f a built-in function -/
theorem pe_callB (hc : CallR X (.builtin id) r) (hg : Gl X x) (hm : X.mg x = none) (hv : bootBuiltins x = some (.builtin id)) (ha : PA X (e :: es) t) (hn : x ≠ "__name__" := by decide) (hdb : (x == ("__debug__" : Str)) = false := by decide)
    (he : starEach (e :: es) X.env = (false, eval e X.env) :: starEach es X.env := by rfl) (hpl : (backTo pos (starEach es X.env)).any (·.1) = false := by rfl) : PE X (.Call (.Name x p) (e :: es) [] pos) (tCB r t) := by
  intro pins s σ H Q I h
  refine wpAny_Call_Name_kw (ld_blt I hg hm hv ?_ hn hdb)
  exact PyProof.Rows.callWith_builtin1 (thn (ha pos pins s σ H _ I h) fun us s1 ⟨vs, H1, I1, r1, q1⟩ => hc pins s1 σ H1 vs us Q I1 r1 q1) he hpl
/-- T(e, ..), T a built-in type -/
theorem pe_callTy (hc : CallR X (.type T) r) (hg : Gl X x) (hm : X.mg x = none) (hv : bootBuiltins x = some (.type T)) (ha : PA X (e :: es) t) (hn : x ≠ "__name__" := by decide) (hdb : (x == ("__debug__" : Str)) = false := by decide)
    (he : starEach (e :: es) X.env = (false, eval e X.env) :: starEach es X.env := by rfl) (hpl : (backTo pos (starEach es X.env)).any (·.1) = false := by rfl) : PE X (.Call (.Name x p) (e :: es) [] pos) (tCB r t) := by
  intro pins s σ H Q I h
  refine wpAny_Call_Name_kw (ld_blt I hg hm hv ?_ hn hdb)
  exact PyProof.Rows.callWith_type1 (thn (ha pos pins s σ H _ I h) fun us s1 ⟨vs, H1, I1, r1, q1⟩ => hc pins s1 σ H1 vs us Q I1 r1 q1) he hpl
end
end L2
namespace HT
open PySem PyProof.Rows
section
open PySem.SeqAt
open PySem.AutoSeq1 (wpAny_loadPart')
open PySem.MeetsSeq PySem.MeetsSeq2 PySem.MeetsSeq3
end
section
variable {prog : Program} {w : World} {A : Around} {E : Value → Shared → Prop} {s : Shared}
/-- t + u, t not empty -/
theorem cat_tup {t b : Addr} {vs ws : List Value} {Q : Value → Shared → Prop} (ht : IsTup s.heap t vs.toArray) (hb : IsTup s.heap b ws.toArray) (hv : vs ≠ [])
    (h1 : ws = [] → Q (.ref t) s) (h2 : ws ≠ [] → Q (.ref s.heap.objs.size) { s with heap := s.heap.push { cls := .type "tuple", data := .seq (vs ++ ws).toArray } })
    (hsz : vs.length + ws.length ≤ sizeLine) : wpAny (model prog w) A (binaryOp .Add (.ref t) (.ref b)) Q E s := by
  obtain ⟨⟨cls, dd, data, sl⟩, ho, hc, n, hd⟩ := id ht
  obtain ⟨⟨cls2, dd2, data2, sl2⟩, ho2, hc2, n2, hd2⟩ := id hb
  simp only at hc hd hc2 hd2
  subst hc hd hc2 hd2
  have e : vs.toArray ++ ws.toArray = (vs ++ ws).toArray := by simp
  by_cases hw : ws = []
  · exact concat_meets ⟨_, ho, rfl⟩ ⟨_, ho2, rfl⟩ noFill_tuple_add seq_tuple_add PySem.F.slot_tuple_add PySem.F.entry_tuple_add (PySem.F.args_tuple_add_2 _ _)
      (tuple_addW1 t b vs.toArray ws.toArray n n2 dd dd2 sl sl2 (by simpa using hv) (by simp [hw])) ⟨ho, ho2, h1 hw⟩
  · refine concat_meets ⟨_, ho, rfl⟩ ⟨_, ho2, rfl⟩ noFill_tuple_add seq_tuple_add PySem.F.slot_tuple_add PySem.F.entry_tuple_add (PySem.F.args_tuple_add_2 _ _)
      (tuple_addW2 t b vs.toArray ws.toArray n n2 dd dd2 sl sl2 (by simpa using hv) (by simpa using hw) (by rw [List.size_toArray, List.size_toArray]; exact hsz)) ⟨ho, ho2, ?_⟩
    rw [e]
    exact h2 hw
/-! ### t[a:b], not the whole -/
/-- a slice's bound as a place among n (d where it is left out) -/
def sIx (n d : Nat) : Option Int → Nat
  | none => d
  | some v => if v < 0 then (v + (n : Int)).toNat else min v.toNat n
theorem sIx_none (n d : Nat) : sIx n d none = d := rfl
theorem sIx_nat (n d k : Nat) : sIx n d (some (k : Int)) = min k n := by
  show (if (k : Int) < 0 then ((k : Int) + (n : Int)).toNat else min (k : Int).toNat n) = min k n
  rw [if_neg (by omega), Int.toNat_natCast]
theorem sIx_le (n d : Nat) (hd : d ≤ n) (o : Option Int) : sIx n d o ≤ n := by
  cases o with
  | none => exact hd
  | some v =>
    show (if v < 0 then (v + (n : Int)).toNat else min v.toNat n) ≤ n
    by_cases hv : v < 0
    · rw [if_pos hv]; omega
    · rw [if_neg hv]; exact Nat.min_le_right _ _
theorem clip_eq (v : Int) (n d : Nat) : (if v < 0 then max (v + (n : Int)) 0 else min v (n : Int)) = ((sIx n d (some v) : Nat) : Int) := by
  show (if v < 0 then max (v + (n : Int)) 0 else min v (n : Int)) = (((if v < 0 then (v + (n : Int)).toNat else min v.toNat n) : Nat) : Int)
  by_cases hv : v < 0
  · simp only [if_pos hv]; omega
  · simp only [if_neg hv]; omega
theorem adjust_gen (lo hi : Option Int) (n : Nat) : Builtin.Slice.sliceAdjust lo hi 1 (n : Int) = (((sIx n 0 lo : Nat) : Int), ((sIx n n hi : Nat) : Int)) := by
  have h1 : ¬ ((1 : Int) < 0) := by omega
  unfold Builtin.Slice.sliceAdjust
  simp only [h1, if_false]
  refine Prod.ext ?_ ?_
  · cases lo with
    | none => rfl
    | some v => exact clip_eq v n 0
  · cases hi with
    | none => rfl
    | some v => exact clip_eq v n n
theorem places_gen (i j : Nat) : Builtin.Slice.slicePlaces (i : Int) (j : Int) 1 = j - i := by
  unfold Builtin.Slice.slicePlaces
  have h1 : (1 : Int) > 0 := by omega
  simp only [h1, if_true, Int.ediv_one]
  split <;> omega
theorem slicePart_ {v : Value} {o : Option Int} {Q : Option Int → Shared → Prop} (p : IsPart v o) (h : Q o s) : wpAny (model prog w) A (Builtin.Slice.slicePartIndex v) Q E s := by
  cases p with
  | none => exact slicePart_none h
  | int i t => exact slicePart_int h
theorem sliceApplied_gen {sl : Addr} {vl vu : Value} {lo hi : Option Int} {n : Nat} {Q : Int × Int × Nat → Shared → Prop} (hs : s.heap.IsSliceOf sl vl vu .none) (pl : IsPart vl lo) (pu : IsPart vu hi)
    (h : Q (((sIx n 0 lo : Nat) : Int), 1, sIx n n hi - sIx n 0 lo) s) : wpAny (model prog w) A (Builtin.Slice.sliceApplied (.ref sl) (pure (n : Int))) Q E s := by
  obtain ⟨os, hos, hcs, hds⟩ := id hs
  unfold Builtin.Slice.sliceApplied Builtin.Slice.sliceFields
  refine wpAny_bind (wpAny_bind (wpAny_field hos hds (x := vl) rfl (wpAny_bind (wpAny_field hos hds (x := vu) rfl (wpAny_bind (wpAny_field hos hds (x := .none) rfl (wpAny_pure ?_)))))))
  refine wpAny_bind (slicePart_none ?_)
  show wpAny _ _ (if ((1 : Int) == 0) = true then _ else _) _ _ s
  rw [if_neg (by decide)]
  refine wpAny_bind (slicePart_ pl (wpAny_bind (slicePart_ pu (wpAny_bind (wpAny_pure ?_)))))
  show wpAny _ _ (match Builtin.Slice.sliceAdjust lo hi 1 (n : Int) with | (lo, hi) => pure (lo, (1 : Int), Builtin.Slice.slicePlaces lo hi 1)) _ _ s
  rw [adjust_gen lo hi n]
  show wpAny _ _ (pure (((sIx n 0 lo : Nat) : Int), (1 : Int), Builtin.Slice.slicePlaces ((sIx n 0 lo : Nat) : Int) ((sIx n n hi : Nat) : Int) 1)) _ _ s
  rw [places_gen]
  exact wpAny_pure h
theorem pick_gen (xs : Array Value) (i k : Nat) : ((List.range k).filterMap fun (m : Nat) => xs[((i : Int) + (m : Int) * 1).toNat]?).toArray = ((xs.toList.drop i).take k).toArray := by
  have e : (fun (m : Nat) => xs[((i : Int) + (m : Int) * 1).toNat]?) = fun m => xs[i + m]? := by
    funext m
    have : ((i : Int) + (m : Int) * 1).toNat = i + m := by omega
    rw [this]
  rw [e]
  have := pick_run xs i k
  rw [List.filterMap_map] at this
  have e2 : ((fun x => xs[x]?) ∘ fun x => i + x) = fun m => xs[i + m]? := rfl
  rw [e2] at this
  rw [this]
theorem getItem_tuple_cut {t sl : Addr} {items : Array Value} {vl vu : Value} {lo hi : Option Int} {Q : Value → Shared → Prop} (ht : IsTup s.heap t items) (hs : s.heap.IsSliceOf sl vl vu .none) (pl : IsPart vl lo) (pu : IsPart vu hi)
    (hw : ¬ (sIx items.size 0 lo = 0 ∧ sIx items.size items.size hi = items.size))
    (h : Q (.ref s.heap.objs.size) { s with heap := s.heap.push { cls := .type "tuple", data := .seq ((items.toList.drop (sIx items.size 0 lo)).take (sIx items.size items.size hi - sIx items.size 0 lo)).toArray } })
    (hsz : items.size ≤ sizeLine) : wpAny (model prog w) A (getItem (.ref t) (.ref sl)) Q E s := by
  have htake : sizeOk (.seq ((items.toList.drop (sIx items.size 0 lo)).take (sIx items.size items.size hi - sIx items.size 0 lo)).toArray) := by
    show ((items.toList.drop (sIx items.size 0 lo)).take (sIx items.size items.size hi - sIx items.size 0 lo)).toArray.size ≤ sizeLine
    rw [List.size_toArray, List.length_take, List.length_drop, Array.length_toList]
    omega
  have hj : sIx items.size items.size hi ≤ items.size := sIx_le _ _ (Nat.le_refl _) hi
  obtain ⟨os, hos, hcs, hds⟩ := id hs
  have hTs : s.TypeIs (.ref sl) "slice" := ⟨os, hos, hcs⟩
  unfold getItem
  try with_reducible refine wpAny_holding ?_
  first | refine wpAny_bind (wpAny_pure ?_) | skip
  refine wpAny_bind (wpAny_sequenceKey ht.typeIs (by decide) ?_)
  refine wpAny_bind (wpAny_callSpecial?_slot (name := Str.ofString "__getitem__") ht.typeIs PyProof.Rows.slot_tuple_getitem
    (wpAny_call_entry PyProof.Rows.slot_tuple_getitem ht.typeIs entry_tuple_getitem ?_ (args_tuple_getitem _ _)))
  show wpAny _ _ (Builtin.Tuple.tupleItemsOf (.ref t) >>= _) _ _ s
  refine wpAny_bind (tupleItemsOf_ ht ?_)
  refine wpAny_bind (wpAny_typeOf hTs ?_)
  rw [if_pos (by decide)]
  refine wpAny_bind (sliceApplied_gen hs pl pu ?_)
  have hno : ¬ ((((sIx items.size 0 lo : Nat) : Int) == 0 && (1 : Int) == 1 && (sIx items.size items.size hi - sIx items.size 0 lo) == items.size) = true) := by
    intro q
    rw [Bool.and_eq_true, Bool.and_eq_true] at q
    have q1 : ((sIx items.size 0 lo : Nat) : Int) = 0 := eq_of_beq q.1.1
    have q2 : sIx items.size items.size hi - sIx items.size 0 lo = items.size := eq_of_beq q.2
    exact hw ⟨by omega, by omega⟩
  show wpAny _ _ (if (((sIx items.size 0 lo : Nat) : Int) == 0 && (1 : Int) == 1 && (sIx items.size items.size hi - sIx items.size 0 lo) == items.size) = true then _ else _) _ _ s
  rw [if_neg hno, pick_gen]
  first
    | exact wpAny_bind (m := Builtin.Tuple.tupleExact _) (wpAny_newObj_type (wpAny_pure ⟨_, rfl, wpAny_pure h⟩) htake)
    | exact wpAny_bind (m := Builtin.Tuple.tupleExact _) (wpAny_newObj_type (wpAny_bind (wpAny_pure (wpAny_pure ⟨_, rfl, wpAny_pure h⟩))) htake)
    | exact wpAny_bind (wpAny_bind (m := Builtin.Tuple.tupleExact _) (wpAny_newObj_type (wpAny_pure (wpAny_pure ⟨_, rfl, wpAny_pure h⟩)) htake))
    | exact wpAny_bind (wpAny_bind (m := Builtin.Tuple.tupleExact _) (wpAny_newObj_type (wpAny_pure ⟨_, rfl, wpAny_pure h⟩) htake))
end
end HT
namespace L2
open PySem PySem.Spec PyProof.Rows
/-! ### the parts of a slice -/
abbrev TO := St → Hp → (Option Int → Hp → Prop) → Prop
/-- a slice's part (left out, or an int) -/
def PO (X : Cx) (e : Option Expr) (t : TO) : Prop :=
  ∀ (pins : List (Addr × Obj)) (s : Shared) (σ : St) (H : Hp) (Q : Option Int → Hp → Prop), Inv X pins σ H s → t σ H Q →
    wpAny (model X.prog X.w) X.A (evalPart e X.env) (fun u s' => ∃ o H', Inv X pins σ H' s' ∧ IsPart u o ∧ Q o H') X.xe s
def tNoPart : TO := fun _ H Q => Q none H
def tPart (t : TE) : TO := fun σ H Q => t σ H fun x H1 => ∃ i, x = .int i ∧ Q (some i) H1
section
variable {X : Cx} {e : Expr} {te : TE} {lo hi : Option Expr} {tl th : TO} {pos p2 : Pos}
theorem po_none : PO X none tNoPart := by
  intro pins s σ H Q I h
  rw [evalPart_none]
  exact wpAny_pure ⟨none, H, I, .none, h⟩
theorem po_some (h : PE X e te) : PO X (some e) (tPart te) := by
  intro pins s σ H Q I hw
  rw [evalPart_some]
  refine thn (h pins s σ H _ I hw) fun u s1 ⟨x, H1, I1, r1, q1⟩ => ?_
  obtain ⟨i, rfl, q⟩ := q1
  obtain ⟨t, rfl⟩ := r1
  exact ⟨some i, H1, I1, .int i t, q⟩
/-- what a slice of a value is, by values: the slice object stands at sl -/
def SlR (X : Cx) (r : V → Option Int → Option Int → Hp → VK → Prop) : Prop :=
  ∀ (pins : List (Addr × Obj)) (s : Shared) (σ : St) (H : Hp) (x : V) (v vl vu : Value) (lo hi : Option Int) (sl : Addr) (Q : VK), Inv X pins σ H s → RelV x v → s.heap.IsSliceOf sl vl vu .none → IsPart vl lo → IsPart vu hi → r x lo hi H Q →
    ∃ T id, typeLookup (.type T) "__getitem__" = pure (some (.builtin id)) ∧ s.TypeIs v T ∧ wpAny (model X.prog X.w) X.A (getItem v (.ref sl)) (EP X pins σ Q) X.xe s
def tSl (r : V → Option Int → Option Int → Hp → VK → Prop) (te : TE) (tl th : TO) : TE := fun σ H Q => te σ H fun x H1 => tl σ H1 fun l H2 => th σ H2 fun u H3 => r x l u H3 Q
/-- a[lo:hi], any a -/
theorem pe_slice {r : V → Option Int → Option Int → Hp → VK → Prop} (hr : SlR X r) (he : PE X e te) (hl : PO X lo tl) (hu : PO X hi th) : PE X (.Subscript e (.Slice lo hi none p2) pos) (tSl r te tl th) := by
  intro pins s σ H Q I h
  refine Subscript_ (thn (he pins s σ H _ I h) fun v s1 ⟨x, H1, I1, r1, q1⟩ => ?_)
  refine wpAny_Slice (thn (hl pins s1 σ H1 _ I1 q1) fun vl s2 ⟨l, H2, I2, pl, q2⟩ => thn (hu pins s2 σ H2 _ I2 q2) fun vu s3 ⟨u, H3, I3, pu, q3⟩ => ?_)
  rw [evalPart_none]
  refine wpAny_pure ?_
  have I4 : Inv X pins σ H3 { s3 with heap := s3.heap.push { cls := .type "slice", data := .fields #[vl, vu, .none] } } := I3.kept (t' := s3.toks) fun b ob q => Heap.get?_push_of_some _ q
  obtain ⟨T, id, hT, ht, hg⟩ := hr pins { s3 with heap := s3.heap.push { cls := .type "slice", data := .fields #[vl, vu, .none] } } σ H3 x v vl vu l u s3.heap.objs.size Q I4 r1 (Heap.IsSliceOf.new ..) pl pu q3
  show wpAny (model X.prog X.w) X.A (subscriptTail e (.Slice lo hi none p2) v (.ref s3.heap.objs.size)) (EP X pins σ Q) X.xe { s3 with heap := s3.heap.push { cls := .type "slice", data := .fields #[vl, vu, .none] } }
  exact tail_any (ops := [.ref s3.heap.objs.size, v]) ht hT hg (by with_unfolding_all rfl)
/-- the items of xs[lo:hi] -/
def cutV (xs : List V) (lo hi : Option Int) : List V := (xs.drop (HT.sIx xs.length 0 lo)).take (HT.sIx xs.length xs.length hi - HT.sIx xs.length 0 lo)
theorem cutV_length (xs : List V) (lo hi : Option Int) : (cutV xs lo hi).length ≤ xs.length := by
  unfold cutV
  rw [List.length_take, List.length_drop]
  omega
/-- t[lo:hi], not the whole of it (the whole would be t itself) -/
def rSlT (K : PySem.W.Frag) : V → Option Int → Option Int → Hp → VK → Prop := fun x lo hi H Q => ∃ a xs, x = .ref a ∧ SqT K H a xs ∧
  ¬ (HT.sIx xs.length 0 lo = 0 ∧ HT.sIx xs.length xs.length hi = xs.length) ∧ ∀ p, H p = none → Q (.ref p) (upd H p (.tup (cutV xs lo hi)))
theorem sl_tup : SlR X (rSlT X.K) := by
  intro pins s σ H x v vl vu lo hi sl Q I rx hs pl pu h
  obtain ⟨a, xs, rfl, hx, hw, q⟩ := h
  cases rx
  obtain ⟨its, r, ht, hz⟩ := I.tuple hx
  have hlen : its.toArray.size = xs.length := by rw [List.size_toArray]; exact r.length.symm
  refine ⟨"tuple", _, PyProof.Rows.slot_tuple_getitem.lookup, ht.typeIs, ?_⟩
  refine HT.getItem_tuple_cut ht hs pl pu (by rw [hlen]; exact hw) ?_ (by rw [hlen]; exact hz)
  rw [hlen]
  refine ⟨.ref s.heap.objs.size, _, I.laid (t' := s.toks) (o := .tup (cutV xs lo hi)) (fun b ob q => Heap.get?_push_of_some _ q) (Nat.le_refl _) ?_, rfl, q _ (I.hok.fresh (Nat.le_refl _))⟩
  exact ⟨Nat.le_trans (cutV_length xs lo hi) hz, _, (r.drop (HT.sIx xs.length 0 lo)).take (HT.sIx xs.length xs.length hi - HT.sIx xs.length 0 lo), IsTup.new _ _⟩
/-! ### t < u, t + u -/
/-- t + u, t not empty: u empty gives t itself -/
def rCatT (K : PySem.W.Frag) : R2 := fun x y H Q => ∃ a b xs ys, x = .ref a ∧ y = .ref b ∧ SqT K H a xs ∧ SqT K H b ys ∧ xs ≠ [] ∧ xs.length + ys.length ≤ sizeLine ∧
  (ys = [] → Q (.ref a) H) ∧ (ys ≠ [] → ∀ p, H p = none → Q (.ref p) (upd H p (.tup (xs ++ ys))))
theorem Vals.nil_iff {xs : List V} {us : List Value} (r : Vals xs us) : us = [] ↔ xs = [] := by
  cases r with
  | nil => simp
  | cons _ _ => simp
theorem op_catT : OpR X (binaryOp .Add) (rCatT X.K) := by
  intro pins s σ H x y v u Q I rx ry h
  obtain ⟨a, b, xs, ys, rfl, rfl, ha, hb, hx, hz, q1, q2⟩ := h
  cases rx
  cases ry
  obtain ⟨its, r1, p1, _⟩ := I.tuple ha
  obtain ⟨its2, r2, p2, _⟩ := I.tuple hb
  refine HT.cat_tup p1 p2 (fun z => hx (r1.nil_iff.mp z)) (fun z => ⟨.ref a, H, I, rfl, q1 (r2.nil_iff.mp z)⟩) (fun z => ?_) (by rw [← r1.length, ← r2.length]; exact hz)
  refine ⟨.ref s.heap.objs.size, _, I.laid (t' := s.toks) (o := .tup (xs ++ ys)) (fun b ob q => Heap.get?_push_of_some _ q) (Nat.le_refl _) ?_, rfl, q2 (fun w => z (r2.nil_iff.mpr w)) _ (I.hok.fresh (Nat.le_refl _))⟩
  exact ⟨by rw [List.length_append]; exact hz, _, r1.append r2, IsTup.new _ _⟩
end
end L2
namespace L2
open PySem PySem.Spec PyProof.Rows
/-! ### places -/
/-- the place that an index of any sign means -/
def ixN (n : Nat) (i : Int) : Option Nat := if 0 ≤ i then (if i < n then some i.toNat else none) else if -(n : Int) ≤ i then some (i + n).toNat else none
def atI {α : Type} (xs : List α) (i : Int) : Option α := (ixN xs.length i).bind fun j => xs[j]?
theorem ixN_seq {n : Nat} {i : Int} {j : Nat} (h : ixN n i = some j) : seqIndex? i n = some j ∧ j < n ∧ -(n : Int) ≤ i ∧ i < n := by
  unfold ixN at h
  by_cases h0 : 0 ≤ i
  · rw [if_pos h0] at h
    by_cases h1 : i < n
    · rw [if_pos h1] at h
      have e : i.toNat = j := Option.some.inj h
      exact ⟨by rw [seqIndex_of h0 h1, e], by omega, by omega, h1⟩
    · rw [if_neg h1] at h; cases h
  · rw [if_neg h0] at h
    by_cases h1 : -(n : Int) ≤ i
    · rw [if_pos h1] at h
      have e : (i + n).toNat = j := Option.some.inj h
      exact ⟨by rw [seqIndex_neg (by omega) h1, e], by omega, h1, by omega⟩
    · rw [if_neg h1] at h; cases h
theorem atI_get {α : Type} {xs : List α} {i : Int} {v : α} (h : atI xs i = some v) : ∃ j, seqIndex? i xs.length = some j ∧ xs[j]? = some v ∧ j < xs.length ∧ -(xs.length : Int) ≤ i ∧ i < xs.length := by
  unfold atI at h
  cases e : ixN xs.length i with
  | none => rw [e] at h; cases h
  | some j =>
    rw [e] at h
    obtain ⟨h1, h2, h3, h4⟩ := ixN_seq e
    exact ⟨j, h1, h, h2, h3, h4⟩
theorem atI_nat {α : Type} {xs : List α} {j : Nat} {v : α} (h : xs[j]? = some v) : atI xs (j : Int) = some v := by
  have hj : j < xs.length := (List.getElem?_eq_some_iff.mp h).1
  have e : ixN xs.length (j : Int) = some j := by
    unfold ixN
    rw [if_pos (by omega), if_pos (by omega)]; simp
  unfold atI; rw [e]; exact h
/-! ### what may be subscripted -/
/-- what stands as an index of a plain subscript -/
def PlainIx (b : Expr) : Prop := ∀ o i, subscripted b false o i = operate [o, i] (getItem o i)
/-- a subscript by values -/
def IxR (X : Cx) (r : R2) : Prop :=
  ∀ (value slice : Expr) (pins : List (Addr × Obj)) (s : Shared) (σ : St) (H : Hp) (x y : V) (v u : Value) (Q : VK), Inv X pins σ H s → RelV x v → RelV y u → r x y H Q →
    subscripted slice false v u = operate [v, u] (getItem v u) → wpAny (model X.prog X.w) X.A (subscriptTail value slice v u) (EP X pins σ Q) X.xe s
/-- a call of a builtin's method by values: the receiver, the arguments -/
def MtR (X : Cx) (id : String) (r : V → List V → Hp → VK → Prop) : Prop :=
  ∀ (pins : List (Addr × Obj)) (s : Shared) (σ : St) (H : Hp) (x : V) (xs : List V) (v : Value) (us : List Value) (Q : VK), Inv X pins σ H s → RelV x v → Vals xs us → r x xs H Q →
    wpAny (model X.prog X.w) X.A (call (.builtin id) (v :: us)) (EP X pins σ Q) X.xe s
section
variable {X : Cx} {a b : Expr} {ta tb : TE} {pos : Pos}
/-- a[b] -/
theorem pe_ix {r : R2} (hr : IxR X r) (ha : PE X a ta) (hb : PE X b tb) (hs : PlainIx b) : PE X (.Subscript a b pos) (tOp r ta tb) := by
  intro pins s σ H Q I h
  exact Subscript_ (binT ha hb I h fun v u s2 x y H2 I2 rx ry q => hr a b pins s2 σ H2 x y v u Q I2 rx ry q (hs _ _))
def rIxL (K : PySem.W.Frag) : R2 := fun x y H Q => ∃ p xs i v, x = .ref p ∧ y = .int i ∧ SqL K H p xs ∧ atI xs i = some v ∧ Q v H
def rIxT (K : PySem.W.Frag) : R2 := fun x y H Q => ∃ p xs i v, x = .ref p ∧ y = .int i ∧ SqT K H p xs ∧ atI xs i = some v ∧ Q v H
theorem ix_list : IxR X (rIxL X.K) := by
  intro value slice pins s σ H x y v u Q I rx ry h hs
  obtain ⟨p, xs, i, z, rfl, rfl, hq, he, q⟩ := h
  cases rx
  obtain ⟨t, rfl⟩ := ry
  obtain ⟨its, r, pl, hz⟩ := I.list hq
  obtain ⟨j, h1, h2, h3, h4, h5⟩ := atI_get he
  obtain ⟨w, ew, rw'⟩ := r.get h2
  have hl := r.length
  have hn := line63
  have fin : EP X pins σ Q w s := ⟨z, H, I, rw', q⟩
  by_cases h0 : 0 ≤ i
  · have hj : i.toNat = j := by
      rw [seqIndex_of h0 h5] at h1
      exact Option.some.inj h1
    exact item_listR pl.isList h0 (by omega) (by rw [hj]; simpa using ew) fin hs
  · have hj : (i + (its.toArray.size : Int)).toNat = j := by
      rw [seqIndex_neg (by omega) h4] at h1
      rw [List.size_toArray, ← hl]
      exact Option.some.inj h1
    exact subscriptTail_builtinR (x := w) pl.isList.typeIs slot_list_getitem.lookup
      (wpAny_getItem_list_neg (Q := fun r s' => r = w ∧ EP X pins σ Q r s') pl.isList (by omega) (by rw [List.size_toArray] <;> omega) (by omega) (by rw [hj]; simpa using ew) ⟨rfl, fin⟩) hs
theorem ix_tup : IxR X (rIxT X.K) := by
  intro value slice pins s σ H x y v u Q I rx ry h hs
  obtain ⟨p, xs, i, z, rfl, rfl, hq, he, q⟩ := h
  cases rx
  obtain ⟨t, rfl⟩ := ry
  obtain ⟨its, r, pl, hz⟩ := I.tuple hq
  obtain ⟨j, h1, h2, h3, h4, h5⟩ := atI_get he
  obtain ⟨w, ew, rw'⟩ := r.get h2
  have hl := r.length
  have hn := line63
  have fin : EP X pins σ Q w s := ⟨z, H, I, rw', q⟩
  exact subscriptTail_builtinR (x := w) pl.typeIs slot_tuple_getitem.lookup
    (getItem_tuple (j := j) (Q := fun r s' => r = w ∧ EP X pins σ Q r s') pl (by omega) (by omega) (by rw [List.size_toArray, ← hl]; exact h1) (by simpa using ew) ⟨rfl, fin⟩) hs
/-! ### xs[i] = v, any sign -/
/-- the list's object behind a store -/
theorem mapSeq_set (its : List Value) (n j : Nat) (u : Value) : Obj.mapSeq (·.setIfInBounds j u) { cls := .type "list", data := .seq its.toArray n } = { cls := .type "list", data := .seq (its.set j u).toArray n } := by
  simp [Obj.mapSeq]
theorem Inv.lst {pins : List (Addr × Obj)} {σ : St} {H : Hp} {s : Shared} {p : Addr} {xs : List V} (I : Inv X pins σ H s) (h : H p = some (.lst xs)) :
    ∃ (its : List Value) (n : Nat), Vals xs its ∧ s.heap.get? p = some { cls := .type "list", data := .seq its.toArray n } ∧ xs.length ≤ sizeLine := by
  obtain ⟨z, its, n, r, e⟩ := I.hok p _ h
  exact ⟨its, n, r, e, z⟩
/-- the list at p is written by an update of its object -/
theorem Inv.lstUpd {pins : List (Addr × Obj)} {σ : St} {H : Hp} {s : Shared} {p : Addr} {xs ys : List V} {its its' : List Value} {n n' : Nat} {f : Obj → Obj} (I : Inv X pins σ H s) (h : H p = some (.lst xs))
    (ho : s.heap.get? p = some { cls := .type "list", data := .seq its.toArray n }) (hf : f { cls := .type "list", data := .seq its.toArray n } = { cls := .type "list", data := .seq its'.toArray n' }) (r : Vals ys its') (hz : ys.length ≤ sizeLine) (t : Nat) :
    Inv X pins σ (upd H p (.lst ys)) { s with heap := s.heap.update p f, toks := t } := by
  have e : (s.heap.update p f).get? p = some { cls := .type "list", data := .seq its'.toArray n' } := by
    rw [Heap.get?_update_self f ho (by rw [hf] <;> rfl), hf]
  refine I.write (x := p) (e := p) (by rw [h]; trivial) (.inl rfl) (fun b u hb q => (Heap.get?_update_other _ _ (Ne.symm hb)).trans q) ⟨_, e⟩ ?_
  exact ⟨hz, its', n', r, e⟩
def rSetL : V → V → V → Hp → (Hp → Prop) → Prop := fun o i v H Q => ∃ p xs k j, o = .ref p ∧ i = .int k ∧ H p = some (.lst xs) ∧ ixN xs.length k = some j ∧ Q (upd H p (.lst (xs.set j v)))
theorem set_list : PSet X rSetL := by
  intro pins s σ H o i v ov iv u Q I ro ri rv h
  obtain ⟨p, xs, k, j, rfl, rfl, hp, hj, q⟩ := h
  cases ro
  obtain ⟨t, rfl⟩ := ri
  obtain ⟨its, n, r, ho, hz⟩ := I.lst hp
  obtain ⟨h1, h2, h3, h4⟩ := ixN_seq hj
  have hl := r.length
  have hn := line63
  have I' : Inv X pins σ (upd H p (.lst (xs.set j v))) { s with heap := s.heap.update p (Obj.mapSeq (·.setIfInBounds j u)) } :=
    I.lstUpd hp ho (mapSeq_set its n j u) (r.set rv j) (by rw [List.length_set]; exact hz) s.toks
  by_cases h0 : 0 ≤ k
  · have hk : k.toNat = j := by
      rw [seqIndex_of h0 h4] at h1
      exact Option.some.inj h1
    exact PySem.W.ki_setAt ho h0 (by omega) (by rw [List.size_toArray, ← hl]; exact h4) (by rw [hk]; exact ⟨_, I', q⟩)
  · have hk : (k + (its.toArray.size : Int)).toNat = j := by
      rw [seqIndex_neg (by omega) h3] at h1
      rw [List.size_toArray, ← hl]
      exact Option.some.inj h1
    exact PySem.W.ki_setBack ho (by omega) (by rw [List.size_toArray, ← hl]; exact h3) (by omega) (by rw [hk]; exact ⟨_, I', q⟩)
/-! ### slices -/
theorem slice_bounds (lo hi : Option Int) (n : Nat) : (sliceBounds lo hi none n).1 = ((HT.sIx n 0 lo : Nat) : Int) ∧ (sliceBounds lo hi none n).2.1 = ((HT.sIx n n hi : Nat) : Int) ∧ (sliceBounds lo hi none n).2.2 = 1 := by
  refine ⟨?_, ?_, rfl⟩
  · cases lo with
    | none => simp [sliceBounds, HT.sIx]
    | some i =>
      simp only [sliceBounds, HT.sIx, Option.getD_none, show (1 : Int) > 0 by decide, if_true]
      by_cases h : i < 0
      · simp only [h, if_true] <;> omega
      · simp only [h, if_false] <;> omega
  · cases hi with
    | none => simp [sliceBounds, HT.sIx]
    | some i =>
      simp only [sliceBounds, HT.sIx, Option.getD_none, show (1 : Int) > 0 by decide, if_true]
      by_cases h : i < 0
      · simp only [h, if_true] <;> omega
      · simp only [h, if_false] <;> omega
theorem slicePick_cut (its : List Value) (lo hi : Option Int) : slicePick its.toArray lo hi none = ((its.drop (HT.sIx its.length 0 lo)).take (HT.sIx its.length its.length hi - HT.sIx its.length 0 lo)).toArray := by
  obtain ⟨h1, h2, h3⟩ := slice_bounds lo hi its.toArray.size
  unfold slicePick
  rw [h1, h2, h3]
  simp only [sliceRange_one, pick_run, List.size_toArray] <;> rfl
/-- xs[lo:hi] of a list: a new list -/
def rSlL (K : PySem.W.Frag) : V → Option Int → Option Int → Hp → VK → Prop := fun x lo hi H Q => ∃ a xs, x = .ref a ∧ SqL K H a xs ∧ ∀ p, H p = none → Q (.ref p) (upd H p (.lst (cutV xs lo hi)))
theorem sl_list : SlR X (rSlL X.K) := by
  intro pins s σ H x v vl vu lo hi sl Q I rx hs pl pu h
  obtain ⟨a, xs, rfl, hx, q⟩ := h
  cases rx
  obtain ⟨its, r, ht, hz⟩ := I.list hx
  have hlen := r.length
  refine ⟨"list", _, slot_list_getitem.lookup, ht.isList.typeIs, ?_⟩
  refine wpAny_getItem_list_slice ht.isList hs pl pu .none (by simp) ?_ (by rw [List.size_toArray] <;> omega)
  rw [slicePick_cut, ← hlen]
  refine ⟨.ref s.heap.objs.size, _, I.laid (t' := s.toks) (o := .lst (cutV xs lo hi)) (fun b ob q => Heap.get?_push_of_some _ q) (Nat.le_refl _) ?_, rfl, q _ (I.hok.fresh (Nat.le_refl _))⟩
  exact ⟨Nat.le_trans (cutV_length xs lo hi) hz, _, 0, (r.drop (HT.sIx xs.length 0 lo)).take (HT.sIx xs.length xs.length hi - HT.sIx xs.length 0 lo), Heap.get?_push_size _ rfl⟩
/-! ### in, not in: flat items -/
/-! ### len, list(x), tuple(x) of any list or tuple that is read -/
theorem call_len_seq : CallR X (.builtin "len") (fun xs H Q => ∃ p ys, xs = [.ref p] ∧ (SqL X.K H p ys ∨ SqT X.K H p ys) ∧ Q (.int ys.length) H) := by
  intro pins s σ H xs us Q I r h
  obtain ⟨p, ys, rfl, hq, q⟩ := h
  obtain ⟨u, rfl, rx⟩ := vals1 r
  cases rx
  have hn := line63
  rcases hq with hq | hq
  · obtain ⟨its, r', pl, hz⟩ := I.list hq
    have hlen := r'.length
    exact Calls.call_len_list pl.isList (by simp only [List.size_toArray] <;> omega) ⟨.int ys.length, H, I.tok _, ⟨s.toks + 1, by rw [List.size_toArray, hlen]⟩, q⟩
  · obtain ⟨its, r', pl, hz⟩ := I.tuple hq
    have hlen := r'.length
    exact len_tuple pl (by simp only [List.size_toArray] <;> omega) ⟨.int ys.length, H, I.tok _, ⟨s.toks + 1, by rw [List.size_toArray, hlen]⟩, q⟩
theorem call_list_of : CallR X (.type "list") (fun xs H Q => ∃ p ys, xs = [.ref p] ∧ (SqL X.K H p ys ∨ SqT X.K H p ys) ∧ ∀ l, H l = none → Q (.ref l) (upd H l (.lst ys))) := by
  intro pins s σ H xs us Q I r h
  obtain ⟨p, ys, rfl, hq, q⟩ := h
  obtain ⟨u, rfl, rx⟩ := vals1 r
  cases rx
  have fin : ∀ (its : List Value), Vals ys its → ys.length ≤ sizeLine → ∀ (h' : Heap) (c' : Nat), (∀ b o', s.heap.get? b = some o' → h'.get? b = some o') →
      h'.get? s.heap.objs.size = some { cls := .type "list", dict := none, data := .seq its.toArray c', slots := #[] } → EP X pins σ Q (.ref s.heap.objs.size) { s with heap := h' } := fun its r' hz h' c' kp e =>
    ⟨.ref s.heap.objs.size, _, I.laid (t' := s.toks) kp (Nat.le_refl _) (show ObjOk X.prog X.w _ h' _ (.lst ys) from ⟨hz, its, c', r', e⟩), rfl, q _ (I.hok.fresh (Nat.le_refl _))⟩
  rcases hq with hq | hq
  · obtain ⟨its, r', pl, hz⟩ := I.list hq
    have hlen := r'.length
    obtain ⟨o, ho, hc, n, hd⟩ := pl.isList
    exact call_list_seq p (.inl rfl) ho hc hd (fun h' c' kp e => fin its r' hz h' c' kp e) (by simp only [List.size_toArray] <;> omega)
  · obtain ⟨its, r', pl, hz⟩ := I.tuple hq
    have hlen := r'.length
    obtain ⟨o, ho, hc, n, hd⟩ := pl
    exact call_list_seq p (.inr rfl) ho hc hd (fun h' c' kp e => fin its r' hz h' c' kp e) (by simp only [List.size_toArray] <;> omega)
theorem call_tuple_of : CallR X (.type "tuple") (fun xs H Q => ∃ p ys, xs = [.ref p] ∧ ((SqL X.K H p ys ∧ ∀ l, H l = none → Q (.ref l) (upd H l (.tup ys))) ∨ (SqT X.K H p ys ∧ Q (.ref p) H))) := by
  intro pins s σ H xs us Q I r h
  obtain ⟨p, ys, rfl, h⟩ := h
  obtain ⟨u, rfl, rx⟩ := vals1 r
  cases rx
  rcases h with ⟨hq, q⟩ | ⟨hq, q⟩
  · obtain ⟨its, r', pl, hz⟩ := I.list hq
    have hlen := r'.length
    refine call_tuple_list pl.isList (fun h' kp => ?_) (by simp only [List.size_toArray] <;> omega)
    have I1 : Inv X pins σ H { s with heap := h' } := I.kept (t' := s.toks) kp
    have I2 : Inv X pins σ (upd H h'.objs.size (.tup ys)) { s with heap := h'.push { cls := .type "tuple", data := .seq its.toArray } } :=
      I1.laid (t' := s.toks) (fun b o e => Heap.get?_push_of_some _ e) (Nat.le_refl _) (show ObjOk X.prog X.w _ _ _ (.tup ys) from ⟨hz, its, r', IsTup.new _ _⟩)
    exact ⟨.ref h'.objs.size, _, I2, rfl, q _ (I1.hok.fresh (Nat.le_refl _))⟩
  · obtain ⟨its, r', pl, hz⟩ := I.tuple hq
    exact call_tuple_same pl ⟨.ref p, H, I, rfl, q⟩
/-! ### the call of a builtin's method: o.m(..) -/
/-- the value is of that builtin type -/
def tyV (K : PySem.W.Frag) (T : String) (x : V) (H : Hp) : Prop := match x with
  | .str _ => T = "str"
  | .int _ => T = "int"
  | .ref p => (T = "list" ∧ ∃ xs, SqL K H p xs) ∨ (T = "tuple" ∧ ∃ o, K.lookup p = some o ∧ o.cls = .type "tuple" ∧ o.dict = none) ∨
      (T = "dict" ∧ ((∃ kvs, H p = some (.dK kvs)) ∨ ∃ kvs, H p = some (.dT kvs))) ∨ (T = "set" ∧ ∃ S n, H p = some (.set S n))
  | _ => False
theorem tyV_is {pins : List (Addr × Obj)} {σ : St} {H : Hp} {s : Shared} {T : String} {x : V} {v : Value} (I : Inv X pins σ H s) (r : RelV x v) (ty : tyV X.K T x H) :
    s.TypeIs v T ∧ ∀ a, v = .ref a → ∃ ob, s.heap.get? a = some ob ∧ ob.dict = none := by
  cases x with
  | str z =>
    obtain ⟨t, rfl⟩ := r
    cases (show T = "str" from ty)
    exact ⟨typeIs_str s z t, fun _ e => nomatch e⟩
  | int i =>
    obtain ⟨t, rfl⟩ := r
    cases (show T = "int" from ty)
    exact ⟨typeIs_int s i t, fun _ e => nomatch e⟩
  | ref p =>
    cases r
    rcases ty with ⟨rfl, xs, hq⟩ | ⟨rfl, o, hk, hc, hd⟩ | ⟨rfl, hk⟩ | ⟨rfl, S, n, hk⟩
    · obtain ⟨its, _, pl, _⟩ := I.list hq
      refine ⟨pl.isList.typeIs, fun a e => ?_⟩
      cases e
      obtain ⟨o, n, e, c, hd, _⟩ := pl
      exact ⟨o, e, hd⟩
    · refine ⟨⟨o, I.kIn p o hk, hc⟩, fun a e => ?_⟩
      cases e
      exact ⟨o, I.kIn _ o hk, hd⟩
    · have z : ∃ o, s.heap.get? p = some o ∧ o.ExactDict := by
        rcases hk with ⟨kvs, hk⟩ | ⟨kvs, hk⟩
        · obtain ⟨_, _, _, _, o, _, _, e, ex, _⟩ := I.hok p _ hk
          exact ⟨o, e, ex⟩
        · obtain ⟨_, _, _, _, o, _, _, e, ex, _⟩ := I.hok p _ hk
          exact ⟨o, e, ex⟩
      obtain ⟨o, e, ex⟩ := z
      refine ⟨⟨o, e, ex.1⟩, fun a e2 => ?_⟩
      cases e2
      exact ⟨o, e, ex.2.1⟩
    · obtain ⟨o, _, _, _, e, ex, _⟩ := I.hok p _ hk
      refine ⟨⟨o, e, ex.1⟩, fun a e2 => ?_⟩
      cases e2
      exact ⟨o, e, ex.2.1⟩
  | _ => exact False.elim ty
def tBM (K : PySem.W.Frag) (T : String) (r : V → List V → Hp → VK → Prop) (to : TE) (t : TA) : TE := fun σ H Q => to σ H fun x H1 => tyV K T x H1 ∧ t σ H1 fun xs H2 => r x xs H2 Q
variable {o e : Expr} {es : List Expr} {to : TE} {t : TA} {name : Str} {apos cpos : Pos} {T id : String} {r : V → List V → Hp → VK → Prop}
theorem pe_bm (pa : PlainAttrs T) (slot : Slot T name id) (hty : typeOf (.builtin id) = pure (.type "method_descriptor")) (hm : MtR X id r) (ho : PE X o to) (ha : PA X (e :: es) t)
    (hbase : attributeBase o name X.env (eval o X.env) = eval o X.env := by rfl)
    (hfew : ((backTo cpos (starEach (e :: es) X.env)).all (fun x => !x.1) && (backToKw cpos (keywordEach [] X.env)).all (fun x => x.1.isSome)
      && decide ((e :: es).length + ([] : List Keyword).length + (if ([] : List Keyword).isEmpty then 0 else 1) < 30)) = true := by rfl)
    (hline : (apos.endLine == cpos.line) = true := by rfl) (hs : starEach (e :: es) X.env = (false, eval e X.env) :: starEach es X.env := by rfl) (hplain : (backTo cpos (starEach es X.env)).any (·.1) = false := by rfl) :
    PE X (.Call (.Attribute o name apos) (e :: es) [] cpos) (tBM X.K T r to t) := by
  intro pins s σ H Q I h
  refine wpAny_Call_method_late hbase hfew hline rfl (thn (ho pins s σ H _ I h) fun v s1 ⟨x, H1, I1, r1, ty, q1⟩ => ?_)
  obtain ⟨h1, h2⟩ := tyV_is I1 r1 ty
  refine ⟨T, id, pa, slot, hty, h1, h2, ?_⟩
  have hA := ha cpos pins s1 σ H1 _ I1 q1
  rw [hs] at hA ⊢
  refine Calls.callWith_builtin (by show (false || (backTo cpos (starEach es X.env)).any (·.1)) = false; rw [hplain] <;> rfl) (Calls.evalArgs_plain ?_)
  exact thn hA fun us s2 ⟨vs, H2, I2, r2, q2⟩ => hm pins s2 σ H2 x vs v us Q I2 r1 r2 q2
/- xs.append(e), list.index on a module's tuple .. are MtR facts of 06m -/
end
end L2
namespace L2
open PySem PySem.Spec PyProof.Rows
def MtM (X : Cx) (id : String) (r : V → List V → Hp → VK → Prop) : Prop :=
  ∀ (pins : List (Addr × Obj)) (s : Shared) (σ : St) (H : Hp) (x : V) (xs : List V) (v : Value) (us : List Value) (Q : VK), Inv X pins σ H s → RelV x v → Vals xs us → r x xs H Q →
    wpAny (model X.prog X.w) X.A (call (.builtin id) (v :: us)) (EP X pins σ Q) X.xe s
/-! ### lists of values -/
theorem Vals.one : ∀ {x : V} {us : List Value}, Vals [x] us → ∃ u, us = [u] ∧ RelV x u
  | _, _, .cons r .nil => ⟨_, rfl, r⟩
section
variable {X : Cx} {pins : List (Addr × Obj)} {σ : St} {H : Hp} {s : Shared} {l b : Addr} {xs ys zs : List V}
/-! ### the two steps: a tracked list is rewritten, a new list is laid -/
theorem Inv.lset {its its' : List Value} {n : Nat} {f : Array Value → Array Value} {t' : Nat} (I : Inv X pins σ H s) (hH : H l = some (.lst xs))
    (e : s.heap.get? l = some { cls := .type "list", data := .seq its.toArray n }) (hf : f its.toArray = its'.toArray) (hv : Vals ys its') (hz : ys.length ≤ sizeLine) :
    Inv X pins σ (upd H l (.lst ys)) { s with heap := s.heap.update l (Obj.mapSeq f), toks := t' } := by
  have q := PySem.IsL.update e f
  rw [hf] at q
  refine I.write (x := l) (e := l) (by rw [hH]; exact trivial) (.inl rfl) (fun b' u hb hu => (Heap.get?_update_other s.heap (Obj.mapSeq f) (Ne.symm hb)).trans hu) ⟨_, q⟩ ?_
  exact ⟨hz, its', _, hv, q⟩
theorem Inv.lnew {its : List Value} {t' : Nat} (I : Inv X pins σ H s) (hv : Vals ys its) (hz : ys.length ≤ sizeLine) :
    Inv X pins σ (upd H s.heap.objs.size (.lst ys)) { s with heap := s.heap.push { cls := .type "list", data := .seq its.toArray }, toks := t' } :=
  I.laid (fun _ _ q => Heap.get?_push_of_some _ q) (Nat.le_refl _) ⟨hz, its, 0, hv, Heap.get?_push_size _ rfl⟩
theorem Inv.fresh (I : Inv X pins σ H s) : H s.heap.objs.size = none := I.hok.fresh (Nat.le_refl _)
theorem Inv.lstM (I : Inv X pins σ H s) (hH : H l = some (.lst xs)) : xs.length ≤ sizeLine ∧ ∃ (its : List Value) (n : Nat), Vals xs its ∧ xs.length = its.length ∧ s.heap.get? l = some { cls := .type "list", data := .seq its.toArray n } := by
  obtain ⟨z, its, n, r, e⟩ := I.hok l _ hH
  exact ⟨z, its, n, r, r.length, e⟩
theorem notLongL {n : Nat} (h : n ≤ sizeLine) : Builtin.List.listTooLong n = false := by
  unfold Builtin.List.listTooLong
  exact decide_eq_false (by omega)
end
section
variable {X : Cx}
/-! ### methods -/
def rAppend : V → List V → Hp → VK → Prop := fun x vs H Q => ∃ l xs y, x = .ref l ∧ vs = [y] ∧ H l = some (.lst xs) ∧ xs.length < sizeLine ∧ Q .non (upd H l (.lst (xs ++ [y])))
theorem mt_append : MtM X "list.append" rAppend := by
  intro pins s σ H x vs v us Q I rx rv h
  obtain ⟨l, xs, y, rfl, rfl, hH, hz, q⟩ := h
  cases rx
  obtain ⟨u, rfl, ru⟩ := rv.one
  obtain ⟨z, its, n, r, hl, e⟩ := I.lstM hH
  refine call_meets F.slot_list_append ⟨_, e, rfl⟩ F.entry_list_append (F.args_list_append_2 _ _) (PySem.list_append l its.toArray n u (by rw [List.size_toArray]; omega)) ⟨e, ?_⟩
  refine ⟨.non, _, I.lset (its' := its ++ [u]) hH e (by simp) (r.append (.cons ru .nil)) ?_, rfl, q⟩
  rw [List.length_append, List.length_singleton]
  omega
def rExtend : V → List V → Hp → VK → Prop := fun x vs H Q => ∃ l b xs zs, x = .ref l ∧ vs = [.ref b] ∧ H l = some (.lst xs) ∧ H b = some (.lst zs) ∧ xs.length + zs.length ≤ sizeLine ∧ Q .non (upd H l (.lst (xs ++ zs)))
theorem mt_extend : MtM X "list.extend" rExtend := by
  intro pins s σ H x vs v us Q I rx rv h
  obtain ⟨l, b, xs, zs, rfl, rfl, hH, hB, hz, q⟩ := h
  cases rx
  obtain ⟨u, rfl, ru⟩ := rv.one
  cases ru
  obtain ⟨z, its, n, r, hl, e⟩ := I.lstM hH
  obtain ⟨z2, its2, n2, r2, hl2, e2⟩ := I.lstM hB
  have hsz : its.toArray.size + its2.toArray.size ≤ sizeLine := by rw [List.size_toArray, List.size_toArray]; omega
  have hlong : ¬ (!its.toArray.isEmpty && Builtin.List.listTooLong (its.toArray.size + its2.toArray.size)) = true := by
    rw [notLongL hsz, Bool.and_false]
    exact Bool.false_ne_true
  refine call_meets F.slot_list_extend ⟨_, e, rfl⟩ F.entry_list_extend (F.args_list_extend_2 _ _)
    (AutoSeq1.list_extend_list_list_0 l its.toArray n b its2.toArray n2 hlong (by rw [List.size_toArray]; omega) (by omega)) ⟨e, e2, ?_⟩
  refine ⟨.non, _, I.lset (its' := its ++ its2) hH e (by simp) (r.append r2) ?_, rfl, q⟩
  rw [List.length_append]
  omega
/-! ### list + list, list += list, list * int -/
def rCat : R2 := fun x y H Q => ∃ l b xs zs, x = .ref l ∧ y = .ref b ∧ H l = some (.lst xs) ∧ H b = some (.lst zs) ∧ xs.length + zs.length ≤ sizeLine ∧ ∀ p, H p = none → Q (.ref p) (upd H p (.lst (xs ++ zs)))
theorem op_cat : OpR X (binaryOp .Add) rCat := by
  intro pins s σ H x y v u Q I rx ry h
  obtain ⟨l, b, xs, zs, rfl, rfl, hH, hB, hz, q⟩ := h
  cases rx
  cases ry
  obtain ⟨z, its, n, r, hl, e⟩ := I.lstM hH
  obtain ⟨z2, its2, n2, r2, hl2, e2⟩ := I.lstM hB
  refine PySem.P.add_list e e2 ?_ (by rw [List.size_toArray, List.size_toArray]; omega)
  have ea : its.toArray ++ its2.toArray = (its ++ its2).toArray := by simp
  rw [ea]
  exact ⟨.ref _, _, I.lnew (t' := s.toks) (r.append r2) (by rw [List.length_append]; omega), rfl, q _ I.fresh⟩
/-! ### del xs[i] -/
end
/-! ### xs[a:b] = ys -/
section
variable {prog : Program} {w : World} {A : Around} {E : Value → Shared → Prop} {s : Shared}
set_option maxRecDepth 100000 in
end
section
variable {X : Cx}
end
end L2
namespace L2
open PySem PySem.Spec PyProof.Rows
/-! ### the library's walks over a list of ints, kept objects alone -/
section
variable {prog : Program} {w : World} {A : Around} {E : Value → Shared → Prop} {s : Shared} {l : Addr} {its : List Value} {ns : List Int} {Q : Value → Shared → Prop}
end
/-! ### the calls, by values (CallR of 03t; MtR of 06l) -/
section
variable {X : Cx}
/-! sorted, sort (fewer than 64 items: the library's own bound) -/
end
/-! ### list.index, flat items -/
section
variable {X : Cx}
end
/-! ### type(x) of an own instance; is, is not of a module's class -/
section
variable {X : Cx}
end
/-! ### any(xs), all(xs) of a list of bools -/
section
variable {X : Cx}
end
/-! ### == and != of data at any depth: none, bools, ints, texts, lists, tuples -/
mutual
inductive Dp (K : PySem.W.Frag) (H : Hp) : V → PyData → Prop
  | non : Dp K H .non .none
  | bl (b : Bool) : Dp K H (.bl b) (.bool b)
  | int (i : Int) : Dp K H (.int i) (.int i)
  | str (x : Str) : Dp K H (.str x) (.str x)
  | lst {a : Addr} {xs : List V} {ds : List PyData} : SqL K H a xs → DpAll K H xs ds → Dp K H (.ref a) (.list ds)
  | tup {a : Addr} {xs : List V} {ds : List PyData} : SqT K H a xs → DpAll K H xs ds → Dp K H (.ref a) (.tuple ds)
inductive DpAll (K : PySem.W.Frag) (H : Hp) : List V → List PyData → Prop
  | nil : DpAll K H [] []
  | cons {v : V} {vs : List V} {d : PyData} {ds : List PyData} : Dp K H v d → DpAll K H vs ds → DpAll K H (v :: vs) (d :: ds)
end
section
variable {X : Cx} {pins : List (Addr × Obj)} {σ : St} {H : Hp} {s : Shared}
mutual
theorem Dp.reads (I : Inv X pins σ H s) : ∀ (d : PyData) (v : V) (u : Value), Dp X.K H v d → RelV v u → ∃ as, Reads s.heap u d as
  | .none, _, _, h, r => by
    cases h
    cases r
    exact ⟨_, Reads.none⟩
  | .bool b, _, _, h, r => by
    cases h
    cases r
    exact ⟨_, Reads.bool b⟩
  | .int i, _, _, h, r => by
    cases h
    obtain ⟨t, rfl⟩ := r
    exact ⟨_, Reads.int i t⟩
  | .str x, _, _, h, r => by
    cases h
    obtain ⟨t, rfl⟩ := r
    exact ⟨_, Reads.str x t⟩
  | .list ds, _, _, h, r => by
    cases h with
    | lst hs ha =>
      cases r
      obtain ⟨its, rv, ⟨o, n, ho, hc, _, hd⟩, _⟩ := I.list hs
      obtain ⟨as, hr⟩ := Dp.readsAll I ds _ its ha rv
      exact ⟨_, Reads.list ho hc hd hr⟩
  | .tuple ds, _, _, h, r => by
    cases h with
    | tup hs ha =>
      cases r
      obtain ⟨its, rv, ⟨o, ho, hc, n, hd⟩, _⟩ := I.tuple hs
      obtain ⟨as, hr⟩ := Dp.readsAll I ds _ its ha rv
      exact ⟨_, Reads.tuple ho hc hd hr⟩
  | .dict _, _, _, h, _ => by cases h
theorem Dp.readsAll (I : Inv X pins σ H s) : ∀ (ds : List PyData) (vs : List V) (us : List Value), DpAll X.K H vs ds → Vals vs us → ∃ as, ReadsAll s.heap us ds as
  | [], _, _, h, r => by
    cases h
    cases r
    exact ⟨_, ReadsAll.nil⟩
  | d :: ds, _, _, h, r => by
    cases h with
    | cons h1 h2 =>
      cases r with
      | cons r1 r2 =>
        obtain ⟨as, q1⟩ := Dp.reads I d _ _ h1 r1
        obtain ⟨bs, q2⟩ := Dp.readsAll I ds _ _ h2 r2
        exact ⟨_, ReadsAll.cons q1 q2⟩
end
end
section
variable {X : Cx}
def rEqD (K : PySem.W.Frag) : R2 := fun x y H Q => ∃ d e, Dp K H x d ∧ Dp K H y e ∧ SeqAt.shaped d = true ∧ SeqAt.shaped e = true ∧ Q (.bl (PyData.eqv d e)) H
theorem op_eqD (hu : X.A.units + 64 < cLine) : OpR X (compareOp .Eq) (rEqD X.K) := by
  intro pins s σ H x y v u Q I rx ry h
  obtain ⟨d, e, hd, he, sd, se, q⟩ := h
  obtain ⟨as, r1⟩ := Dp.reads I d x v hd rx
  obtain ⟨bs, r2⟩ := Dp.reads I e y u he ry
  exact SeqAt.compareEq_shaped r1 r2 sd se hu ⟨.bl _, H, I, rfl, q⟩
end
end L2
namespace L2
open PySem PySem.Spec PyProof.Rows
abbrev CellAt (h : Heap) (c : Addr) (v : Option Value) : Prop := h.IsCell c v
def relS (scope sc : Scope) : Scope :=
  { scope with names := scope.names.map fun (n, k) => if (k == .free && sc.kind == .function && sc.names.lookup n == some .cell) then (n, .cell) else (n, k) }
def cloFrom (cells : List (Str × Addr)) : List (Str × NameKind) → List (Str × Addr) → List (Str × Addr)
  | [], acc => acc
  | (n, k) :: r, acc => if k == .free then cloFrom cells r ((n, (cells.lookup n).getD 0) :: acc) else cloFrom cells r acc
theorem closure_loop (env : Env) (f : Str × NameKind → List (Str × Addr) → Sem (ForInStep (List (Str × Addr))))
    (hf : ∀ n k c, f (n, k) c = if k == .free then (do let a ← cellOf env n; pure (.yield ((n, a) :: c))) else pure (.yield c)) :
    ∀ (names : List (Str × NameKind)) (acc : List (Str × Addr)), (∀ y ∈ names, y.2 = .free → ∃ c, env.cells.lookup y.1 = some c) → forIn names acc f = pure (cloFrom env.cells names acc)
  | [], acc, _ => by rw [List.forIn_nil]; rfl
  | (n, k) :: r, acc, h => by
    rw [List.forIn_cons, hf]
    have ih := fun acc => closure_loop env f hf r acc fun y hy => h y (List.mem_cons_of_mem _ hy)
    unfold cloFrom
    by_cases hk : (k == NameKind.free) = true
    · rw [if_pos hk, if_pos hk]
      obtain ⟨c, hc⟩ := h (n, k) List.mem_cons_self (by simpa using hk)
      have e : cellOf env n = pure c := by unfold cellOf; rw [hc]
      rw [e]
      have e2 : (env.cells.lookup n).getD 0 = c := by rw [hc]; rfl
      rw [e2]
      exact ih _
    · rw [if_neg hk, if_neg hk]
      exact ih _
theorem closure_ok {scope : Scope} {env : Env} (h : ∀ y ∈ scope.names, y.2 = .free → ∃ c, env.cells.lookup y.1 = some c) : closureFor scope env = pure (cloFrom env.cells scope.names []) := by
  simp only [closureFor]
  rw [closure_loop env _ (fun n k c => rfl) scope.names [] h]
  rfl
theorem mem_lookup {α : Type} : ∀ {l : List (Str × α)} {n : Str} {c : α}, (n, c) ∈ l → ∃ c', l.lookup n = some c'
  | (k, v) :: r, n, c, h => by
    rw [List.lookup_cons]
    cases hb : n == k with
    | true => exact ⟨_, rfl⟩
    | false =>
      rcases List.mem_cons.mp h with e | h
      · cases e; simp at hb
      · exact mem_lookup h
theorem cloFrom_mem {cells : List (Str × Addr)} : ∀ {names : List (Str × NameKind)} {acc : List (Str × Addr)} {n : Str} {c : Addr}, (n, c) ∈ cloFrom cells names acc → (n, c) ∈ acc ∨ ((n, .free) ∈ names ∧ c = (cells.lookup n).getD 0)
  | [], _, _, _, h => .inl h
  | (m, k) :: r, acc, n, c, h => by
    unfold cloFrom at h
    split at h
    · rename_i hk
      have hk : k = .free := by simpa using hk
      rcases cloFrom_mem h with h | ⟨h1, h2⟩
      · rcases List.mem_cons.mp h with e | h
        · cases e; exact .inr ⟨hk ▸ List.mem_cons_self, rfl⟩
        · exact .inl h
      · exact .inr ⟨List.mem_cons_of_mem _ h1, h2⟩
    · rcases cloFrom_mem h with h | ⟨h1, h2⟩
      · exact .inl h
      · exact .inr ⟨List.mem_cons_of_mem _ h1, h2⟩
theorem cloFrom_acc {cells : List (Str × Addr)} : ∀ {names : List (Str × NameKind)} {acc : List (Str × Addr)} {p : Str × Addr}, p ∈ acc → p ∈ cloFrom cells names acc
  | [], _, _, h => h
  | (m, k) :: r, acc, p, h => by
    unfold cloFrom
    split
    · exact cloFrom_acc (List.mem_cons_of_mem _ h)
    · exact cloFrom_acc h
theorem cloFrom_has {cells : List (Str × Addr)} : ∀ {names : List (Str × NameKind)} {acc : List (Str × Addr)} {n : Str}, (n, .free) ∈ names → (n, (cells.lookup n).getD 0) ∈ cloFrom cells names acc
  | (m, k) :: r, acc, n, h => by
    unfold cloFrom
    rcases List.mem_cons.mp h with e | h
    · cases e
      exact cloFrom_acc List.mem_cons_self
    · split
      · exact cloFrom_has h
      · exact cloFrom_has h
theorem cells_mem : ∀ {names : List (Str × NameKind)} {h : Heap} {acc : List (Str × Addr)} {x : Str} {c : Addr}, (x, c) ∈ cellsFrom h.objs.size names acc →
    (x, c) ∈ acc ∨ ((x, .cell) ∈ names ∧ h.objs.size ≤ c ∧ CellAt (pushCells h names) c none)
  | [], _, _, _, _, h => .inl h
  | (n, k) :: r, h, acc, x, c, hm => by
    unfold cellsFrom at hm
    unfold pushCells
    split at hm
    · rename_i hk
      rw [if_pos hk]
      have hk : k = .cell := by simpa using hk
      rw [← Heap.size_push h { cls := .type "cell", data := .cell none }] at hm
      rcases cells_mem hm with hm | ⟨h1, h2, h3⟩
      · rcases List.mem_cons.mp hm with e | hm
        · cases e
          exact .inr ⟨hk ▸ List.mem_cons_self, Nat.le_refl _, _, pushCells_keeps r _ _ _ (Heap.get?_push_size _ rfl), rfl⟩
        · exact .inl hm
      · rw [Heap.size_push] at h2
        exact .inr ⟨List.mem_cons_of_mem _ h1, Nat.le_of_succ_le h2, h3⟩
    · rename_i hk
      rw [if_neg hk]
      rcases cells_mem hm with hm | ⟨h1, h2, h3⟩
      · exact .inl hm
      · exact .inr ⟨List.mem_cons_of_mem _ h1, h2, h3⟩
theorem cells_acc : ∀ {names : List (Str × NameKind)} {n : Nat} {acc : List (Str × Addr)} {p : Str × Addr}, p ∈ acc → p ∈ cellsFrom n names acc
  | [], _, _, _, h => h
  | (m, k) :: r, n, acc, p, h => by
    unfold cellsFrom
    split
    · exact cells_acc (List.mem_cons_of_mem _ h)
    · exact cells_acc h
theorem cells_has : ∀ {names : List (Str × NameKind)} {n : Nat} {acc : List (Str × Addr)} {x : Str}, (x, .cell) ∈ names → ∃ c, (x, c) ∈ cellsFrom n names acc
  | (m, k) :: r, n, acc, x, h => by
    unfold cellsFrom
    rcases List.mem_cons.mp h with e | h
    · cases e
      exact ⟨n, cells_acc List.mem_cons_self⟩
    · split
      · exact cells_has h
      · exact cells_has h
theorem cells_inj : ∀ {names : List (Str × NameKind)} {h : Heap} {acc : List (Str × Addr)} {x y : Str} {c : Addr}, (∀ p ∈ acc, p.2 < h.objs.size) → (∀ x y c, (x, c) ∈ acc → (y, c) ∈ acc → x = y) →
    (x, c) ∈ cellsFrom h.objs.size names acc → (y, c) ∈ cellsFrom h.objs.size names acc → x = y
  | [], _, _, _, _, _, _, hi, h1, h2 => hi _ _ _ h1 h2
  | (n, k) :: r, h, acc, x, y, c, hl, hi, h1, h2 => by
    unfold cellsFrom at h1 h2
    split at h1
    · rename_i hk
      rw [if_pos hk] at h2
      rw [← Heap.size_push h { cls := .type "cell", data := .cell none }] at h1 h2
      refine cells_inj (h := h.push _) (fun p hp => ?_) (fun x y c a b => ?_) h1 h2
      · rw [Heap.size_push]
        rcases List.mem_cons.mp hp with rfl | hp
        · exact Nat.lt_succ_self _
        · exact Nat.lt_succ_of_lt (hl p hp)
      · rcases List.mem_cons.mp a with e | a <;> rcases List.mem_cons.mp b with e' | b
        · cases e; cases e'; rfl
        · cases e; exact absurd (hl _ b) (Nat.lt_irrefl _)
        · cases e'; exact absurd (hl _ a) (Nat.lt_irrefl _)
        · exact hi _ _ _ a b
    · rename_i hk
      rw [if_neg hk] at h2
      exact cells_inj hl hi h1 h2
theorem newEnv_comp {M : Model} {A : Around} {E : Value → Shared → Prop} {s : Shared} {scope : Scope} {globals : Addr} {closure : List (Str × Addr)} {qual : Str} {func : Option Addr} {code : Value} {around : Env} {builtins : Addr} {Q : Env → Shared → Prop}
    (h : Q (newEnv scope s.heap.objs.size globals (cellsFrom (s.heap.objs.size + 1) scope.names closure) qual func code (some around) builtins)
      { s with heap := pushCells (s.heap.push { cls := .type "dict", data := .dict #[] }) scope.names }) :
    wpAny M A (newFunctionEnv scope globals closure [] qual func code (some around) builtins) Q E s := by
  simp only [newFunctionEnv, Option.isSome_some, if_true]
  refine wpAny_bind (wpAny_alloc ?_)
  refine wpAny_bind (wpAny_layCells _ (fun n k c => rfl) scope.names closure _ _ ?_)
  rw [show ({ s with heap := s.heap.push { cls := .type "dict", data := .dict #[] } } : Shared).heap.objs.size = s.heap.objs.size + 1 from Heap.size_push ..]
  rw [List.forIn_nil]
  exact wpAny_bind (wpAny_pure (wpAny_pure h))
/-- every name of the written scope, in the scope that runs -/
theorem lookup_relS {sc : Scope} : ∀ {names : List (Str × NameKind)} {x : Str} {k : NameKind},
    (names.map fun (n, k) => if (k == NameKind.free && sc.kind == .function && sc.names.lookup n == some .cell) then (n, NameKind.cell) else (n, k)).lookup x = some k →
    ∃ k', names.lookup x = some k' ∧ (k = k' ∨ (k' = .free ∧ k = .cell))
  | [], _, _, h => by simp at h
  | (n, k₀) :: r, x, k, h => by
    have ih := @lookup_relS sc r x k
    have h' : List.lookup x ((if (k₀ == NameKind.free && sc.kind == .function && sc.names.lookup n == some .cell) = true then (n, NameKind.cell) else (n, k₀)) :: (r.map _)) = some k := h
    cases hx : x == n with
    | true =>
      simp only [List.lookup_cons, hx]
      by_cases hc : (k₀ == NameKind.free && sc.kind == .function && sc.names.lookup n == some .cell) = true
      · rw [if_pos hc] at h'
        simp only [List.lookup_cons, hx] at h'
        cases h'
        simp only [Bool.and_eq_true, beq_iff_eq] at hc
        exact ⟨k₀, rfl, .inr ⟨hc.1.1, rfl⟩⟩
      · rw [if_neg hc] at h'
        simp only [List.lookup_cons, hx] at h'
        cases h'
        exact ⟨_, rfl, .inl rfl⟩
    | false =>
      simp only [List.lookup_cons, hx]
      by_cases hc : (k₀ == NameKind.free && sc.kind == .function && sc.names.lookup n == some .cell) = true
      · rw [if_pos hc] at h'
        simp only [List.lookup_cons, hx] at h'
        exact ih h'
      · rw [if_neg hc] at h'
        simp only [List.lookup_cons, hx] at h'
        exact ih h'
/-- the names of a comprehension's block: its own (with their places in N), or captured -/
structure BlkOk (N : List Str) (sc scope : Scope) (own : List (Str × Nat)) : Prop where
  kind : scope.kind = .function
  uniq : ∀ y ∈ scope.names, scope.names.lookup y.1 = some y.2
  ix : ∀ p ∈ own, N[p.2]? = some p.1
  free : ∀ y ∈ scope.names, y.2 = .free → sc.names.lookup y.1 = some .cell ∨ sc.names.lookup y.1 = some .free
  own : ∀ y ∈ scope.names, y.2 = .local ∨ y.2 = .cell → y.1 ∈ own.map (·.1) ∨ y.1 ∉ N
/-- the slots of the block's own names forgotten -/
def wipe (σ : St) : List Nat → St
  | [] => σ
  | v :: vs => (wipe σ vs).set v none
theorem wipe_length (σ : St) : ∀ vs : List Nat, (wipe σ vs).length = σ.length
  | [] => rfl
  | v :: vs => by unfold wipe; rw [List.length_set, wipe_length σ vs]
theorem wipe_some {σ : St} {i : Nat} {x : V} : ∀ {vs : List Nat}, (wipe σ vs)[i]? = some (some x) → σ[i]? = some (some x) ∧ i ∉ vs
  | [], h => ⟨h, by simp⟩
  | v :: vs, h => by
    unfold wipe at h
    by_cases hi : v = i
    · subst hi
      by_cases hv : v < (wipe σ vs).length
      · rw [List.getElem?_set_self hv] at h; cases h
      · rw [List.getElem?_eq_none (by simpa using hv)] at h; cases h
    · rw [List.getElem?_set_ne hi] at h
      obtain ⟨h1, h2⟩ := wipe_some h
      exact ⟨h1, by simp only [List.mem_cons, not_or]; exact ⟨fun e => hi e.symm, h2⟩⟩
/-- the context of a block that starts at s, its iterator's objects at fp -/
abbrev Cx.blk (X : Cx) (s : Shared) (H : Hp) (scope : Scope) (cenv : Env) (fp : List Addr) : Cx := { X with s_0 := s, H_0 := H, env := cenv, outer := X.stack, ex := fp, fn := fun x => scope.names.lookup x == some .cell, pn := [], xe := fun _ _ => False }
section
variable {X : Cx} {pins : List (Addr × Obj)} {σ : St} {H : Hp} {s : Shared}
theorem block_start {scope : Scope} {own : List (Str × Nat)} {fp : List Addr} (I : Inv X pins σ H s) (ok : BlkOk X.N X.env.scope scope own) (hN : X.N.Nodup) (hfp : ∀ b ∈ fp, FpOk X pins H b ∧ b < s.heap.objs.size) :
    Inv (X.blk s H scope (compEnvC scope (cellsFrom (s.heap.objs.size + 1) scope.names (cloFrom X.env.cells scope.names [])) s.heap.objs.size X.env) fp) [] (wipe σ (own.map (·.2))) H { s with heap := pushCells (s.heap.push { cls := .type "dict", data := .dict #[] }) scope.names } := by
  have hfree : ∀ y ∈ scope.names, y.2 = .free → ∃ c, X.env.cells.lookup y.1 = some c := fun y hy e => by
    rcases ok.free y hy e with k | k
    · exact I.ok.has _ (.inl k)
    · exact I.ok.has _ (.inr k)
  generalize hcenv : compEnvC scope (cellsFrom (s.heap.objs.size + 1) scope.names (cloFrom X.env.cells scope.names [])) s.heap.objs.size X.env = cenv
  have kp : ∀ b o, s.heap.get? b = some o → (pushCells (s.heap.push { cls := .type "dict", data := .dict #[] }) scope.names).get? b = some o := fun b o e => pushCells_keeps _ _ _ _ (Heap.get?_push_of_some _ e)
  have hL : cenv.locals = s.heap.objs.size := by rw [← hcenv]; rfl
  have hcl : cenv.cells = cellsFrom (s.heap.objs.size + 1) scope.names (cloFrom X.env.cells scope.names []) := by rw [← hcenv]; rfl
  have hsc : cenv.scope = relS scope X.env.scope := by rw [← hcenv]; rfl
  rw [← Heap.size_push s.heap { cls := .type "dict", data := .dict #[] }] at hcl
  have cm : ∀ {y c}, (y, c) ∈ cloFrom X.env.cells scope.names [] → X.env.cells.lookup y = some c ∧ c < s.heap.objs.size := fun {y c} hm => by
    rcases cloFrom_mem hm with hm | ⟨h1, rfl⟩
    · cases hm
    · obtain ⟨c, hc⟩ := hfree _ h1 rfl
      rw [hc]
      obtain ⟨w, z⟩ := I.cell _ _ hc
      exact ⟨rfl, z.lt⟩
  have mem : ∀ {y c}, cenv.cells.lookup y = some c → (X.env.cells.lookup y = some c ∧ c < s.heap.objs.size) ∨ (s.heap.objs.size + 1 ≤ c ∧ CellAt (pushCells (s.heap.push { cls := .type "dict", data := .dict #[] }) scope.names) c none) := fun {y c} e => by
    rw [hcl] at e
    rcases cells_mem (PySem.mem_of_lookup e) with hm | ⟨_, h2, h3⟩
    · exact .inl (cm hm)
    · rw [Heap.size_push] at h2; exact .inr ⟨h2, h3⟩
  have look : ∀ {y}, scope.names.lookup y = some .free → ∃ c, cenv.cells.lookup y = some c ∧ X.env.cells.lookup y = some c := fun {y} hl => by
    have hy : (y, NameKind.free) ∈ scope.names := PySem.mem_of_lookup hl
    obtain ⟨c', e'⟩ := mem_lookup (cells_acc (names := scope.names) (n := (s.heap.push { cls := .type "dict", data := .dict #[] }).objs.size) (cloFrom_has (cells := X.env.cells) (acc := []) hy))
    rw [← hcl] at e'
    refine ⟨c', e', ?_⟩
    rw [hcl] at e'
    rcases cells_mem (PySem.mem_of_lookup e') with hm | ⟨h1, _, _⟩
    · exact (cm hm).1
    · have := ok.uniq _ h1
      rw [hl] at this; cases this
  have okB : (X.blk s H scope cenv fp).Ok := by
    refine ⟨I.ok.mod, by show cenv.scope.kind = _; rw [hsc]; exact ok.kind, by show cenv.globals = _; rw [← hcenv]; exact I.ok.glob, by show cenv.builtins = _; rw [← hcenv]; exact I.ok.blt, by show s.heap.objs.size ≤ cenv.locals; rw [hL]; exact Nat.le_refl _,
      fun y z c e1 e2 => ?_, fun y hy => ?_, fun y c z e => ?_, I.ok.hd, I.ok.frames, .inl rfl, fun b hb => ⟨?_, fun y c e z => ?_⟩, I.bs, Nat.le_trans I.ok.bsz I.sz, fun b o e hb => ?_, fun b hb z => ?_, I.stack, I.stkFree⟩
    · have e1 : cenv.cells.lookup y = some c := e1
      have e2 : cenv.cells.lookup z = some c := e2
      rw [hcl] at e1 e2
      refine cells_inj (fun p hp => ?_) (fun y z c a b => I.ok.inj y z c (cm a).1 (cm b).1) (PySem.mem_of_lookup e1) (PySem.mem_of_lookup e2)
      rw [Heap.size_push]
      exact Nat.lt_succ_of_lt (cm (y := p.1) (c := p.2) hp).2
    · show ∃ c, cenv.cells.lookup y = some c
      have key : ∀ k, cenv.kindOf y = some k → (k = .cell ∨ k = .free) → ∃ c, cenv.cells.lookup y = some c := fun k hk hk' => by
        unfold Env.kindOf at hk
        rw [hsc] at hk
        obtain ⟨k', e, r⟩ := lookup_relS hk
        have : k' = .cell ∨ k' = .free := by
          rcases r with rfl | ⟨rfl, _⟩
          · exact hk'
          · exact .inr rfl
        rcases this with rfl | rfl
        · obtain ⟨c, hm⟩ := cells_has (n := (s.heap.push { cls := .type "dict", data := .dict #[] }).objs.size) (acc := cloFrom X.env.cells scope.names []) (PySem.mem_of_lookup e)
          obtain ⟨c', e'⟩ := mem_lookup hm
          exact ⟨c', by rw [hcl]; exact e'⟩
        · obtain ⟨c, h1, _⟩ := look e
          exact ⟨c, h1⟩
      rcases hy with hy | hy
      · exact key _ hy (.inl rfl)
      · exact key _ hy (.inr rfl)
    · have z : (scope.names.lookup y == some NameKind.cell) = true := z
      have z : scope.names.lookup y = some .cell := by simpa using z
      have e : cenv.cells.lookup y = some c := e
      rw [hcl] at e
      rcases cells_mem (PySem.mem_of_lookup e) with hm | ⟨_, h2, _⟩
      · rcases cloFrom_mem hm with hm | ⟨h1, _⟩
        · cases hm
        · have q := ok.uniq _ h1
          rw [z] at q; cases q
      · rw [Heap.size_push] at h2
        exact Nat.le_of_succ_le h2
    · show b ≠ cenv.locals
      rw [hL]; exact Nat.ne_of_lt (hfp b hb).2
    · have e : cenv.cells.lookup y = some c := e
      rcases mem e with ⟨h1, _⟩ | ⟨h1, _⟩
      · exact (hfp b hb).1.2.2.2.2.1 y c h1 z
      · have h2 : s.heap.objs.size + 1 ≤ b := by rw [← z]; exact h1
        exact absurd (Nat.lt_of_lt_of_le (hfp b hb).2 (Nat.le_of_succ_le h2)) (Nat.lt_irrefl _)
    · rcases (hfp b hb).1.2.2.2.1 with z | z
      · exact I.ok.noex b o e z
      · exact absurd (Nat.lt_of_lt_of_le (Heap.lt_size e) (Nat.le_trans I.ok.bsz z)) (Nat.lt_irrefl _)
    · rcases List.mem_cons.mp (I.stkSub b z) with z | z
      · exact (hfp b hb).1.2.1 z
      · exact (hfp b hb).1.2.2.1 z
  refine ⟨okB, rfl, I.bare, Un.kept kp, ⟨fun _ => none, ?_, fun i y av e1 e2 e3 => ?_⟩, fun y c e => ?_, ?_, fun y c e => ?_, fun p hp => ?_, I.hok.kept kp, by rw [wipe_length]; exact I.len⟩
  · show Heap.Ns _ cenv.locals _
    rw [hL]
    exact Heap.Ns.keeps (Heap.Ns.new ..) fun b o e => pushCells_keeps _ _ _ _ e
  · obtain ⟨e2, hne⟩ := wipe_some e2
    have hfr : scope.names.lookup y = some .free ∧ (cenv.kindOf y = some .cell ∨ cenv.kindOf y = some .free) := by
      have key : ∀ k, cenv.scope.names.lookup y = some k → k = .local ∨ k = .cell ∨ k = .free → scope.names.lookup y = some .free ∧ (cenv.kindOf y = some .cell ∨ cenv.kindOf y = some .free) := fun k hk hk' => by
        have hk0 := hk
        rw [hsc] at hk
        obtain ⟨k', e, r⟩ := lookup_relS hk
        have no : ¬ (k' = .local ∨ k' = .cell) := fun hh => by
          rcases ok.own _ (PySem.mem_of_lookup e) hh with e' | e'
          · obtain ⟨p, hp, hpy⟩ := List.mem_map.mp e'
            have e3 := ok.ix p hp
            have : p.1 = y := hpy
            rw [this] at e3
            exact hne (List.mem_map.mpr ⟨p, hp, nodup_ix hN e3 e1⟩)
          · exact e' (List.mem_of_getElem? e1)
        rcases r with rfl | ⟨rfl, rfl⟩
        · rcases hk' with rfl | rfl | rfl
          · exact absurd (.inl rfl) no
          · exact absurd (.inr rfl) no
          · exact ⟨e, .inr hk0⟩
        · exact ⟨e, .inl hk0⟩
      have e3 : Vis cenv.scope y := e3
      rcases e3 with e3 | e3 | e3
      · exact key _ e3 (.inl rfl)
      · exact key _ e3 (.inr (.inl rfl))
      · exact key _ e3 (.inr (.inr rfl))
    obtain ⟨m, hn, hl⟩ := I.loc
    have hvis : Vis X.env.scope y := (ok.free _ (PySem.mem_of_lookup hfr.1) rfl).elim (fun k => .inr (.inl k)) (fun k => .inr (.inr k))
    obtain ⟨w, r, q⟩ := hl i y av e1 e2 hvis
    refine ⟨w, r, .inr ⟨hfr.2, ?_⟩⟩
    obtain ⟨c, h1, h2⟩ := look hfr.1
    rcases q with ⟨k, _⟩ | ⟨_, c', e', z⟩
    · have k : X.env.scope.names.lookup y = some .local := k
      rcases ok.free _ (PySem.mem_of_lookup hfr.1) rfl with k' | k' <;> rw [show X.env.scope.names.lookup y = _ from k'] at k <;> cases k
    · rw [h2] at e'; cases e'
      exact ⟨c, h1, z.keeps kp⟩
  · have e : cenv.cells.lookup y = some c := e
    rcases mem e with ⟨h1, _⟩ | ⟨_, z⟩
    · obtain ⟨w, z⟩ := I.cell y c h1
      exact ⟨w, z.keeps kp⟩
    · exact ⟨_, z⟩
  · show H cenv.locals = none
    rw [hL]; exact I.hok.fresh (Nat.le_refl _)
  · have e : cenv.cells.lookup y = some c := e
    rcases mem e with ⟨h1, _⟩ | ⟨h1, _⟩
    · exact I.freeC y c h1
    · exact I.hok.fresh (Nat.le_of_succ_le h1)
  · exact absurd (show p ∈ ([] : List (Addr × Obj)) ++ [] from hp) (by simp)
/-- an item appended to a tracked list -/
theorem app_ok {E : Value → Shared → Prop} {D : Addr} {xs : List V} {y : V} {v : Value} {Q : Value → Shared → Prop} (I : Inv X pins σ H s) (hD : H D = some (.lst xs)) (hz : xs.length < sizeLine) (r : RelV y v)
    (h : ∀ s', Inv X pins σ (upd H D (.lst (xs ++ [y]))) s' → Q .none s') : wpAny (model X.prog X.w) X.A (call (.builtin "list.append") [.ref D, v]) Q E s := by
  obtain ⟨hz', its, n, ri, e⟩ := I.hok D _ hD
  have hl := ri.length
  refine append_at (hsz := by rw [List.size_toArray]; omega) e fun h' sb ho' => ?_
  refine h { s with heap := h' } (I.write (t' := s.toks) (by rw [hD]; trivial) (.inl rfl) (fun b u hb q => (sb.2 b hb).trans q) ⟨_, ho'⟩ ⟨by rw [List.length_append]; exact hz, its ++ [v], n + 1, ri.append (.cons r .nil), ?_⟩)
  rw [ho']
  simp
/-- a clause's tests -/
def PTs (X : Cx) (ifs : List Expr) (t : TT) : Prop :=
  ∀ (pins : List (Addr × Obj)) (s : Shared) (σ : St) (H : Hp) (Q : Bool → Hp → Prop), Inv X pins σ H s → t σ H Q →
    wpAny (model X.prog X.w) X.A (forIn ifs true fun c r => if r = true then do let ok ← isTrue c X.env (eval c X.env); pure (ForInStep.yield ok) else pure (ForInStep.yield r)) (TP X pins σ Q) X.xe s
def tYes : TT := fun _ H Q => Q true H
theorem pts_nil : PTs X [] tYes := fun _ _ _ H _ I h => wpAny_tests_nil ⟨H, I, h⟩
theorem pts_one {c : Expr} {t : TT} (h : PT X c t) : PTs X [c] t := fun pins s σ H Q I hw => wpAny_tests_one (h pins s σ H Q I hw)
end
theorem thnF {α : Type} {t : Sem α} {Q Q' : α → Shared → Prop} {M : Model} {A : Around} {E : Value → Shared → Prop} {s : Shared} (h : wpAny M A t Q (fun _ _ => False) s) (hQ : ∀ a s, Q a s → Q' a s) : wpAny M A t Q' E s := wpAny_mono h hQ fun _ _ z => False.elim z
/-- the loop of a list comprehension's block, the target of any form (codeAny_compLoop_tests asks a target that no tuple goes to; statement and proof follow it, PyProof/CompMap.lean:41-61, with the step letOwnedTupleGo kept) -/
theorem compLoop_any {prog : Program} {w : World} {A : Around} {R : Result → Shared → Prop} {s : Shared} {elt target iter : Expr} {ifs : List Expr} {scope : Scope} {pos : Pos} {it acc : Value} {env : Env} (I : Nat → Shared → Prop)
    (turn : ∀ n s, I n s → wpAny (model prog w) A (pyNext it) (fun r s₁ => match r with
      | none => R (.ok .next) s₁
      | some v => wpAny (model prog w) A (letOwnedTupleGo target it v) (fun _ s₁' => wpAny (model prog w) A (assign target env v) (fun _ s₂ =>
          wpAny (model prog w) A (forIn ifs true fun c r => if r = true then do let ok ← isTrue c env (eval c env); pure (ForInStep.yield ok) else pure (ForInStep.yield r)) (fun ok s₃ =>
            if ok = true then wpAny (model prog w) A (eval elt env) (fun x s₄ =>
              wpAny (model prog w) A (call (.builtin "list.append") [acc, x]) (fun _ s₅ => ∃ m, m < n ∧ I m s₅) (notedBy (model prog w) A env fun e s' => R (.error e) s') s₄) (notedBy (model prog w) A env fun e s' => R (.error e) s') s₃
            else ∃ m, m < n ∧ I m s₃) (notedBy (model prog w) A env fun e s' => R (.error e) s') s₂) (notedBy (model prog w) A env fun e s' => R (.error e) s') s₁') (notedBy (model prog w) A env fun e s' => R (.error e) s') s₁) (notedBy (model prog w) A env fun e s' => R (.error e) s') s)
    (n : Nat) (h : I n s) :
    codeAny (model prog w) A (.compLoop (.ListComp elt [⟨target, iter, ifs, 0⟩] scope pos) 0 it acc env) R s := by
  refine codeAny_loop rfl I (fun n s hI => ?_) n h
  show wpAny _ A ((compTurn (.ListComp elt [⟨target, iter, ifs, 0⟩] scope pos) 0 it acc env).onRaise (fun x => do noteFrame x env; theTreesLotGoes x)) _ _ s
  refine wpAny_noted ?_
  rw [compTurn_list]
  refine wpAny_bind (wpAny_standAt (wpAny_bind (wpAny_mono (turn n s hI) (fun r s₁ h₁ => ?_) fun _ _ h' => h')))
  cases r with
  | none => exact wpAny_pure h₁
  | some v =>
    refine wpAny_bind (wpAny_mono h₁ (fun _ s₁' h₁' => ?_) fun _ _ h' => h')
    refine wpAny_bind (wpAny_mono h₁' (fun _ s₂ h₂ => wpAny_bind (wpAny_mono h₂ (fun ok s₃ h₃ => ?_) fun _ _ h' => h')) fun _ _ h' => h')
    cases ok with
    | false => exact wpAny_pure ⟨rfl, h₃⟩
    | true =>
      exact wpAny_bind (wpAny_bind (wpAny_mono h₃ (fun x s₄ h₄ => wpAny_bind (wpAny_mono h₄ (fun _ s₅ h₅ => wpAny_pure (wpAny_pure ⟨rfl, h₅⟩)) fun _ _ h' => h')) fun _ _ h' => h'))
section
variable {X : Cx}
/-- [elt for target in iter if ..]: D the new list; W by the turn and a measure, Nx what a turn is to reach -/
def tLc (wi : TI) (g : TG) (tt : TT) (te : TE) (vs : List Nat) : TE := fun σ H Q => wi σ H fun J H1 => ∀ D, H1 D = none → ∃ W : Nat → Nat → Hp → Prop, (∃ m, W 0 m (upd H1 D (.lst []))) ∧ ∀ i m H, W i m H →
  (J.stop i H ∧ Q (.ref D) H) ∨ (J.go i H ∧ ∃ Nx : Hp → Prop, (∀ H', Nx H' → ∃ m', m' < m ∧ W (i + 1) m' H') ∧ ∀ x H', J.yld i H x H' → g x (wipe σ vs) H' fun σ2 H2 => wipe σ2 vs = wipe σ vs ∧ tt σ2 H2 fun b H3 =>
    if b = true then te σ2 H3 fun y H4 => ∃ acc, H4 D = some (.lst acc) ∧ acc.length < sizeLine ∧ Nx (upd H4 D (.lst (acc ++ [y]))) else Nx H3)
theorem lc_core {pins : List (Addr × Obj)} {s : Shared} {σ : St} {H : Hp} {Q : VK} {elt tg iter : Expr} {ifs : List Expr} {scope : Scope} {own : List (Str × Nat)} {pos pos' : Pos} {wi : TI} {g : TG} {tt : TT} {te : TE} {use : Option (Value → Sem Unit)} {Qf : Value → Shared → Prop}
    (hc : X.calm = true) (hN : X.N.Nodup) (I : Inv X pins σ H s) (hi : PI X tg iter wi) (ok : BlkOk X.N X.env.scope scope own)
    (hg : ∀ (s : Shared) (H : Hp) (C : Addr) (cl : List (Str × Addr)) (fp : List Addr), PG (X.blk s H scope (compEnvC scope cl C X.env) fp) tg g) (ht : ∀ (s : Shared) (H : Hp) (C : Addr) (cl : List (Str × Addr)) (fp : List Addr), PTs (X.blk s H scope (compEnvC scope cl C X.env) fp) ifs tt)
    (he : ∀ (s : Shared) (H : Hp) (C : Addr) (cl : List (Str × Addr)) (fp : List Addr), PE (X.blk s H scope (compEnvC scope cl C X.env) fp) elt te) (hs : ∀ x, foldedSetIterable iter X.env x = pure x)
    (h : tLc wi g tt te (own.map (·.2)) σ H Q)
    (hRR : ∀ D C s' m H', Inv X pins σ H' s' → Q (.ref D) H' → s'.heap.Ns C m → FpOk X pins H' C → compPost (model X.prog X.w) X.A X.xe use Qf (.ref D) C (.ok .next) s') :
    wpAny (model X.prog X.w) X.A (comprehension (.ListComp elt [⟨tg, iter, ifs, 0⟩] scope pos) scope X.env pos' (newList []) false (eval iter X.env) use) Qf X.xe s := by
  have hfree : ∀ y ∈ scope.names, y.2 = .free → ∃ c, X.env.cells.lookup y.1 = some c := fun y hy e => by
    rcases ok.free y hy e with k | k
    · exact I.ok.has _ (.inl k)
    · exact I.ok.has _ (.inr k)
  refine wpAny_comprehension_free (use := use) rfl hs (closure_ok hfree) ok.kind (fun y hy e => by rw [ok.uniq y hy, e])
    (thn (hi pins s σ H _ I h) fun xv s1 hx => thn hx fun itv s2 h2 => ?_)
  obtain ⟨it, fp, tn, J, H2, e, I2, T, st2, f2, q⟩ := h2
  subst e
  refine wpAny_newObj_type (newEnv_comp ?_) (by show 0 ≤ sizeLine; decide)
  generalize hD : s2.heap.objs.size = D
  have hDn : H2 D = none := I2.hok.fresh (Nat.le_of_eq hD)
  obtain ⟨W, ⟨m0, w0⟩, turn⟩ := q D hDn
  -- the new list
  generalize hs3 : ({ s2 with heap := s2.heap.push { cls := .type "list", data := .seq ([] : List Value).toArray } } : Shared) = s3
  have I3 : Inv X pins σ (upd H2 D (.lst [])) s3 := by
    rw [← hs3]
    refine I2.laid (t' := s2.toks) (fun b o e => Heap.get?_push_of_some _ e) (Nat.le_of_eq hD) ⟨Nat.zero_le _, [], 0, .nil, ?_⟩
    rw [← hD]
    exact Heap.get?_push_size _ rfl
  have h3 : s3.heap = s2.heap.push { cls := .type "list", data := .seq ([] : List Value).toArray } := by rw [← hs3]
  have sz : ∀ b ∈ fp, b < s2.heap.objs.size := fun b hb => by
    obtain ⟨o, e, _⟩ := T.obj _ _ st2 b hb
    exact Heap.lt_size e
  have f3 : ∀ b ∈ fp, FpOk X pins (upd H2 D (.lst [])) b ∧ b < s3.heap.objs.size := fun b hb => by
    have hlt := sz b hb
    refine ⟨⟨?_, (f2 b hb).2⟩, by rw [h3, Heap.size_push]; exact Nat.lt_succ_of_lt hlt⟩
    rw [upd_ne (by rw [← hD]; exact Nat.ne_of_lt hlt)]
    exact (f2 b hb).1
  have st3 : tn 0 s3.heap := T.keep _ _ _ st2 fun b _ o e => by rw [h3]; exact Heap.get?_push_of_some _ e
  have I4 := block_start I3 ok hN f3
  have pg := hg s3 (upd H2 D (.lst [])) s3.heap.objs.size (cellsFrom (s3.heap.objs.size + 1) scope.names (cloFrom X.env.cells scope.names [])) fp
  have pt := ht s3 (upd H2 D (.lst [])) s3.heap.objs.size (cellsFrom (s3.heap.objs.size + 1) scope.names (cloFrom X.env.cells scope.names [])) fp
  have pe := he s3 (upd H2 D (.lst [])) s3.heap.objs.size (cellsFrom (s3.heap.objs.size + 1) scope.names (cloFrom X.env.cells scope.names [])) fp
  show codeAny _ _ (.compStart (.ListComp elt [⟨tg, iter, ifs, 0⟩] scope pos) 0 (.ref it) (.ref D) (compEnvC scope (cellsFrom (s3.heap.objs.size + 1) scope.names (cloFrom X.env.cells scope.names [])) s3.heap.objs.size X.env)) (compPost (model X.prog X.w) X.A X.xe use Qf (.ref D) s3.heap.objs.size) { s3 with heap := pushCells (s3.heap.push { cls := .type "dict", data := .dict #[] }) scope.names }
  have nfp : ∀ b ∈ fp, (upd H2 D (.lst [])) b = none := fun b hb => (f3 b hb).1.1
  generalize hce : compEnvC scope (cellsFrom (s3.heap.objs.size + 1) scope.names (cloFrom X.env.cells scope.names [])) s3.heap.objs.size X.env = ce at I4 pg pt pe ⊢
  have cL : ce.locals = s3.heap.objs.size := by subst hce; rfl
  generalize hH3 : upd H2 D (.lst []) = H3 at I3 I4 pg pt pe w0 nfp f3
  generalize hs4 : ({ s3 with heap := pushCells (s3.heap.push { cls := .type "dict", data := .dict #[] }) scope.names } : Shared) = s4 at I4 ⊢
  have st4 : tn 0 s4.heap := T.keep _ _ _ st3 fun b _ o e => by rw [← hs4]; exact pushCells_keeps _ _ _ _ (Heap.get?_push_of_some _ e)
  have stat : ∀ {σ' : St} {H' : Hp} {s' : Shared}, Inv (X.blk s3 H3 scope ce fp) [] σ' H' s' → (∀ b ∈ fp, H' b = none) → ∀ b ∈ fp, FpOk (X.blk s3 H3 scope ce fp) [] H' b := fun {σ' H' s'} I' hn b hb =>
    ⟨hn b hb, (I'.ok.exf b hb).1, I'.ok.exfs b hb, .inl hb, fun x c e => (I'.ok.exf b hb).2 x c e, fun p hp => absurd (show p ∈ ([] : List (Addr × Obj)) ++ [] from hp) (by simp)⟩
  have loop : codeAny (model X.prog X.w) X.A (.compLoop (.ListComp elt [⟨tg, iter, ifs, 0⟩] scope pos) 0 (.ref it) (.ref D) ce) (compPost (model X.prog X.w) X.A X.xe use Qf (.ref D) s3.heap.objs.size) s4 := by
    refine compLoop_any (fun n s' => ∃ i H', Inv (X.blk s3 H3 scope ce fp) [] (wipe σ (own.map (·.2))) H' s' ∧ tn i s'.heap ∧ (∀ b ∈ fp, H' b = none) ∧ W i n H') ?_ m0 ⟨0, H3, I4, st4, nfp, w0⟩
    rintro n s5 ⟨i, H5, I5, st5, n5, w5⟩
    rcases turn i n H5 w5 with ⟨stop, qq⟩ | ⟨go, Nx, hNx, step⟩
    · have td := T.done (X.blk s3 H3 scope ce fp) rfl rfl rfl hc i [] s5 _ H5 (fun _ _ => False) I5 (stat I5 n5) st5 stop
      refine thnF td fun r s6 ⟨hr, I6⟩ => ?_
      subst hr
      -- back in the def's context
      have I7 : Inv X pins σ H5 s6 := I3.call' (ch := fp) I6.os I6.base I6.hok I6.bare fun b hb => ⟨(f3 b hb).1.2.2.2.1, (f3 b hb).1.2.1, (f3 b hb).1.2.2.2.2.1, (f3 b hb).1.2.2.2.2.2⟩
      have nC : H5 s3.heap.objs.size = none := by
        have z : H5 ce.locals = none := I6.free
        rw [cL] at z
        exact z
      obtain ⟨m, hn, _⟩ := I6.loc
      have hn : s6.heap.Ns ce.locals m := hn
      rw [cL] at hn
      exact hRR D s3.heap.objs.size s6 m H5 I7 qq hn (I3.fpOk (Nat.le_refl _) nC)
    · have ti := T.item (X.blk s3 H3 scope ce fp) rfl rfl rfl hc i [] s5 _ H5 (fun _ _ => False) I5 (stat I5 n5) st5 go
      refine thnF ti fun r s6 ⟨u, hr, h6⟩ => ?_
      subst hr
      refine thnF h6 fun _ s7 ⟨x, H7, I7, r7, y7, st7, n7⟩ => ?_
      have I7' := I7.pinned (stat I7 n7) (T.obj _ _ st7)
      refine thnF (pg _ s7 _ H7 x u _ I7' r7 (step x H7 y7)) fun _ s8 ⟨σ8, H8, I8, hw8, q8⟩ => ?_
      refine thnF (pt _ s8 σ8 H8 _ I8 q8) fun b s9 ⟨H9, I9, q9⟩ => ?_
      -- the turn's end
      have fin : ∀ {s' : Shared} {H' : Hp}, Inv (X.blk s3 H3 scope ce fp) ([] ++ pinsAt fp s7.heap) σ8 H' s' → Nx H' → ∃ m, m < n ∧ ∃ i H', Inv (X.blk s3 H3 scope ce fp) [] (wipe σ (own.map (·.2))) H' s' ∧ tn i s'.heap ∧ (∀ b ∈ fp, H' b = none) ∧ W i m H' := fun {s' H'} I' nx => by
        obtain ⟨m', hm, w'⟩ := hNx H' nx
        have pin' : ∀ b ∈ fp, ∀ o, s7.heap.get? b = some o → s'.heap.get? b = some o ∧ H' b = none := fun b hb o e =>
          let z := I'.pin (b, o) (List.mem_append_right _ (List.mem_append_right _ (mem_pinsAt hb e)))
          ⟨z.1, z.2.1⟩
        have hl : (wipe σ (own.map (·.2))).length = σ8.length := by rw [← hw8, wipe_length]
        refine ⟨m', hm, i + 1, H', (I'.unpinned (pins := [])).weak hl (fun j v e => ?_), T.keep _ _ _ st7 fun b hb o e => (pin' b hb o e).1, fun b hb => ?_, w'⟩
        · rw [← hw8] at e
          exact (wipe_some e).1
        · obtain ⟨o, e, _⟩ := T.obj _ _ st7 b hb
          exact (pin' b hb o e).2
      cases b with
      | false =>
        simp only [Bool.false_eq_true, if_false] at q9 ⊢
        exact fin I9 q9
      | true =>
        simp only [if_true] at q9 ⊢
        refine thnF (pe _ s9 σ8 H9 _ I9 q9) fun z s10 ⟨yv, H10, I10, r10, acc, hD10, hz10, nx⟩ => ?_
        exact app_ok (X := X.blk s3 H3 scope ce fp) I10 hD10 hz10 r10 fun s11 I11 => fin I11 nx
  exact codeAny_compStart_list loop (T.self X.A 0 _ _ _ st4 loop)
/-- as a value -/
theorem pe_lc {elt tg iter : Expr} {ifs : List Expr} {scope : Scope} {own : List (Str × Nat)} {pos : Pos} {wi : TI} {g : TG} {tt : TT} {te : TE} (hc : X.calm = true) (hN : X.N.Nodup) (hi : PI X tg iter wi) (ok : BlkOk X.N X.env.scope scope own)
    (hg : ∀ (s : Shared) (H : Hp) (C : Addr) (cl : List (Str × Addr)) (fp : List Addr), PG (X.blk s H scope (compEnvC scope cl C X.env) fp) tg g) (ht : ∀ (s : Shared) (H : Hp) (C : Addr) (cl : List (Str × Addr)) (fp : List Addr), PTs (X.blk s H scope (compEnvC scope cl C X.env) fp) ifs tt)
    (he : ∀ (s : Shared) (H : Hp) (C : Addr) (cl : List (Str × Addr)) (fp : List Addr), PE (X.blk s H scope (compEnvC scope cl C X.env) fp) elt te) (hs : ∀ x, foldedSetIterable iter X.env x = pure x := by intro _; rfl) :
    PE X (.ListComp elt [⟨tg, iter, ifs, 0⟩] scope pos) (tLc wi g tt te (own.map (·.2))) := by
  intro pins s σ H Q I h
  rw [eval_ListComp]
  refine lc_core hc hN I hi ok hg ht he hs h fun D C s' m H' I' q hn f => ⟨m, hn, fun h'' sb => ?_⟩
  obtain ⟨f0, f1, f2, f3, f4, f5⟩ := f
  exact ⟨.ref D, H', I'.turned (t' := s'.toks) (fun b o hb e => (sb.2 b hb).trans e) f0 f1 f3 f4 f5, rfl, q⟩
end
/-! ### the forms one uses -/
/-- over a range: Pv by the turn and the heap (the new list at D within) -/
theorem lc_range {lo : Int} {n : Nat} {g : TG} {tt : TT} {te : TE} {vs : List Nat} {σ : St} {H1 : Hp} {D : Addr} {Qd : Hp → Prop} (Pv : Nat → Hp → Prop) (h0 : Pv 0 (upd H1 D (.lst [])))
    (hs : ∀ i H, i < n → Pv i H → g (.int (lo + i)) (wipe σ vs) H fun σ2 H2 => wipe σ2 vs = wipe σ vs ∧ tt σ2 H2 fun b H3 =>
      if b = true then te σ2 H3 fun y H4 => ∃ acc, H4 D = some (.lst acc) ∧ acc.length < sizeLine ∧ Pv (i + 1) (upd H4 D (.lst (acc ++ [y]))) else Pv (i + 1) H3) (hd : ∀ H, Pv n H → Qd H) :
    ∃ W : Nat → Nat → Hp → Prop, (∃ m, W 0 m (upd H1 D (.lst []))) ∧ ∀ i m H, W i m H →
      ((Itr lo n).stop i H ∧ Qd H) ∨ ((Itr lo n).go i H ∧ ∃ Nx : Hp → Prop, (∀ H', Nx H' → ∃ m', m' < m ∧ W (i + 1) m' H') ∧ ∀ x H', (Itr lo n).yld i H x H' → g x (wipe σ vs) H' fun σ2 H2 => wipe σ2 vs = wipe σ vs ∧ tt σ2 H2 fun b H3 =>
        if b = true then te σ2 H3 fun y H4 => ∃ acc, H4 D = some (.lst acc) ∧ acc.length < sizeLine ∧ Nx (upd H4 D (.lst (acc ++ [y]))) else Nx H3) := by
  refine ⟨fun i m H => m = n - i ∧ i ≤ n ∧ Pv i H, ⟨n, by simp, Nat.zero_le _, h0⟩, ?_⟩
  rintro i m H ⟨rfl, hi, p⟩
  by_cases hlt : i < n
  · refine .inr ⟨hlt, Pv (i + 1), fun H' p' => ⟨n - (i + 1), by omega, rfl, hlt, p'⟩, fun x H' y => ?_⟩
    obtain ⟨e, y⟩ := y
    subst e y
    exact hs i _ hlt p
  · have e : i = n := by omega
    subst e
    exact .inl ⟨Nat.le_refl _, hd H p⟩
def blkC (N : List Str) (sc scope : Scope) (own : List (Str × Nat)) : Bool :=
  (match scope.kind with | .function => true | _ => false) && (scope.names.all fun y => decide (scope.names.lookup y.1 = some y.2)) && (own.all fun p => decide (N[p.2]? = some p.1)) &&
    (scope.names.all fun y => match y.2 with
      | .free => (match sc.names.lookup y.1 with | some .cell => true | some .free => true | _ => false)
      | .local => decide (y.1 ∈ own.map (·.1)) || decide (y.1 ∉ N)
      | .cell => decide (y.1 ∈ own.map (·.1)) || decide (y.1 ∉ N)
      | _ => true)
theorem blkOk_by {N : List Str} {sc scope : Scope} {own : List (Str × Nat)} (h : blkC N sc scope own = true) : BlkOk N sc scope own := by
  unfold blkC at h
  simp only [Bool.and_eq_true, List.all_eq_true, decide_eq_true_eq] at h
  obtain ⟨⟨⟨h1, h2⟩, h3⟩, h4⟩ := h
  refine ⟨?_, h2, h3, fun y hy e => ?_, fun y hy e => ?_⟩
  · split at h1
    · assumption
    · cases h1
  · have q := h4 y hy
    simp only [e] at q
    split at q <;> first | exact .inl (by assumption) | exact .inr (by assumption) | cases q
  · have q := h4 y hy
    rcases e with e | e <;> (simp only [e, Bool.or_eq_true, decide_eq_true_eq] at q; exact q)
end L2
namespace L2
open PySem PySem.Spec PyProof.Rows
section
variable {prog : Program} {w : World} {A : Around} {R : Result → Shared → Prop} {s : Shared} {elt t0 i0 t1 i1 : Expr} {ifs0 ifs1 : List Expr} {scope : Scope} {pos : Pos} {it acc : Value} {env : Env}
end
section
variable {X : Cx}
end
end L2
namespace L2
open PySem PySem.Spec PyProof.Rows
/-! ### lists of pairs as tables -/
section
variable {κ : Type} [DecidableEq κ]
end
/-! ### a tracked dict, its keys ints and texts or tuples of these -/
section
variable {P : Program} {w : World} {H : Hp} {h : Heap} {a : Addr}
end
section
variable {X : Cx} {pins : List (Addr × Obj)} {σ : St} {H : Hp} {s : Shared} {a : Addr} {y v : V} {u r : Value} {o : Option V} {A : Around} {E : Value → Shared → Prop}
end
section
variable {X : Cx} {pins : List (Addr × Obj)} {σ : St} {H : Hp} {s : Shared} {a : Addr} {kvs : List (Key × V)} {k : Key} {u : Value} {A : Around} {E : Value → Shared → Prop}
end
/-! ### readings and rules -/
section
variable {X : Cx} {o i e value : Expr} {pos pos' tpos : Pos} {td ty tv : TE}
end
/-! ### displays -/
section
variable {X : Cx} {pos : Pos}
end
/-! ### methods -/
section
variable {X : Cx} {pins : List (Addr × Obj)} {σ : St} {H : Hp} {s : Shared} {a : Addr} {y d : V} {u r : Value} {o : Option V} {A : Around} {E : Value → Shared → Prop}
end
section
variable {X : Cx} {o e f : Expr} {apos cpos : Pos} {td ty tx : TE}
end
/-! ### dict(d): a copy -/
section
variable {X : Cx} {pins : List (Addr × Obj)} {σ : St} {H : Hp} {s : Shared} {a : Addr} {kvs : List (Key × V)} {A : Around} {E : Value → Shared → Prop}
end
section
variable {X : Cx} {pins : List (Addr × Obj)} {σ : St} {H : Hp} {s : Shared} {a : Addr} {y : V} {u : Value} {A : Around} {E : Value → Shared → Prop}
end
end L2
namespace L2
open PySem PySem.Spec PyProof.Rows
section
variable {prog : Program} {w : World} {A : Around} {E : Value → Shared → Prop}
end
section
variable {X : Cx}
end
end L2
namespace L2
open PySem PySem.Spec PyProof.Rows
section
variable {X : Cx} {pins : List (Addr × Obj)} {σ : St} {H : Hp} {s : Shared} {h' : Heap}
/-! ### locking a thing while a statement runs -/
end
section
variable {X : Cx}
/-! ### one iterator just laid -/
end
/-! ### range with a step -/
section
variable {X : Cx} {tg : Expr}
end
/-! ### reversed(list) -/
section
variable {X : Cx} {tg : Expr}
end
/-! ### a str -/
/-! ### a dict's keys: any dict's entries -/
section
variable {prog : Program} {w : World} {A : Around} {E : Value → Shared → Prop} {s : Shared}
end
/-! ### a locked dict -/
section
variable {X : Cx} {pins : List (Addr × Obj)} {σ : St} {H : Hp} {s : Shared} {d : Addr} {o : Obj}
end
section
variable {P : Program} {w : World} {K : PySem.W.Frag} {tg : Expr} {d : Addr} {o : Obj} {es : Array DictEntry} {ep : Nat}
end
/-! ### for k in d, d.keys(), d.values(), d.items() -/
section
variable {X : Cx} {tg e : Expr} {td : TE} {apos cpos : Pos}
end
/-! ### enumerate(list) -/
/-! ### zip(list, list) -/
end L2
section 
namespace Bits
open PySem PyProof.Rows
end Bits
end 
section 
namespace TL
open PySem PySem.Builtin PySem.Builtin.Str PySem.StrLaws
/-! ### the list functions -/
/-! ### the model's split and partition are these -/
/-! ### computing spl and par -/
/-! ### digits -/
/-! ### words: x.split() -/
end TL
end 
namespace L2
open PySem PySem.Spec PyProof.Rows
section
variable {X : Cx} {pins : List (Addr × Obj)} {σ : St} {H : Hp} {s : Shared} {Q : VK}
end
section
variable {X : Cx}
/-! ### of a text alone -/
/-! ### of a text and a text -/
end
section
variable {X : Cx} {o e : Expr} {to te : TE}
end
end L2
namespace L2
open PySem PySem.Spec PyProof.Rows
section
variable {X : Cx}
end
/-! ### slices of a text -/
end L2
namespace Att
open PySem PySem.W PySem.Calls PyProof.Rows
/-! ### the script -/
/-! ### the attachment: holds_open's last premise (the goal 'hc' behind k_head) from a wpAny of the law's body -/
/-! ### rules over ANY heap (no ledger) from facts about the written part K: the library's own take a ledger (News) for what they write -/
section
variable {prog : Program} {w : World} {A : Around} {E : Value → Shared → Prop} {s : Shared} {K : Frag}
/-! the whole heap as the ledger: makes every rule that writes through a ledger a rule over any heap -/
end
end Att
namespace L2
open PySem PySem.Spec PyProof.Rows
end L2
namespace L2
open PySem PySem.Spec PyProof.Rows
end L2
/-! SHORT WORDS over the layer: a def of the text, its body, what a loop and a test want. -/
namespace L2
open PySem PySem.Spec PyProof.Rows
/-! ### the text by places -/
/-- the j-th statement of a class's body -/
def inClass (s : Stmt) (j : Nat) : Stmt := match s with
  | .ClassDef _ _ _ body _ _ _ _ _ _ _ => body.getD j (.Pass ⟨0, 0, 0, 0⟩)
  | _ => .Pass ⟨0, 0, 0, 0⟩
def defArgs (s : Stmt) : Arguments := match s with
  | .FunctionDef _ a _ _ _ _ _ _ _ _ => a
  | _ => { posonlyargs := [], args := [], vararg := none, kwonlyargs := [], kw_defaults := [], kwarg := none, defaults := [] }
def defBody (s : Stmt) : List Stmt := match s with
  | .FunctionDef _ _ b _ _ _ _ _ _ _ => b
  | _ => []
def defScope (s : Stmt) : Scope := match s with
  | .FunctionDef _ _ _ _ _ _ sc _ _ _ => sc
  | _ => { kind := .function, names := [], isGenerator := false, isCoroutine := false }
/-! ### no exception leaves a def -/
abbrev CX0 : CXT := fun _ _ _ _ _ _ => False
abbrev E0 : XK := fun _ _ _ => False
theorem pass0 {X : Cx} : Passes CX0 X E0 := fun _ _ _ _ _ _ _ h => h.elim
/-! ### a def (or method) of the text as it stands behind the top -/
structure Fun (K : PySem.W.Frag) (x qual : Str) (st : Stmt) (f : Addr) (fd : FuncData) : Prop where
  ex : ∃ (oc : Value) (od : Option Addr) (kV doc pm : Value) (an : Option Addr) (cdv ct : Value) (osl : Array (Option Value)),
    fd = PySem.W.fnOf x qual (defArgs st) (defBody st) (defScope st) .none kV doc pm an cdv ct ∧ K.lookup f = some ⟨oc, od, .func fd, osl⟩ ∧ PySem.W.codeIn K cdv qual = true
  kp : PySem.W.keepIn K (.ref f) = true
section
variable {P : Program} {w : World} {K : PySem.W.Frag} {mg : Str → Option Value} {base : Heap}
/-- THE RULE for a def: its body as a term of rules, and the reading of that term -/
theorem Fun.ok {x qual : Str} {st : Stmt} {f : Addr} {fd : FuncData} {N ps : List Str} {k : Nat} {sp : Sp} (F : Fun K x qual st f fd) (S : FnScope N ps (defScope st)) (len : ∀ vs H Q E, sp vs H Q E → vs.length = ps.length)
    (hbody : ∀ (cdv : Value) (A : Around) (outer : List Env) (s : Shared) (H : Hp) (vs : List V) (Q : VK) (E : XK), Room k (A.deeper (envOfC qual (defScope st) s.heap.objs.size f cdv)) → sp vs H Q E →
      ∃ t, PSs (cxOf CX0 P w K mg base N qual (defScope st) f cdv A outer s H E).nox (defBody st) t ∧ t { nx := fun _ H' => Q .non H', rt := Q } (start N vs) H) : FnOk P w K mg base CX0 (k + 1) f fd ps sp := by
  obtain ⟨oc, od, kV, doc, pm, an, cdv, ct, osl, rfl, lk, hcd⟩ := F.ex
  refine fn_of lk hcd S len fun A outer s H vs Q E hr hsp => ?_
  obtain ⟨t, h, q⟩ := hbody cdv A outer s H vs Q E hr hsp
  exact ⟨t, h.nox, q⟩
/-- how its arguments bind (no defaults): h is «fun _ _ _ _ _ _ us hl => match us, hl with | [_, _], _ => rfl», one _ a parameter -/
theorem Fun.binds {x qual : Str} {st : Stmt} {f : Addr} {fd : FuncData} {ps : List Str} (F : Fun K x qual st f fd)
    (h : ∀ (kV doc pm : Value) (an : Option Addr) (cdv ct : Value) (us : List Value), us.length = ps.length → bindArgs (PySem.W.fnOf x qual (defArgs st) (defBody st) (defScope st) .none kV doc pm an cdv ct) ⟨us, []⟩ = pure (ps.zip us)) : Binds K fd ps [] := by
  obtain ⟨oc, od, kV, doc, pm, an, cdv, ct, osl, rfl, lk, hcd⟩ := F.ex
  exact .all (h kV doc pm an cdv ct)
theorem fun_mk {x qual : Str} {st : Stmt} {f : Addr} {oc : Value} {od an : Option Addr} {osl : Array (Option Value)} {kV doc pm cdv ct : Value} (l : K.lookup f = some ⟨oc, od, .func (PySem.W.fnOf x qual (defArgs st) (defBody st) (defScope st) .none kV doc pm an cdv ct), osl⟩)
    (c : PySem.W.codeIn K cdv qual = true) (k : PySem.W.keepIn K (.ref f) = true) : Fun K x qual st f (PySem.W.fnOf x qual (defArgs st) (defBody st) (defScope st) .none kV doc pm an cdv ct) := ⟨⟨oc, od, kV, doc, pm, an, cdv, ct, osl, rfl, l, c⟩, k⟩
end
/-! ### expressions in short: the name that stands in the i-th slot -/
section
variable {X : Cx}
theorem pv (i : Nat) {x : Str} {pos : Pos} (hN : X.N[i]? = some x := by rfl) (hv : Vis X.env.scope x := by first | exact Or.inl rfl | exact Or.inr (Or.inl rfl) | exact Or.inr (Or.inr rfl)) (hd : (x == ("__debug__" : Str)) = false := by decide)
    (hcd : (x == ("__classdict__" : Str)) = false := by decide) : PE X (.Name x pos) (tVar i) := pe_var hN hv hd hcd
end
/-! ### tests -/
theorem iteF {A B : Prop} (h : B) : if false = true then A else B := by
  rw [if_neg Bool.false_ne_true]
  exact h
theorem iteT {A B : Prop} (h : A) : if true = true then A else B := by
  rw [if_pos rfl]
  exact h
/-! ### heaps -/
/-- all that was tracked is as it was -/
def Same (H H' : Hp) : Prop := ∀ b o, H b = some o → H' b = some o
theorem Same.refl (H : Hp) : Same H H := fun _ _ h => h
theorem Same.trans {H H1 H2 : Hp} (a : Same H H1) (b : Same H1 H2) : Same H H2 := fun c o h => b c o (a c o h)
theorem Same.free {H H' : Hp} (e : Same H H') {l : Addr} (h : H' l = Option.none) : H l = Option.none := by
  cases q : H l with
  | none => rfl
  | some o =>
    rw [e l o q] at h
    cases h
theorem Same.seq {K : PySem.W.Frag} {H H' : Hp} {a : Addr} {xs : List V} (e : Same H H') (h : SqL K H a xs) : SqL K H' a xs := by
  rcases h with (h | ⟨o, h⟩) | h
  · exact .inl (.inl (e _ _ h))
  · exact .inl (.inr ⟨o, e _ _ h⟩)
  · exact .inr h
/-! ### a dict's pairs: keys that differ -/
section
variable {κ : Type} [DecidableEq κ]
end
/-! ### lists -/
theorem at_of {xs : List V} {z : Int} {j : Nat} {v : V} (e : z = (j : Int)) (h : xs[j]? = some v) : atI xs z = some v := by
  rw [e]
  exact atI_nat h
/-- a new instance and its __init__ leave all that was tracked as it was -/
theorem Same.made {H H1 : Hp} {x dx C : Addr} (nx : H x = Option.none) (nd : H dx = Option.none) (k : ∀ b o, (upd (upd H dx (.own x)) x (.ins C dx [])) b = some o → b ≠ x → H1 b = some o) : Same H H1 := fun b o e =>
  k b o (by rw [upd_ne (ne_of_none e nx), upd_ne (ne_of_none e nd)]; exact e) (ne_of_none e nx)
end L2
section
set_option Elab.async false
set_option linter.all false
set_option maxRecDepth 100000
set_option maxHeartbeats 2000000
namespace L2
open PySem PySem.Spec PyProof.Rows
open PySem.W (WData Codec OpenSpec Well WellAll ReadsW ReadsAllW)
/-! ### an answer as data -/
mutual
/-- x stands for the datum d, lists and tuples all the way -/
inductive Dw (K : PySem.W.Frag) (H : Hp) : V → WData → Prop
  | non : Dw K H .non .none
  | bl (b : Bool) : Dw K H (.bl b) (.bool b)
  | int (i : Int) : Dw K H (.int i) (.int i)
  | str (x : Str) : Dw K H (.str x) (.str x)
  | byt (b : Array UInt8) : Dw K H (.byt b) (.bytes b.toList)
  | lst {a : Addr} {xs : List V} {ds : List WData} : SqL K H a xs → DwAll K H xs ds → Dw K H (.ref a) (.list ds)
  | tup {a : Addr} {xs : List V} {ds : List WData} : SqT K H a xs → DwAll K H xs ds → Dw K H (.ref a) (.tuple ds)
inductive DwAll (K : PySem.W.Frag) (H : Hp) : List V → List WData → Prop
  | nil : DwAll K H [] []
  | cons {v : V} {vs : List V} {d : WData} {ds : List WData} : Dw K H v d → DwAll K H vs ds → DwAll K H (v :: vs) (d :: ds)
end
theorem dw_ints {K : PySem.W.Frag} {H : Hp} : ∀ ns : List Int, DwAll K H (ns.map V.int) (ns.map WData.int)
  | [] => .nil
  | n :: r => .cons (.int n) (dw_ints r)
theorem ints_dw {K : PySem.W.Frag} {H : Hp} : ∀ (ns : List Int) (xs : List V), DwAll K H xs (ns.map WData.int) → xs = ns.map V.int
  | [], xs, h => by
    cases h
    rfl
  | n :: r, xs, h => by
    cases h with
    | cons h1 h2 =>
      cases h1
      rw [ints_dw r _ h2] <;> rfl
section
variable {P : Program} {w : World} {K : PySem.W.Frag} {H : Hp} {h : Heap} {R : PySem.W.WRecords} {cl : Str → Option Addr}
theorem sqL_at {a : Addr} {xs : List V} (hok : HOk P w H h) (KX : K.In h) (q : SqL K H a xs) : ∃ (its : List Value) (o : Obj) (n : Nat), Vals xs its ∧ h.get? a = some o ∧ o.cls = .type "list" ∧ o.data = .seq its.toArray n := by
  rcases q with q | ⟨o, its, n, e, hc, _, hd, _, hv⟩
  · obtain ⟨_, its, n, hv, e⟩ := (show ObjOk P w H h a (.lst xs) from q.ok hok)
    exact ⟨its, _, n, hv, e, rfl, rfl⟩
  · exact ⟨its.toList, o, n, hv, KX _ _ e, hc, by simp [hd]⟩
theorem sqT_at {a : Addr} {xs : List V} (hok : HOk P w H h) (KX : K.In h) (q : SqT K H a xs) : ∃ (its : List Value) (o : Obj) (n : Nat), Vals xs its ∧ h.get? a = some o ∧ o.cls = .type "tuple" ∧ o.data = .seq its.toArray n := by
  rcases q with q | ⟨o, its, n, e, hc, hd, _, hv⟩
  · obtain ⟨_, its, hv, o, e, hc, n, hd⟩ := (show ObjOk P w H h a (.tup xs) from q.ok hok)
    exact ⟨its, o, n, hv, e, hc, hd⟩
  · exact ⟨its.toList, o, n, hv, KX _ _ e, hc, by simp [hd]⟩
mutual
theorem Dw.reads (hok : HOk P w H h) (KX : K.In h) : ∀ (d : WData) (v : V) (u : Value), Dw K H v d → RelV v u → ∃ as, ReadsW R cl h u d as
  | .none, _, _, x, r => by
    cases x
    cases r
    exact ⟨_, ReadsW.none⟩
  | .bool b, _, _, x, r => by
    cases x
    cases r
    exact ⟨_, ReadsW.bool b⟩
  | .int i, _, _, x, r => by
    cases x
    obtain ⟨t, rfl⟩ := r
    exact ⟨_, ReadsW.int i t⟩
  | .str s, _, _, x, r => by
    cases x
    obtain ⟨t, rfl⟩ := r
    exact ⟨_, ReadsW.str s t⟩
  | .bytes b, _, _, x, r => by
    cases x
    obtain ⟨t, rfl⟩ := r
    exact ⟨_, ReadsW.bytes _ t⟩
  | .list ds, _, _, x, r => by
    cases x with
    | lst hs ha =>
      cases r
      obtain ⟨its, o, n, rv, ho, hc, hd⟩ := sqL_at hok KX hs
      obtain ⟨as, hr⟩ := Dw.readsAll hok KX ds _ its ha rv
      exact ⟨_, ReadsW.list ho hc hd hr⟩
  | .tuple ds, _, _, x, r => by
    cases x with
    | tup hs ha =>
      cases r
      obtain ⟨its, o, n, rv, ho, hc, hd⟩ := sqT_at hok KX hs
      obtain ⟨as, hr⟩ := Dw.readsAll hok KX ds _ its ha rv
      exact ⟨_, ReadsW.tuple ho hc hd hr⟩
  | .float _, _, _, x, _ => by cases x
  | .dict _, _, _, x, _ => by cases x
  | .bytearray _, _, _, x, _ => by cases x
  | .set _, _, _, x, _ => by cases x
  | .frozenset _, _, _, x, _ => by cases x
  | .obj _ _, _, _, x, _ => by cases x
theorem Dw.readsAll (hok : HOk P w H h) (KX : K.In h) : ∀ (ds : List WData) (vs : List V) (us : List Value), DwAll K H vs ds → Vals vs us → ∃ as, ReadsAllW R cl h us ds as
  | [], _, _, x, r => by
    cases x
    cases r
    exact ⟨_, ReadsAllW.nil⟩
  | d :: ds, _, _, x, r => by
    cases x with
    | cons h1 h2 =>
      cases r with
      | cons r1 r2 =>
        obtain ⟨as, q1⟩ := Dw.reads hok KX d _ _ h1 r1
        obtain ⟨bs, q2⟩ := Dw.readsAll hok KX ds _ _ h2 r2
        exact ⟨_, ReadsAllW.cons q1 q2⟩
end
end
/-! ### the arguments -/
mutual
/-- data that a codec tells -/
def plW : WData → Bool
  | .none => true
  | .bool _ => true
  | .int _ => true
  | .str _ => true
  | .bytes _ => true
  | .list xs => plWs xs
  | .tuple xs => plWs xs
  | _ => false
def plWs : List WData → Bool
  | [] => true
  | x :: r => plW x && plWs r
end
theorem plWs_map {α : Type} {f : α → WData} (h : ∀ a, plW (f a) = true) : ∀ l : List α, plWs (l.map f) = true
  | [] => rfl
  | x :: r => by
    show (plW (f x) && plWs (r.map f)) = true
    rw [h x, plWs_map h r] <;> rfl
theorem pl_enc : ∀ (c : Codec) (a : c.denote), plW (c.enc a) = true
  | .unit, _ => rfl
  | .bool, _ => rfl
  | .int _ _, _ => rfl
  | .nat _ _, _ => rfl
  | .u8, _ => rfl
  | .bytes _ _, _ => rfl
  | .text _ _ _ _, _ => rfl
  | .list _ _ c, a => plWs_map (fun x => pl_enc c x) a
  | .pair c d, a => by
    show (plW (c.enc a.1) && (plW (d.enc a.2) && true)) = true
    rw [pl_enc c a.1, pl_enc d a.2] <;> rfl
  | .triple c d e, a => by
    show (plW (c.enc a.1) && (plW (d.enc a.2.1) && (plW (e.enc a.2.2) && true))) = true
    rw [pl_enc c a.1, pl_enc d a.2.1, pl_enc e a.2.2] <;> rfl
  | .option c, none => rfl
  | .option c, some x => pl_enc c x
theorem pl_encAll : ∀ (cs : List Codec) (a : Codec.denoteAll cs), plWs (Codec.encAll cs a) = true
  | [], _ => rfl
  | c :: cs, a => by
    show (plW (c.enc a.1) && plWs (Codec.encAll cs a.2)) = true
    rw [pl_enc c a.1, pl_encAll cs a.2] <;> rfl
theorem weight_mem : ∀ {xs : List WData} {d : WData}, d ∈ xs → d.weight ≤ WData.weightAll xs
  | [], d, h => absurd h (by simp)
  | x :: r, d, h => by
    show d.weight ≤ x.weight + 1 + WData.weightAll r
    rcases List.mem_cons.mp h with e | m
    · rw [e]
      omega
    · have z := weight_mem m
      omega
def toV : Value → V
  | .none => .non
  | .bool b => .bl b
  | .int i _ => .int i
  | .str x _ => .str x
  | .bytes b _ => .byt b
  | .ref a => .ref a
  | _ => .non
/-- a value of the arguments, its objects among A -/
def OkU (A : List Addr) : Value → Prop
  | .none => True
  | .bool _ => True
  | .int _ _ => True
  | .str _ _ => True
  | .bytes _ _ => True
  | .ref a => a ∈ A
  | _ => False
theorem OkU.mono {A B : List Addr} (h : ∀ a ∈ A, a ∈ B) : ∀ {u : Value}, OkU A u → OkU B u := fun {u} x => by
  cases u with
  | ref a => exact h a x
  | none => trivial
  | bool b => trivial
  | int i t => trivial
  | str s t => trivial
  | bytes b t => trivial
  | _ => exact False.elim x
theorem relV_toV {A : List Addr} {u : Value} (x : OkU A u) : RelV (toV u) u := by
  cases u with
  | ref a => rfl
  | none => rfl
  | bool b => rfl
  | int i t => exact ⟨t, rfl⟩
  | str s t => exact ⟨t, rfl⟩
  | bytes b t => exact ⟨t, rfl⟩
  | _ => exact False.elim x
theorem vals_toV {A : List Addr} : ∀ {vs : List Value}, (∀ u ∈ vs, OkU A u) → Vals (vs.map toV) vs
  | [], _ => .nil
  | u :: r, h => .cons (relV_toV (h u (List.mem_cons_self ..))) (vals_toV fun x hx => h x (List.mem_cons_of_mem _ hx))
/-- an object of the arguments -/
def ArgOb (h : Heap) (A : List Addr) (a : Addr) : Prop := ∃ vs : List Value, vs.length ≤ sizeLine ∧ (∀ u ∈ vs, OkU A u) ∧
  (h.get? a = some { cls := .type "list", data := .seq vs.toArray } ∨ h.get? a = some { cls := .type "tuple", data := .seq vs.toArray })
theorem ArgOb.mono {h : Heap} {A B : List Addr} {a : Addr} (k : ∀ a ∈ A, a ∈ B) (x : ArgOb h A a) : ArgOb h B a := by
  obtain ⟨vs, h1, h2, h3⟩ := x
  exact ⟨vs, h1, fun u hu => (h2 u hu).mono k, h3⟩
theorem wellAll_len {P : Params} {h : Heap} : ∀ {vs : List Value} {ds : List WData}, WellAll P h vs ds → vs.length = ds.length
  | _, _, .nil => rfl
  | _, _, .cons _ b => by
    show _ + 1 = _ + 1
    rw [wellAll_len b]
theorem well_list {P : Params} {h : Heap} {v : Value} {ds : List WData} (x : Well P h v (.list ds)) : ∃ (a : Addr) (vs : List Value), v = .ref a ∧ h.get? a = some { cls := .type "list", data := .seq vs.toArray } ∧ WellAll P h vs ds := by
  cases x with
  | list ho hall => exact ⟨_, _, rfl, ho, hall⟩
theorem well_tuple {P : Params} {h : Heap} {v : Value} {ds : List WData} (x : Well P h v (.tuple ds)) : ∃ (a : Addr) (vs : List Value), v = .ref a ∧ h.get? a = some { cls := .type "tuple", data := .seq vs.toArray } ∧ WellAll P h vs ds := by
  cases x with
  | tuple ho hall => exact ⟨_, _, rfl, ho, hall⟩
theorem well_cons {P : Params} {h : Heap} {us : List Value} {d : WData} {ds : List WData} (x : WellAll P h us (d :: ds)) : ∃ (v : Value) (vs : List Value), us = v :: vs ∧ Well P h v d ∧ WellAll P h vs ds := by
  cases x with
  | cons a b => exact ⟨_, _, rfl, a, b⟩
theorem line_of {n : Nat} (h : n ≤ 1048576) : n ≤ sizeLine := Nat.le_trans h (by decide)
section
variable {P : Params} {h : Heap}
mutual
theorem area_one : ∀ (d : WData) (v : Value), Well P h v d → plW d = true → d.weight ≤ 1048576 → ∃ A : List Addr, OkU A v ∧ ∀ a ∈ A, ArgOb h A a
  | .none, _, x, _, _ => by
    cases x
    exact ⟨[], trivial, fun a m => absurd m (by simp)⟩
  | .bool b, _, x, _, _ => by
    cases x
    exact ⟨[], trivial, fun a m => absurd m (by simp)⟩
  | .int i, _, x, _, _ => by
    cases x
    exact ⟨[], trivial, fun a m => absurd m (by simp)⟩
  | .str s, _, x, _, _ => by
    cases x
    exact ⟨[], trivial, fun a m => absurd m (by simp)⟩
  | .bytes b, _, x, _, _ => by
    cases x
    exact ⟨[], trivial, fun a m => absurd m (by simp)⟩
  | .list ds, _, x, p, z => by
    obtain ⟨a, vs, rfl, ho, hall⟩ := well_list x
    have z2 : WData.weightAll ds ≤ 1048576 := z
    obtain ⟨A, h1, h2⟩ := area_all ds _ hall p fun d hd => Nat.le_trans (weight_mem hd) z2
    have k : ∀ b ∈ A, b ∈ a :: A := fun b hb => List.mem_cons_of_mem _ hb
    refine ⟨a :: A, List.mem_cons_self .., fun b hb => ?_⟩
    rcases List.mem_cons.mp hb with e | m
    · rw [e]
      exact ⟨vs, line_of (by rw [wellAll_len hall]; exact Nat.le_trans (PySem.W.length_le_weightAllW ds) z2), fun u hu => (h1 u hu).mono k, .inl ho⟩
    · exact (h2 b m).mono k
  | .tuple ds, _, x, p, z => by
    obtain ⟨a, vs, rfl, ho, hall⟩ := well_tuple x
    have z2 : WData.weightAll ds ≤ 1048576 := z
    obtain ⟨A, h1, h2⟩ := area_all ds _ hall p fun d hd => Nat.le_trans (weight_mem hd) z2
    have k : ∀ b ∈ A, b ∈ a :: A := fun b hb => List.mem_cons_of_mem _ hb
    refine ⟨a :: A, List.mem_cons_self .., fun b hb => ?_⟩
    rcases List.mem_cons.mp hb with e | m
    · rw [e]
      exact ⟨vs, line_of (by rw [wellAll_len hall]; exact Nat.le_trans (PySem.W.length_le_weightAllW ds) z2), fun u hu => (h1 u hu).mono k, .inr ho⟩
    · exact (h2 b m).mono k
  | .float _, _, _, p, _ => Bool.noConfusion (show false = true from p)
  | .dict _, _, _, p, _ => Bool.noConfusion (show false = true from p)
  | .bytearray _, _, _, p, _ => Bool.noConfusion (show false = true from p)
  | .set _, _, _, p, _ => Bool.noConfusion (show false = true from p)
  | .frozenset _, _, _, p, _ => Bool.noConfusion (show false = true from p)
  | .obj _ _, _, _, p, _ => Bool.noConfusion (show false = true from p)
theorem area_all : ∀ (ds : List WData) (vs : List Value), WellAll P h vs ds → plWs ds = true → (∀ d ∈ ds, d.weight ≤ 1048576) → ∃ A : List Addr, (∀ u ∈ vs, OkU A u) ∧ ∀ a ∈ A, ArgOb h A a
  | [], _, x, _, _ => by
    cases x
    exact ⟨[], fun u m => absurd m (by simp), fun a m => absurd m (by simp)⟩
  | d :: ds, _, x, p, z => by
    obtain ⟨v, vs, rfl, x1, x2⟩ := well_cons x
    have q : plW d = true ∧ plWs ds = true := Bool.and_eq_true_iff.mp p
    obtain ⟨A, a1, a2⟩ := area_one d v x1 q.1 (z d (List.mem_cons_self ..))
    obtain ⟨B, b1, b2⟩ := area_all ds vs x2 q.2 fun e he => z e (List.mem_cons_of_mem _ he)
    have kA : ∀ b ∈ A, b ∈ A ++ B := fun b hb => List.mem_append.mpr (.inl hb)
    have kB : ∀ b ∈ B, b ∈ A ++ B := fun b hb => List.mem_append.mpr (.inr hb)
    refine ⟨A ++ B, fun u hu => ?_, fun b hb => ?_⟩
    · rcases List.mem_cons.mp hu with e | m
      · rw [e]
        exact a1.mono kA
      · exact (b1 u m).mono kB
    · rcases List.mem_append.mp hb with m | m
      · exact (a2 b m).mono kA
      · exact (b2 b m).mono kB
end
end
/-- what is tracked of an argument's object -/
def hoOf (o : Obj) : Option HO := match o.data with
  | .seq vs _ => if (o.cls == Value.type "list") = true then some (.frz o (.lst (vs.toList.map toV))) else some (.frz o (.tup (vs.toList.map toV)))
  | _ => none
def argH (K : PySem.W.Frag) (h : Heap) (A : List Addr) : Hp := fun b => if b ∈ A then (if (K.lookup b).isNone = true then (h.get? b).bind hoOf else none) else none
/-- nothing is tracked but what is known to the object -/
def OnlyF (H : Hp) : Prop := ∀ b, H b = none ∨ ∃ o u, H b = some (.frz o u)
theorem hoOf_lst (vs : List Value) : hoOf { cls := .type "list", data := .seq vs.toArray } = some (.frz { cls := .type "list", data := .seq vs.toArray } (.lst (vs.map toV))) := by
  show (if (Value.type "list" == Value.type "list") = true then some (HO.frz { cls := .type "list", data := .seq vs.toArray } (.lst (vs.toArray.toList.map toV))) else some (HO.frz { cls := .type "list", data := .seq vs.toArray } (.tup (vs.toArray.toList.map toV)))) = _
  rw [if_pos (beq_self_eq_true _)]
theorem hoOf_tup (vs : List Value) : hoOf { cls := .type "tuple", data := .seq vs.toArray } = some (.frz { cls := .type "tuple", data := .seq vs.toArray } (.tup (vs.map toV))) := by
  show (if (Value.type "tuple" == Value.type "list") = true then some (HO.frz { cls := .type "tuple", data := .seq vs.toArray } (.lst (vs.toArray.toList.map toV))) else some (HO.frz { cls := .type "tuple", data := .seq vs.toArray } (.tup (vs.toArray.toList.map toV)))) = _
  rw [if_neg (by decide)]
section
variable {P : Program} {w : World} {K : PySem.W.Frag} {h : Heap} {A : List Addr}
theorem argH_at {b : Addr} {o : Obj} (hb : b ∈ A) (hk : K.lookup b = none) (e : h.get? b = some o) : argH K h A b = hoOf o := by
  unfold argH
  rw [if_pos hb, hk, if_pos (show (none : Option Obj).isNone = true from rfl), e] <;> rfl
theorem of_argH {b : Addr} {u : HO} (q : argH K h A b = some u) : b ∈ A ∧ K.lookup b = none := by
  unfold argH at q
  by_cases hb : b ∈ A
  · rw [if_pos hb] at q
    cases hk : K.lookup b with
    | none => exact ⟨hb, rfl⟩
    | some o =>
      rw [hk, if_neg (by simp)] at q
      cases q
  · rw [if_neg hb] at q
    cases q
/-- what stands tracked -/
theorem argH_is (ar : ∀ a ∈ A, ArgOb h A a) {b : Addr} {u : HO} (q : argH K h A b = some u) : K.lookup b = none ∧ ∃ vs : List Value, vs.length ≤ sizeLine ∧ (∀ u ∈ vs, OkU A u) ∧
    ((h.get? b = some { cls := .type "list", data := .seq vs.toArray } ∧ u = .frz { cls := .type "list", data := .seq vs.toArray } (.lst (vs.map toV))) ∨
     (h.get? b = some { cls := .type "tuple", data := .seq vs.toArray } ∧ u = .frz { cls := .type "tuple", data := .seq vs.toArray } (.tup (vs.map toV)))) := by
  obtain ⟨hb, hk⟩ := of_argH q
  obtain ⟨vs, h1, h2, h3⟩ := ar b hb
  refine ⟨hk, vs, h1, h2, ?_⟩
  rcases h3 with e | e
  · rw [argH_at hb hk e, hoOf_lst] at q
    exact .inl ⟨e, (Option.some.inj q).symm⟩
  · rw [argH_at hb hk e, hoOf_tup] at q
    exact .inr ⟨e, (Option.some.inj q).symm⟩
theorem argH_only (ar : ∀ a ∈ A, ArgOb h A a) : OnlyF (argH K h A) := fun b => by
  cases q : argH K h A b with
  | none => exact .inl rfl
  | some u =>
    obtain ⟨_, vs, _, _, ⟨_, e⟩ | ⟨_, e⟩⟩ := argH_is ar q
    · exact .inr ⟨_, _, by rw [e]⟩
    · exact .inr ⟨_, _, by rw [e]⟩
theorem argH_ok (ar : ∀ a ∈ A, ArgOb h A a) : HOk P w (argH K h A) h := fun b u q => by
  obtain ⟨_, vs, h1, h2, ⟨e, rfl⟩ | ⟨e, rfl⟩⟩ := argH_is ar q
  · exact ⟨e, by rw [List.length_map]; exact h1, vs, _, vals_toV h2, e⟩
  · exact ⟨e, by rw [List.length_map]; exact h1, vs, vals_toV h2, _, e, rfl, _, rfl⟩
theorem seq_inj {c c' : Value} {vs us : List Value} (e : (some { cls := c, data := .seq vs.toArray } : Option Obj) = some { cls := c', data := .seq us.toArray }) : c = c' ∧ vs = us := by
  have e1 := Option.some.inj e
  have e2 : c = c' := congrArg Obj.cls e1
  have e3 : Data.seq vs.toArray = Data.seq us.toArray := congrArg Obj.data e1
  injection e3 with e4
  refine ⟨e2, ?_⟩
  have e5 := congrArg Array.toList e4
  simpa using e5
/-- a list argument -/
theorem argL (KX : K.In h) (ar : ∀ a ∈ A, ArgOb h A a) {a : Addr} {vs : List Value} (ha : a ∈ A) (e : h.get? a = some { cls := .type "list", data := .seq vs.toArray }) : (∀ u ∈ vs, OkU A u) ∧ SqL K (argH K h A) a (vs.map toV) := by
  obtain ⟨us, h1, h2, h3⟩ := ar a ha
  have hu : us = vs := by
    rcases h3 with q | q
    · rw [e] at q
      exact (seq_inj q).2.symm
    · rw [e] at q
      exact absurd (Value.type.inj (seq_inj q).1) (by decide)
  subst hu
  refine ⟨h2, ?_⟩
  cases hk : K.lookup a with
  | none => exact .inl (.inr ⟨_, by rw [argH_at ha hk e, hoOf_lst]⟩)
  | some o =>
    have e2 := KX a o hk
    rw [e] at e2
    obtain rfl := Option.some.inj e2
    exact .inr ⟨_, us.toArray, _, hk, rfl, rfl, rfl, by rw [List.size_toArray]; exact h1, by simpa using vals_toV h2⟩
theorem argT (KX : K.In h) (ar : ∀ a ∈ A, ArgOb h A a) {a : Addr} {vs : List Value} (ha : a ∈ A) (e : h.get? a = some { cls := .type "tuple", data := .seq vs.toArray }) : (∀ u ∈ vs, OkU A u) ∧ SqT K (argH K h A) a (vs.map toV) := by
  obtain ⟨us, h1, h2, h3⟩ := ar a ha
  have hu : us = vs := by
    rcases h3 with q | q
    · rw [e] at q
      exact absurd (Value.type.inj (seq_inj q).1) (by decide)
    · rw [e] at q
      exact (seq_inj q).2.symm
  subst hu
  refine ⟨h2, ?_⟩
  cases hk : K.lookup a with
  | none => exact .inl (.inr ⟨_, by rw [argH_at ha hk e, hoOf_tup]⟩)
  | some o =>
    have e2 := KX a o hk
    rw [e] at e2
    obtain rfl := Option.some.inj e2
    exact .inr ⟨_, us.toArray, _, hk, rfl, rfl, by rw [List.size_toArray]; exact h1, by simpa using vals_toV h2⟩
mutual
theorem dw_one {Pm : Params} (KX : K.In h) (ar : ∀ a ∈ A, ArgOb h A a) : ∀ (d : WData) (v : Value), Well Pm h v d → plW d = true → OkU A v → Dw K (argH K h A) (toV v) d
  | .none, _, x, _, _ => by
    cases x
    exact .non
  | .bool b, _, x, _, _ => by
    cases x
    exact .bl b
  | .int i, _, x, _, _ => by
    cases x
    exact .int i
  | .str s, _, x, _, _ => by
    cases x
    exact .str s
  | .bytes b, _, x, _, _ => by
    cases x
    have z := Dw.byt (K := K) (H := argH K h A) b.toArray
    exact z
  | .list ds, _, x, p, hu => by
    obtain ⟨a, vs, rfl, ho, hall⟩ := well_list x
    obtain ⟨h2, hs⟩ := argL KX ar hu ho
    exact .lst hs (dw_all KX ar ds _ hall p h2)
  | .tuple ds, _, x, p, hu => by
    obtain ⟨a, vs, rfl, ho, hall⟩ := well_tuple x
    obtain ⟨h2, hs⟩ := argT KX ar hu ho
    exact .tup hs (dw_all KX ar ds _ hall p h2)
  | .float _, _, _, p, _ => Bool.noConfusion (show false = true from p)
  | .dict _, _, _, p, _ => Bool.noConfusion (show false = true from p)
  | .bytearray _, _, _, p, _ => Bool.noConfusion (show false = true from p)
  | .set _, _, _, p, _ => Bool.noConfusion (show false = true from p)
  | .frozenset _, _, _, p, _ => Bool.noConfusion (show false = true from p)
  | .obj _ _, _, _, p, _ => Bool.noConfusion (show false = true from p)
theorem dw_all {Pm : Params} (KX : K.In h) (ar : ∀ a ∈ A, ArgOb h A a) : ∀ (ds : List WData) (vs : List Value), WellAll Pm h vs ds → plWs ds = true → (∀ u ∈ vs, OkU A u) → DwAll K (argH K h A) (vs.map toV) ds
  | [], _, x, _, _ => by
    cases x
    exact .nil
  | d :: ds, _, x, p, hu => by
    obtain ⟨v, vs, rfl, x1, x2⟩ := well_cons x
    have q : plW d = true ∧ plWs ds = true := Bool.and_eq_true_iff.mp p
    exact .cons (dw_one KX ar d v x1 q.1 (hu _ (List.mem_cons_self ..))) (dw_all KX ar ds vs x2 q.2 fun u m => hu u (List.mem_cons_of_mem _ m))
end
end
/-! ### the call -/
theorem spec_call {P : Program} {w : World} {K : PySem.W.Frag} {mg mb : Str → Option Value} {CX : CXT} {k : Nat} {fa : Addr} {fd : FuncData} {ps : List Str} {sp : Sp} {s₁ : Shared} {vals : List Value} {ds : List WData} {R : PySem.W.WRecords} {cl : Str → Option Addr} {d0 : WData}
    (KX : K.In s₁.heap) (hns : s₁.heap.Ns mainGlobals mg) (hb : s₁.heap.Ns builtinsNs mb) (hbb : ∀ x : Str, x ≠ "__name__" → mb x = bootBuiltins x) (hlim : s₁.heap.NoLimit) (hg : s₁.gens = #[])
    (hwl : WellAll w.params s₁.heap vals ds) (hpl : plWs ds = true) (hwt : ∀ d ∈ ds, d.weight ≤ 1048576) (hr : Room k callerA)
    (F : ∀ base : Heap, K.In base → base.Ns mainGlobals mg → FnOk P w K mg base CX k fa fd ps sp) (hbind : ∀ (s : Shared) (us : List Value), us.length = ps.length → BindsTo s fd ⟨us, []⟩ (ps.zip us)) (hlen : ds.length = ps.length)
    (hsp : ∀ (H : Hp) (xs : List V), OnlyF H → DwAll K H xs ds → sp xs H (fun v H' => Dw K H' v d0) fun _ _ _ => False)
    (hCX : ∀ H e s', CX [] H s₁ (fun _ _ _ => False) e s' → False) :
    codeAny (model P w) callerA (.call (.ref fa) ⟨vals, []⟩) (fun r s' => ∃ u as, r = .ok (.ret u) ∧ ReadsW R cl s'.heap u d0 as ∧ OldK s₁.heap s'.heap ∧ s'.os = s₁.os ∧ AllBare s'.gens) s₁ := by
  obtain ⟨A, ho, ar⟩ := area_all ds vals hwl hpl hwt
  have hO : OnlyF (argH K s₁.heap A) := argH_only ar
  have hok : HOk P w (argH K s₁.heap A) s₁.heap := argH_ok ar
  have hS := dw_all KX ar ds vals hwl hpl ho
  have hV := vals_toV ho
  have hK : ∀ b u, argH K s₁.heap A b = some u → K.lookup b = none := fun b u q => (argH_is ar q).1
  have noA : ∀ {b : Addr} {o : Obj} {es : Array DictEntry} {ep : Nat}, s₁.heap.get? b = some o → o.data = .dict es ep → argH K s₁.heap A b = none := fun {b o es ep} e d => by
    cases q : argH K s₁.heap A b with
    | none => rfl
    | some u =>
      obtain ⟨_, vs, _, _, ⟨e2, _⟩ | ⟨e2, _⟩⟩ := argH_is ar q
      · rw [e2] at e
        cases e
        have d' : Data.seq vs.toArray _ = Data.dict es ep := d
        cases d'
      · rw [e2] at e
        cases e
        have d' : Data.seq vs.toArray _ = Data.dict es ep := d
        cases d'
  generalize argH K s₁.heap A = H at hO hok hS hK noA
  have base_of : ∀ {b : Addr} {o : Obj}, s₁.heap.get? b = some o → H b = none → (hidT s₁.heap H).get? b = some o := fun e n => hidT_get e n
  have nsK : ∀ {b : Addr} {m : Str → Option Value}, s₁.heap.Ns b m → (hidT s₁.heap H).Ns b m := fun {b m} ⟨o, es, ep, e, d, r⟩ => ⟨o, es, ep, base_of e (noA e d), d, r⟩
  have nK : ∀ b o, K.lookup b = some o → H b = none := fun b o e => by
    cases q : H b with
    | none => rfl
    | some u =>
      rw [hK b u q] at e
      cases e
  have hKb : K.In (hidT s₁.heap H) := fun b o e => base_of (KX b o e) (nK b o e)
  have hM : Mod K mg (hidT s₁.heap H) := ⟨hKb, nsK hns, ⟨mb, nsK hb, hbb⟩, let ⟨mc, h1, h2⟩ := hlim; ⟨mc, nsK h1, h2⟩⟩
  have e0 : Env0 P w K mg (hidT s₁.heap H) callerA [] s₁ H := ⟨rfl, hM, fun b o e => of_hidT e, Nat.le_of_eq (hidT_size _ _), trivial, fun b hb => absurd (show b ∈ ([] : List Addr) from hb) (by simp), hok, .of_eq hg⟩
  have hl : vals.length = ps.length := by rw [wellAll_len hwl]; exact hlen
  refine codeAny_mono ((F _ hKb (nsK hns)).run callerA [] s₁ H ⟨vals, []⟩ vals (vals.map toV) _ _ hr e0 (hbind s₁ vals hl) hV (hsp H _ hO hS)) fun r s' x => ?_
  cases r with
  | error e => exact (hCX H e s' x).elim
  | ok fl =>
    cases fl with
    | next => exact False.elim x
    | brk => exact False.elim x
    | cont => exact False.elim x
    | ret u =>
      obtain ⟨v, H', os, bare, un, hok', r', q⟩ := x
      have kept : ∀ b o, s₁.heap.get? b = some o → s'.heap.get? b = some o := fun b o e => by
        cases q2 : H b with
        | none => exact un.keep b o e q2 (by intro z; exact absurd (show b ∈ ([] : List Addr) from z) (by simp)) (by simp)
        | some u2 =>
          rcases hO b with z | ⟨ob, u3, z⟩
          · rw [q2] at z
            cases z
          · have z2 := un.frzs b ob _ z
            obtain ⟨e1, _⟩ := hok b _ z
            obtain ⟨e2, _⟩ := hok' b _ z2
            rw [e] at e1
            cases e1
            exact e2
      have KX' : K.In s'.heap := fun b o e => kept b o (KX b o e)
      obtain ⟨as, hrd⟩ := Dw.reads (R := R) (cl := cl) hok' KX' d0 v u q r'
      exact ⟨u, as, rfl, hrd, OldK.of_keep kept, os, bare⟩
/-! ### the row -/
theorem layable_weight {ds : List WData} (h : WData.layableAll ds = true) : ∀ d ∈ ds, d.weight ≤ 1048576 := fun d hd =>
  (PySem.W.layableW_iff.mp (List.all_eq_true.mp h d hd)).2.2
theorem encAll_len : ∀ (cs : List Codec) (a : Codec.denoteAll cs), (Codec.encAll cs a).length = cs.length
  | [], _ => rfl
  | c :: cs, a => by
    show (Codec.encAll cs a.2).length + 1 = cs.length + 1
    rw [encAll_len cs a.2]
/-- the goal that k_headS leaves (case hc), from the promise of the row's def: whatever the arguments that the codecs let and the row asks for, the def gives what stands for enc (f ..) -/
theorem walk_spec {r : OpenSpec} {k : Nat} {q : Program} {loose : List Str} {XP : (Str → Option Value) → Heap → Prop} {YP : World → Heap → Prop} {d : DefRec} {K : Params → PySem.W.Frag} {CX : World → CXT} {ps : List Str} {sp : World → Sp}
    (hwell : r.wellSaid = true) (hdf : d.params.defaults = []) (hlen : r.args.length = ps.length) (hr : Room k callerA)
    (hY : ∀ (w : World) (h : Heap), YP w h → (K w.params).In h)
    (F : ∀ (w : World) (mg : Str → Option Value) (fa : Addr) (h : Heap), YP w h → (K w.params).In h → h.Ns mainGlobals mg → mg d.name = some (.ref fa) →
      ∃ fd : FuncData, (∀ (s : Shared) (us : List Value), us.length = ps.length → BindsTo s fd ⟨us, []⟩ (ps.zip us)) ∧
        ∀ base : Heap, (K w.params).In base → base.Ns mainGlobals mg → FnOk r.prog w (K w.params) mg base (CX w) k fa fd ps (sp w))
    (hsp : ∀ (w : World) (H : Hp) (xs : List V) (a : Codec.denoteAll r.args), OnlyF H → Codec.withinAll r.args a = true → Codec.app r.args r.asked a = true → DwAll (K w.params) H xs (Codec.encAll r.args a) →
      sp w xs H (fun v H' => Dw (K w.params) H' v (r.ret.enc (Codec.app r.args r.f a))) fun _ _ _ => False)
    (hCX : ∀ (w : World) (H : Hp) (s : Shared) (e : Value) (s' : Shared), CX w [] H s (fun _ _ _ => False) e s' → False) :
    PySem.W.WalkOS q loose XP YP r d [] (fun f vs => PySem.call f vs) := by
  intro w s_0 s₁ mg mb G Y fa o pm cd doc dV kV ho hd hcd hD hmg hg args vals as hpre hlay hrd hwl hlo
  obtain ⟨a, e1, e2⟩ := PySem.W.os_pre_some hpre
  obtain ⟨e3, hwi⟩ := Codec.encAll_of_decAll r.args args a e1
  subst e3
  have KX := hY w _ Y
  obtain ⟨fd, hb, hF⟩ := F w mg fa _ Y KX G.T.g hmg
  refine PySem.W.enter_call (codeAny_mono (spec_call (R := []) (cl := classAt s_0.heap) (d0 := r.ret.enc (Codec.app r.args r.f a)) KX G.T.g G.T.b G.T.builtins G.T.nolimit hg hwl (pl_encAll _ _) (layable_weight hlay) hr hF hb (by rw [encAll_len]; exact hlen)
    (fun H xs hO hS => hsp w H xs a hO hwi e2 hS) fun H e s' => hCX w H s₁ e s') fun r' s' hq => ?_)
  obtain ⟨u, as', rfl, h1, h2, h3, h4⟩ := hq
  exact ⟨.inl ⟨u, _, as', rfl, fun _ => rfl, h1, (OpenSpec.post_iff hwell hwi _ _).mpr rfl, fun z => Bool.noConfusion (show false = true from z)⟩, h2, h3, h4⟩
/-- the same where the promise hangs on the written part alone -/
theorem walk_specK {r : OpenSpec} {k : Nat} {q : Program} {loose : List Str} {XP : (Str → Option Value) → Heap → Prop} {YP : World → Heap → Prop} {d : DefRec} {K : Params → PySem.W.Frag} {CX : CXT} {ps : List Str} {sp : PySem.W.Frag → Sp}
    (hwell : r.wellSaid = true) (hdf : d.params.defaults = []) (hlen : r.args.length = ps.length) (hr : Room k callerA)
    (hY : ∀ (w : World) (h : Heap), YP w h → (K w.params).In h)
    (F : ∀ (w : World) (mg : Str → Option Value) (fa : Addr) (h : Heap), YP w h → (K w.params).In h → h.Ns mainGlobals mg → mg d.name = some (.ref fa) →
      ∃ fd : FuncData, (∀ (s : Shared) (us : List Value), us.length = ps.length → BindsTo s fd ⟨us, []⟩ (ps.zip us)) ∧
        ∀ base : Heap, (K w.params).In base → base.Ns mainGlobals mg → FnOk r.prog w (K w.params) mg base CX k fa fd ps (sp (K w.params)))
    (hsp : ∀ (K : PySem.W.Frag) (H : Hp) (xs : List V) (a : Codec.denoteAll r.args), OnlyF H → Codec.withinAll r.args a = true → Codec.app r.args r.asked a = true → DwAll K H xs (Codec.encAll r.args a) →
      sp K xs H (fun v H' => Dw K H' v (r.ret.enc (Codec.app r.args r.f a))) fun _ _ _ => False)
    (hCX : ∀ (H : Hp) (s : Shared) (e : Value) (s' : Shared), CX [] H s (fun _ _ _ => False) e s' → False) :
    PySem.W.WalkOS q loose XP YP r d [] (fun f vs => PySem.call f vs) :=
  walk_spec (K := K) (CX := fun _ => CX) (sp := fun w => sp (K w.params)) hwell hdf hlen hr hY F (fun w H xs a h1 h2 h3 h4 => hsp (K w.params) H xs a h1 h2 h3 h4) fun _ H s e s' => hCX H s e s'
end L2
end

set_option Elab.async false
set_option linter.all false
set_option maxRecDepth 100000
set_option maxHeartbeats 4000000
namespace Po
open LwPool PoolCalls

structure SlotOk (s : Slot) : Prop where
  cnt : s.count ≤ 32
  giv : s.next.given ≤ s.count
  job : s.job.length ≤ 4
  wds : s.words.length = 4
  bts : ∀ x ∈ s.words, x.bits.length = 8

def TakeOk (s : Slot) (w : Next) : Prop :=
  (w.stamp < s.state.stamp ∨ (w.stamp = s.state.stamp ∧ (s.state.phase = 2 ∨ s.state.phase = 4))) ∧ (w.stamp = s.next.stamp → w.given < s.count)

def OpOk : Op → Prop
  | .offer _ _ job => job.length ≤ 4
  | _ => True

def AtOk (b : Board) : Op → At → Prop
  | .offer n _ _, .offered i k v => i < 2 ∧ 1 ≤ k ∧ k ≤ 3 ∧ 1 ≤ n ∧ n ≤ 32 ∧ v.phase = 0
  | .offer n _ _, .laying i v => i < 2 ∧ 1 ≤ n ∧ n ≤ 32 ∧ (b.slot i).state = ⟨v.stamp, 1⟩
  | .offer _ _ _, .opening i v => i < 2 ∧ (b.slot i).state = ⟨v.stamp, 1⟩
  | .take, .taking i k v w _ job => i < 2 ∧ 1 ≤ k ∧ k ≤ 3 ∧ job.length ≤ 4 ∧ w.stamp = v.stamp ∧ TakeOk (b.slot i) w
  | .done t n, .marking k x => n < 32 ∧ 1 ≤ k ∧ k ≤ 3 ∧ x.stamp = stampOf t ∧ x.bits.length = 8
  | .done _ _, .finishing l => l = []
  | .halt_ t, .stopping k w => 1 ≤ k ∧ k ≤ 3 ∧ w.stamp = stampOf t ∧ w.stopped = false
  | .halt_ _, .finishing l => ∃ g, l = [g]
  | .look _, .looking => True
  | .clear t, .clearing k v => 1 ≤ k ∧ k ≤ 3 ∧ v = ⟨stampOf t, 4⟩
  | .key, .keying => True
  | .wake, .waking k _ => 1 ≤ k ∧ k ≤ 3
  | _, _ => False

/-- the slot in which a party lays -/
def layAt : At → Option Nat
  | .laying i _ => some i
  | .opening i _ => some i
  | _ => none

structure BOk (b : Board) : Prop where
  len : b.slots.length = 2
  sl : ∀ j, j < 2 → SlotOk (b.slot j)

/-- a step of one party, seen by the others: L j: another one lays in slot j -/
structure Mv (L : Nat → Prop) (b b' : Board) : Prop where
  ok : BOk b'
  tk : ∀ j, j < 2 → ∀ w, TakeOk (b.slot j) w → TakeOk (b'.slot j) w
  st : ∀ j, j < 2 → L j → (b'.slot j).state = (b.slot j).state

theorem slot_with (b : Board) (i j : Nat) (s : Slot) (h : i < b.slots.length) : (b.with_ i s).slot j = if j = i then s else b.slot j := by
  unfold Board.slot Board.with_
  simp only [List.getD_eq_getElem?_getD, List.getElem?_set]
  by_cases e : i = j
  · subst e; simp [h]
  · simp [e, Ne.symm e]
theorem len_with (b : Board) (i : Nat) (s : Slot) : (b.with_ i s).slots.length = b.slots.length := by
  unfold Board.with_; simp
theorem samePhase_iff {a b : Phase} : samePhase a b = true ↔ a = b := by
  cases a; cases b; unfold samePhase; simp
theorem sameNext_iff {a b : Next} : sameNext a b = true ↔ a = b := by
  cases a; cases b; unfold sameNext; simp
theorem sameWord_iff {a b : Word} : sameWord a b = true ↔ a = b := by
  cases a; cases b; unfold sameWord; simp

theorem Mv.refl {L : Nat → Prop} {b : Board} (h : BOk b) : Mv L b b := ⟨h, fun _ _ _ h => h, fun _ _ _ => rfl⟩
theorem Mv.upd {L : Nat → Prop} {b : Board} {i : Nat} {s : Slot} (h : BOk b) (hi : i < 2) (ok : SlotOk s) (tk : ∀ w, TakeOk (b.slot i) w → TakeOk s w) (st : L i → s.state = (b.slot i).state) : Mv L b (b.with_ i s) := by
  have hl : i < b.slots.length := by rw [h.len]; exact hi
  refine ⟨⟨by rw [len_with]; exact h.len, fun j hj => ?_⟩, fun j hj w hw => ?_, fun j hj hL => ?_⟩
  · rw [slot_with b i j s hl]; split
    · exact ok
    · exact h.sl j hj
  · rw [slot_with b i j s hl]; split
    · rename_i e; subst e; exact tk w hw
    · exact hw
  · rw [slot_with b i j s hl]; split
    · rename_i e; subst e; exact st hL
    · rfl

/-- the outcome of a step -/
def TurnOk (L : Nat → Prop) (b : Board) (o : Op) (l0 : Option Nat) : Turn → Prop
  | .gap b' a => Mv L b b' ∧ AtOk b' o a ∧ (∀ i, layAt a = some i → l0 = some i ∨ (b.slot i).state.phase = 0)
  | .ends b' _ => Mv L b b'

theorem offerFrom_ok {L : Nat → Prop} {b : Board} {n kind : Nat} {job : List Nat} {k : Nat} {l0 : Option Nat} (h : BOk b) (h1 : 1 ≤ n) (h2 : n ≤ 32) (hk : 1 ≤ k) (hk3 : k ≤ 3) : ∀ m, TurnOk L b (.offer n kind job) l0 (offerFrom b k m)
  | 0 => Mv.refl h
  | m + 1 => by
    unfold offerFrom
    simp only
    split
    · refine ⟨Mv.refl h, ?_, fun i e => by simp [layAt] at e⟩
      refine ⟨?_, hk, hk3, h1, h2, by assumption⟩
      unfold SLOTS; omega
    · exact offerFrom_ok h h1 h2 hk hk3 m
theorem mayGive_iff {s : Slot} : mayGive s = true ↔ s.state.phase = 2 ∧ s.next.stamp = s.state.stamp ∧ s.next.stopped = false ∧ s.next.given < s.count := by
  unfold mayGive; simp
theorem takeFrom_ok {L : Nat → Prop} {b : Board} {k : Nat} {l0 : Option Nat} (h : BOk b) (hk : 1 ≤ k) (hk3 : k ≤ 3) : ∀ m, TurnOk L b .take l0 (takeFrom b k m)
  | 0 => Mv.refl h
  | m + 1 => by
    unfold takeFrom
    simp only
    split
    · rename_i hm
      obtain ⟨m1, m2, m3, m4⟩ := mayGive_iff.mp hm
      have hi : SLOTS - (m + 1) < 2 := by unfold SLOTS; omega
      refine ⟨Mv.refl h, ⟨hi, hk, hk3, (h.sl _ hi).job, m2, Or.inr ⟨m2, Or.inl m1⟩, fun _ => m4⟩, fun i e => by simp [layAt] at e⟩
    · exact takeFrom_ok h hk hk3 m
theorem finish_ok {L : Nat → Prop} {b b' : Board} {o : Op} {l : List Nat} {l0 : Option Nat} {t : Nat} (h : Mv L b b') (hl : AtOk b' o (.finishing l)) : TurnOk L b o l0 (finish t l b') := by
  unfold finish
  split
  · exact ⟨h, hl, fun i e => by simp [layAt] at e⟩
  · exact h
theorem slotOf_lt (t : Nat) : slotOf t < 2 := Nat.mod_lt _ (by decide)
theorem word_ok {s : Slot} (h : SlotOk s) (j : Nat) : (s.word j).bits.length = 8 := by
  unfold Slot.word
  rw [List.getD_eq_getElem?_getD]
  cases e : s.words[j]? with
  | none => rfl
  | some x => exact h.bts x (List.mem_of_getElem? e)
theorem markTry_ok {L : Nat → Prop} {b : Board} {l0 : Option Nat} {t n k : Nat} (h : BOk b) (hn : n < 32) (hk : 1 ≤ k) (hk3 : k ≤ 3) : TurnOk L b (.done t n) l0 (markTry t n k b) := by
  unfold markTry
  simp only
  split
  · exact Mv.refl h
  · rename_i hs
    split
    · exact Mv.refl h
    · exact ⟨Mv.refl h, ⟨hn, hk, hk3, Classical.not_not.mp hs, word_ok (h.sl _ (slotOf_lt t)) _⟩, fun i e => by simp [layAt] at e⟩
theorem stopTry_ok {L : Nat → Prop} {b : Board} {l0 : Option Nat} {t k : Nat} (h : BOk b) (hk : 1 ≤ k) (hk3 : k ≤ 3) : TurnOk L b (.halt_ t) l0 (stopTry t k b) := by
  unfold stopTry
  simp only
  split
  · exact Mv.refl h
  · rename_i hs
    split
    · exact Mv.refl h
    · exact ⟨Mv.refl h, ⟨hk, hk3, Classical.not_not.mp hs, by rename_i q; simpa using q⟩, fun i e => by simp [layAt] at e⟩
theorem isAt_iff {b : Board} {t ph : Nat} : b.isAt t ph = true ↔ (b.slot (slotOf t)).state = ⟨stampOf t, ph⟩ := samePhase_iff
theorem clearTry_ok {L : Nat → Prop} {b : Board} {l0 : Option Nat} {t k : Nat} (h : BOk b) (hk : 1 ≤ k) (hk3 : k ≤ 3) : TurnOk L b (.clear t) l0 (clearTry t k b) := by
  unfold clearTry
  split
  · rename_i e
    exact ⟨Mv.refl h, ⟨hk, hk3, isAt_iff.mp e⟩, fun i e => by simp [layAt] at e⟩
  · exact Mv.refl h
theorem event_mv {L : Nat → Prop} {b : Board} (h : BOk b) (x : Nat) : Mv L b { b with event := x } := ⟨⟨h.len, h.sl⟩, fun _ _ _ h => h, fun _ _ _ => rfl⟩

theorem begins_ok {L : Nat → Prop} {b : Board} {o : Op} (h : BOk b) : TurnOk L b o none (begins o b) := by
  cases o with
  | offer n kind job =>
    show TurnOk L b _ none (if n < 1 ∨ MOST < n then _ else offerFrom b TRIES SLOTS)
    split
    · exact Mv.refl h
    · rename_i hn
      unfold MOST at hn
      exact offerFrom_ok h (by omega) (by omega) (by decide) (by decide) _
  | take => exact takeFrom_ok h (by decide) (by decide) _
  | again t => exact Mv.refl h
  | done t k =>
    show TurnOk L b _ none (if MOST ≤ k then _ else if b.isAt t 2 = false then _ else if (b.slot (slotOf t)).count ≤ k then _ else markTry t k TRIES b)
    split
    · exact Mv.refl h
    · rename_i hk
      split
      · exact Mv.refl h
      · split
        · exact Mv.refl h
        · exact markTry_ok h (by unfold MOST at hk; omega) (by decide) (by decide)
  | halt_ t =>
    show TurnOk L b _ none (if b.isAt t 2 = false then _ else stopTry t TRIES b)
    split
    · exact Mv.refl h
    · exact stopTry_ok h (by decide) (by decide)
  | look t =>
    show TurnOk L b _ none (if b.isAt t 4 = true then _ else if b.isAt t 2 = false then _ else if (b.slot (slotOf t)).complete = true then _ else _)
    split
    · exact Mv.refl h
    · split
      · exact Mv.refl h
      · split
        · exact ⟨Mv.refl h, trivial, fun i e => by simp [layAt] at e⟩
        · exact Mv.refl h
  | clear t => exact clearTry_ok h (by decide) (by decide)
  | key => exact ⟨Mv.refl h, trivial, fun i e => by simp [layAt] at e⟩
  | sleep x => exact Mv.refl h
  | wake => exact ⟨Mv.refl h, ⟨by decide, by decide⟩, fun i e => by simp [layAt] at e⟩

theorem setState_ok {s : Slot} (h : SlotOk s) (v : Phase) : SlotOk { s with state := v } := ⟨h.cnt, h.giv, h.job, h.wds, h.bts⟩

theorem goes_ok {L : Nat → Prop} {b : Board} {o : Op} {a : At} (h : BOk b) (ho : OpOk o) (ha : AtOk b o a) (hL : ∀ j, j < 2 → L j → (b.slot j).state.phase = 1 ∧ layAt a ≠ some j) : TurnOk L b o (layAt a) (goesOn o a b) := by
  cases a with
  | offered i k v =>
    cases o with
    | offer n kind job =>
      obtain ⟨hi, hk, hk3, h1, h2, hv⟩ := ha
      show TurnOk L b _ _ (if samePhase (b.slot i).state v = true then _ else if k ≤ 1 then _ else offerFrom b (k - 1) (SLOTS - (i + 1)))
      split
      · rename_i e
        have e := samePhase_iff.mp e
        refine ⟨Mv.upd h hi (setState_ok (h.sl i hi) _) (fun w hw => ?_) (fun q => ?_), ⟨hi, h1, h2, ?_⟩, fun j ej => ?_⟩
        · obtain ⟨w1, w2⟩ := hw
          rw [e] at w1
          refine ⟨Or.inl ?_, w2⟩
          rcases w1 with w1 | ⟨_, w1⟩
          · exact w1
          · omega
        · have q := (hL i hi q).1
          rw [e] at q
          omega
        · rw [slot_with _ _ _ _ (by rw [h.len]; exact hi), if_pos rfl]
        · have ej : i = j := by simpa [layAt] using ej
          subst ej
          rw [e]
          exact Or.inr hv
      · split
        · exact Mv.refl h
        · exact offerFrom_ok h h1 h2 (by omega) (by omega) _
    | _ => exact ha.elim
  | laying i v =>
    cases o with
    | offer n kind job =>
      obtain ⟨hi, h1, h2, hs⟩ := ha
      show TurnOk L b _ _ (.gap (b.with_ i (written v (.offer n kind job) (b.slot i))) (.opening i v))
      have hn : ¬ L i := fun q => (hL i hi q).2 rfl
      refine ⟨Mv.upd h hi ⟨h2, Nat.zero_le _, ho, ?_, ?_⟩ (fun w hw => ?_) (fun q => absurd q hn), ⟨hi, ?_⟩, fun j ej => Or.inl (by simpa [layAt] using ej)⟩
      · simp [written, MOST, WORD]
      · intro x hx
        have hx : x ∈ List.replicate (MOST / WORD) ({ stamp := v.stamp, bits := List.replicate WORD false } : Word) := hx
        rw [List.mem_replicate] at hx
        rw [hx.2]
        simp [WORD]
      · obtain ⟨w1, w2⟩ := hw
        rw [hs] at w1
        refine ⟨Or.inl ?_, fun q => ?_⟩
        · show w.stamp < (b.slot i).state.stamp
          rw [hs]
          rcases w1 with w1 | ⟨_, w1⟩
          · exact w1
          · exact absurd w1 (by simp)
        · have q : w.stamp = v.stamp := q
          rcases w1 with w1 | ⟨_, w1⟩
          · have w1 : w.stamp < v.stamp := w1
            omega
          · exact absurd w1 (by simp)
      · rw [slot_with _ _ _ _ (by rw [h.len]; exact hi), if_pos rfl]
        exact hs
    | _ => exact ha.elim
  | opening i v =>
    cases o with
    | offer n kind job =>
      obtain ⟨hi, hs⟩ := ha
      have hn : ¬ L i := fun q => (hL i hi q).2 rfl
      refine Mv.upd h hi (setState_ok (h.sl i hi) _) (fun w hw => ?_) (fun q => absurd q hn)
      obtain ⟨w1, w2⟩ := hw
      rw [hs] at w1
      refine ⟨Or.inl ?_, w2⟩
      rcases w1 with w1 | ⟨_, w1⟩
      · exact w1
      · exact absurd w1 (by simp)
    | _ => exact ha.elim
  | taking i k v w kind job =>
    cases o with
    | take =>
      obtain ⟨hi, hk, hk3, hj, hv, hw⟩ := ha
      show TurnOk L b _ _ (if sameNext (b.slot i).next w = true then _ else if k ≤ 1 then _ else takeFrom b (k - 1) (SLOTS - i))
      split
      · rename_i e
        have e := sameNext_iff.mp e
        have hs := h.sl i hi
        refine Mv.upd h hi ⟨hs.cnt, ?_, hs.job, hs.wds, hs.bts⟩ (fun w' hw' => ?_) (fun _ => rfl)
        · exact hw.2 (by rw [e])
        · obtain ⟨w1, w2⟩ := hw'
          exact ⟨w1, fun q => w2 (by rw [e]; exact q)⟩
      · split
        · exact Mv.refl h
        · exact takeFrom_ok h (by omega) (by omega) _
    | _ => exact ha.elim
  | marking k x =>
    cases o with
    | done t n =>
      obtain ⟨hn, hk, hk3, hx, hb⟩ := ha
      show TurnOk L b _ _ (if sameWord ((b.slot (slotOf t)).word (n / WORD)) x = true then _ else if k ≤ 1 then _ else markTry t n (k - 1) b)
      have hs := h.sl _ (slotOf_lt t)
      split
      · refine finish_ok (Mv.upd h (slotOf_lt t) ⟨hs.cnt, hs.giv, hs.job, ?_, fun y hy => ?_⟩ (fun w hw => hw) (fun _ => rfl)) rfl
        · exact (List.length_set ..).trans hs.wds
        · rcases List.mem_or_eq_of_mem_set hy with q | q
          · exact hs.bts y q
          · rw [q]
            exact (List.length_set ..).trans hb
      · split
        · exact Mv.refl h
        · exact markTry_ok h hn (by omega) (by omega)
    | _ => exact ha.elim
  | finishing l =>
    have key : ∀ t, TurnOk L b o (layAt (.finishing l)) (if b.isAt t 2 = true then .ends (b.with_ (slotOf t) { b.slot (slotOf t) with state := ⟨stampOf t, 4⟩ }) (nums 1 l) else .ends b (nums 0 l)) := by
      intro t
      split
      · rename_i e
        have e := isAt_iff.mp e
        refine Mv.upd h (slotOf_lt t) (setState_ok (h.sl _ (slotOf_lt t)) _) (fun w hw => ?_) (fun q => ?_)
        · obtain ⟨w1, w2⟩ := hw
          rw [e] at w1
          refine ⟨?_, w2⟩
          rcases w1 with w1 | ⟨w0, _⟩
          · exact Or.inl w1
          · exact Or.inr ⟨w0, Or.inr rfl⟩
        · have q := (hL _ (slotOf_lt t) q).1
          rw [e] at q
          exact absurd q (by simp)
      · exact Mv.refl h
    cases o <;> first | exact key _ | exact ha.elim
  | stopping k w =>
    cases o with
    | halt_ t =>
      obtain ⟨hk, hk3, hw, hst⟩ := ha
      show TurnOk L b _ _ (if sameNext (b.slot (slotOf t)).next w = true then _ else if k ≤ 1 then _ else stopTry t (k - 1) b)
      have hs := h.sl _ (slotOf_lt t)
      split
      · rename_i e
        have e := sameNext_iff.mp e
        refine finish_ok (Mv.upd h (slotOf_lt t) ⟨hs.cnt, ?_, hs.job, hs.wds, hs.bts⟩ (fun w' hw' => ?_) (fun _ => rfl)) ⟨_, rfl⟩
        · have := hs.giv
          rw [e] at this
          exact this
        · obtain ⟨w1, w2⟩ := hw'
          exact ⟨w1, fun q => w2 (by show w'.stamp = (b.slot (slotOf t)).next.stamp; rw [e]; exact q)⟩
      · split
        · exact Mv.refl h
        · exact stopTry_ok h (by omega) (by omega)
    | _ => exact ha.elim
  | looking =>
    cases o with
    | look t =>
      show TurnOk L b _ _ (if b.isAt t 2 = true then _ else if b.isAt t 4 = true then _ else _)
      split
      · rename_i e
        have e := isAt_iff.mp e
        refine Mv.upd h (slotOf_lt t) (setState_ok (h.sl _ (slotOf_lt t)) _) (fun w hw => ?_) (fun q => ?_)
        · obtain ⟨w1, w2⟩ := hw
          rw [show (b.slot (slotOf (Op.look t).ticket)).state = _ from e] at w1
          refine ⟨?_, w2⟩
          rcases w1 with w1 | ⟨w0, _⟩
          · exact Or.inl w1
          · exact Or.inr ⟨w0, Or.inr rfl⟩
        · have q := (hL _ (slotOf_lt t) q).1
          rw [e] at q
          exact absurd q (by simp)
      · split
        · exact Mv.refl h
        · exact Mv.refl h
    | _ => exact ha.elim
  | clearing k v =>
    cases o with
    | clear t =>
      obtain ⟨hk, hk3, hv⟩ := ha
      show TurnOk L b _ _ (if samePhase (b.slot (slotOf t)).state v = true then _ else if k ≤ 1 then _ else clearTry t (k - 1) b)
      split
      · rename_i e
        have e := samePhase_iff.mp e
        rw [hv] at e
        refine Mv.upd h (slotOf_lt t) (setState_ok (h.sl _ (slotOf_lt t)) _) (fun w hw => ?_) (fun q => ?_)
        · obtain ⟨w1, w2⟩ := hw
          rw [show (b.slot (slotOf (Op.clear t).ticket)).state = _ from e] at w1
          refine ⟨Or.inl ?_, w2⟩
          show w.stamp < stampOf t + 1
          rcases w1 with w1 | ⟨w0, _⟩
          · have w1 : w.stamp < stampOf t := w1
            omega
          · have w0 : w.stamp = stampOf t := w0
            omega
        · have q := (hL _ (slotOf_lt t) q).1
          rw [e] at q
          exact absurd q (by simp)
      · split
        · exact Mv.refl h
        · exact clearTry_ok h (by omega) (by omega)
    | _ => exact ha.elim
  | keying =>
    cases o with
    | key => exact event_mv h _
    | _ => exact ha.elim
  | waking k x =>
    cases o with
    | wake =>
      obtain ⟨hk, hk3⟩ := ha
      show TurnOk L b _ _ (if b.event = x then (if x % 2 = 0 then _ else _) else if k ≤ 1 then _ else wakeTry (k - 1) b)
      split
      · split
        · exact event_mv h _
        · exact event_mv h _
      · split
        · exact Mv.refl h
        · exact ⟨Mv.refl h, ⟨by omega, by omega⟩, fun i e => by simp [layAt] at e⟩
    | _ => exact ha.elim

structure SysOk (s : State) : Prop where
  b : BOk s.board
  pl : s.parties.length = 4
  pt : ∀ p o a, s.party p = some (o, a) → OpOk o ∧ AtOk s.board o a
  un : ∀ p q o a o' a' i, p ≠ q → s.party p = some (o, a) → s.party q = some (o', a') → layAt a = some i → layAt a' = some i → False

theorem AtOk.lay {b : Board} {o : Op} {a : At} {i : Nat} (h : AtOk b o a) (hl : layAt a = some i) : i < 2 ∧ (b.slot i).state.phase = 1 := by
  cases a <;> simp [layAt] at hl
  all_goals (subst hl; cases o <;> first | exact h.elim | skip)
  · exact ⟨h.1, by rw [h.2.2.2]⟩
  · exact ⟨h.1, by rw [h.2]⟩
theorem AtOk.mv {L : Nat → Prop} {b b' : Board} {o : Op} {a : At} (h : AtOk b o a) (m : Mv L b b') (hl : ∀ i, layAt a = some i → L i) : AtOk b' o a := by
  cases a with
  | laying i v =>
    cases o with
    | offer n kind job => exact ⟨h.1, h.2.1, h.2.2.1, by rw [m.st i h.1 (hl i rfl)]; exact h.2.2.2⟩
    | _ => exact h.elim
  | opening i v =>
    cases o with
    | offer n kind job => exact ⟨h.1, by rw [m.st i h.1 (hl i rfl)]; exact h.2⟩
    | _ => exact h.elim
  | taking i k v w kind job =>
    cases o with
    | take => exact ⟨h.1, h.2.1, h.2.2.1, h.2.2.2.1, h.2.2.2.2.1, m.tk i h.1 w h.2.2.2.2.2⟩
    | _ => exact h.elim
  | _ => cases o <;> first | exact h | exact h.elim

theorem party_set {s : State} {p q : Nat} {b : Board} {x : Option (Op × At)} (hp : p < s.parties.length) : State.party ⟨b, s.parties.set p x⟩ q = if q = p then x else s.party q := by
  unfold State.party
  simp only [List.getD_eq_getElem?_getD, List.getElem?_set]
  by_cases e : p = q
  · subst e; simp [hp]
  · simp [e, Ne.symm e]

/-- others that lay in slot j -/
def Oth (s : State) (p : Nat) (j : Nat) : Prop := ∃ q o a, q ≠ p ∧ s.party q = some (o, a) ∧ layAt a = some j

theorem took_ok {s : State} {p : Nat} {o : Op} {x : Turn} {l0 : Option Nat} (h : SysOk s) (hp : p < 4) (ho : OpOk o) (hx : TurnOk (Oth s p) s.board o l0 x)
    (h0 : ∀ i, l0 = some i → ∃ o0 a0, s.party p = some (o0, a0) ∧ layAt a0 = some i) : SysOk (took s p o x).1 := by
  have hpl : p < s.parties.length := by rw [h.pl]; exact hp
  cases x with
  | gap b' a =>
    obtain ⟨m, ha, hl⟩ := hx
    have key : ∀ q o' a' i, q ≠ p → s.party q = some (o', a') → layAt a = some i → layAt a' = some i → False := by
      intro q o' a' i hq e la la'
      rcases hl i la with z | z
      · obtain ⟨o0, a0, e0, l0⟩ := h0 i z
        exact h.un q p _ _ _ _ i hq e e0 la' l0
      · have w := (AtOk.lay (h.pt q _ _ e).2 la').2
        omega
    refine ⟨m.ok, by show (s.parties.set p _).length = 4; rw [List.length_set]; exact h.pl, fun q o' a' e => ?_, fun q r o1 a1 o2 a2 i hqr e1 e2 l1 l2 => ?_⟩
    · have e : State.party ⟨b', s.parties.set p (some (o, a))⟩ q = some (o', a') := e
      rw [party_set hpl] at e
      by_cases hq : q = p
      · rw [if_pos hq] at e
        cases e
        exact ⟨ho, ha⟩
      · rw [if_neg hq] at e
        exact ⟨(h.pt q _ _ e).1, (h.pt q _ _ e).2.mv m fun i li => ⟨q, o', a', hq, e, li⟩⟩
    · have e1 : State.party ⟨b', s.parties.set p (some (o, a))⟩ q = some (o1, a1) := e1
      have e2 : State.party ⟨b', s.parties.set p (some (o, a))⟩ r = some (o2, a2) := e2
      rw [party_set hpl] at e1 e2
      by_cases hq : q = p
      · rw [if_pos hq] at e1
        cases e1
        have hr : r ≠ p := fun z => hqr (hq.trans z.symm)
        rw [if_neg hr] at e2
        exact key r _ _ i hr e2 l1 l2
      · rw [if_neg hq] at e1
        by_cases hr : r = p
        · rw [if_pos hr] at e2
          cases e2
          exact key q _ _ i hq e1 l2 l1
        · rw [if_neg hr] at e2
          exact h.un q r _ _ _ _ i hqr e1 e2 l1 l2
  | ends b' r =>
    refine ⟨hx.ok, by show (s.parties.set p _).length = 4; rw [List.length_set]; exact h.pl, fun q o' a' e => ?_, fun q r o1 a1 o2 a2 i hqr e1 e2 l1 l2 => ?_⟩
    · have e : State.party ⟨b', s.parties.set p none⟩ q = some (o', a') := e
      rw [party_set hpl] at e
      by_cases hq : q = p
      · rw [if_pos hq] at e
        cases e
      · rw [if_neg hq] at e
        exact ⟨(h.pt q _ _ e).1, (h.pt q _ _ e).2.mv hx fun i li => ⟨q, o', a', hq, e, li⟩⟩
    · have e1 : State.party ⟨b', s.parties.set p none⟩ q = some (o1, a1) := e1
      have e2 : State.party ⟨b', s.parties.set p none⟩ r = some (o2, a2) := e2
      rw [party_set hpl] at e1 e2
      by_cases hq : q = p
      · rw [if_pos hq] at e1; cases e1
      · rw [if_neg hq] at e1
        by_cases hr : r = p
        · rw [if_pos hr] at e2; cases e2
        · rw [if_neg hr] at e2
          exact h.un q r _ _ _ _ i hqr e1 e2 l1 l2

theorem oth_phase {s : State} (h : SysOk s) {p j : Nat} (q : Oth s p j) : (s.board.slot j).state.phase = 1 := by
  obtain ⟨q, o, a, _, e, l⟩ := q
  exact (AtOk.lay (h.pt q _ _ e).2 l).2

def CallOk : PoolCalls.Call → Prop
  | .begin_ _ o => OpOk o
  | _ => True

theorem step_ok {s : State} {c : PoolCalls.Call} (h : SysOk s) (hc : CallOk c) : SysOk (step s c).1 := by
  cases c with
  | begin_ p o =>
    show SysOk (if PARTIES ≤ p then (s, BAD) else match s.party p with | some _ => (s, NOT) | none => took s p o (begins o s.board)).1
    split
    · exact h
    · rename_i hp
      split
      · exact h
      · exact took_ok (l0 := none) h (by unfold PARTIES at hp; omega) hc (begins_ok h.b) fun i e => by cases e
  | go p =>
    show SysOk (if PARTIES ≤ p then (s, BAD) else match s.party p with | none => (s, NOT) | some x => took s p x.1 (goesOn x.1 x.2 s.board)).1
    split
    · exact h
    · rename_i hp
      split
      · exact h
      · rename_i x e
        obtain ⟨o, a⟩ := x
        obtain ⟨h1, h2⟩ := h.pt p o a e
        refine took_ok h (by unfold PARTIES at hp; omega) h1 (goes_ok h.b h1 h2 fun j hj q => ⟨oth_phase h q, fun l => ?_⟩) fun i l => ⟨o, a, e, l⟩
        obtain ⟨r, o', a', hr, e', l'⟩ := q
        exact h.un r p _ _ _ _ j hr e' e l' l
  | gone p =>
    show SysOk (if PARTIES ≤ p then (s, BAD) else match s.party p with | none => (s, NOT) | some _ => ({ s with parties := s.parties.set p none }, says 2)).1
    split
    · exact h
    · rename_i hp
      split
      · exact h
      · exact took_ok (x := .ends s.board (num 0)) (o := .take) (l0 := none) h (by unfold PARTIES at hp; omega) trivial (Mv.refl h.b) fun i e => by cases e
  | board => exact h

theorem start_ok : SysOk start := by
  have e : ∀ p, start.party p = none := by
    intro p
    show (List.replicate PARTIES none).getD p none = none
    rw [List.getD_eq_getElem?_getD, List.getElem?_replicate]
    split <;> rfl
  refine ⟨⟨rfl, fun j hj => ?_⟩, rfl, fun p o a h => ?_, fun p q o a o' a' i _ h => ?_⟩
  · have es : start.board.slot j = noSlot := by
      show (List.replicate SLOTS noSlot).getD j noSlot = noSlot
      rw [List.getD_eq_getElem?_getD, List.getElem?_replicate]
      split <;> rfl
    rw [es]
    refine ⟨by decide, by decide, by decide, by decide, ?_⟩
    intro x hx
    have hx : x ∈ List.replicate (MOST / WORD) noWord := hx
    rw [List.mem_replicate] at hx
    rw [hx.2]
    rfl
  · rw [e] at h; cases h
  · rw [e] at h; cases h
end Po

namespace Po
open LwPool PoolCalls PoolNeutral

def encP : PoolCalls.Call → Int
  | .begin_ _ o => place o
  | .go _ => 10
  | .gone _ => 11
  | .board => 12
def opN : Op → List Int
  | .offer n k _ => [(n : Int), (k : Int)]
  | .take => []
  | .again t => [(t : Int)]
  | .done t k => [(t : Int), (k : Int)]
  | .halt_ t => [(t : Int)]
  | .look t => [(t : Int)]
  | .clear t => [(t : Int)]
  | .key => []
  | .sleep x => [(x : Int)]
  | .wake => []
def encN : PoolCalls.Call → List Int
  | .begin_ p o => (p : Int) :: opN o
  | .go p => [(p : Int)]
  | .gone p => [(p : Int)]
  | .board => []
def opJ : Op → List Nat
  | .offer _ _ j => j
  | _ => []
def encJ : PoolCalls.Call → List Nat
  | .begin_ _ o => opJ o
  | _ => []

theorem ints_nats {l : List Int} (h : ∀ z ∈ l, 0 ≤ z) : PoolNeutral.ints (nats l) = l := by
  unfold PoolNeutral.ints nats
  rw [List.map_map]
  conv => rhs; rw [← List.map_id l]
  apply List.map_congr_left
  intro z hz
  have := h z hz
  show ((z.toNat : Nat) : Int) = z
  omega
theorem nat_ok {z : Int} {n : Nat} (h : natural z n = true) : ((z.toNat : Nat) : Int) = z := by
  unfold natural at h
  rw [Bool.and_eq_true] at h
  have := of_decide_eq_true h.1
  omega

/-- what is read of a call at the list's beginning -/
structure Rd1 (p : Int) (r : List Int) (c : List (List Int)) (t : List Int) (x : PoolCalls.Call) : Prop where
  call : callOf c = some x
  ok : CallOk x
  pl : encP x = p
  nle : (encN x).length ≤ r.length
  num : r.take (encN x).length = encN x
  rest : (p ≠ 0 ∧ encJ x = [] ∧ t = r.drop (encN x).length) ∨ (p = 0 ∧ (encN x).length = 3 ∧ r[3]? = some ((encJ x).length : Int) ∧ (r.drop 4).take (encJ x).length = PoolNeutral.ints (encJ x) ∧ 4 + (encJ x).length ≤ r.length ∧ t = r.drop (4 + (encJ x).length))

theorem long_ok {l : List Int} {n : Nat} {hi : Int} (h : long l n 0 hi = true) : l.length ≤ n ∧ ∀ z ∈ l, 0 ≤ z := by
  unfold long at h
  rw [Bool.and_eq_true, List.all_eq_true] at h
  refine ⟨of_decide_eq_true h.1, fun z hz => ?_⟩
  have := h.2 z hz
  rw [Bool.and_eq_true] at this
  exact of_decide_eq_true this.1

theorem rd_offer {r : List Int} {c : List (List Int)} {t : List Int} (h : PyFlat.call PyWrlntm.shape (0 :: r) = some (c, t)) (ha : asked1 (PyWrlntm.whole c) = true) : ∃ x, Rd1 0 r (PyWrlntm.whole c) t x := by
  match r with
  | x0 :: x1 :: x2 :: m :: r' =>
    by_cases hm : 0 ≤ m ∧ m.toNat ≤ r'.length
    · have e : (c, t) = ([[0, x0, x1, x2], r'.take m.toNat], r'.drop m.toNat) := by
        simp [PyFlat.call, PyWrlntm.shape, PyFlat.rows, PyFlat.row, hm] at h
        rw [← h.1, ← h.2]
      cases e
      have ha : (natural x0 53 && (natural x1 53 && (natural x2 53 && long (r'.take m.toNat) 4 0 9007199254740991))) = true := ha
      simp only [Bool.and_eq_true] at ha
      obtain ⟨h0, h1, h2, h3⟩ := ha
      obtain ⟨h4, h5⟩ := long_ok h3
      have hl : (nats (r'.take m.toNat)).length = m.toNat := by
        unfold nats
        rw [List.length_map, List.length_take]
        omega
      refine ⟨.begin_ x0.toNat (.offer x1.toNat x2.toNat (nats (r'.take m.toNat))), rfl, ?_, rfl, ?_, ?_, Or.inr ⟨rfl, rfl, ?_, ?_, ?_, ?_⟩⟩
      · show (nats (r'.take m.toNat)).length ≤ 4
        unfold nats
        rw [List.length_map]
        exact h4
      · show 3 ≤ (x0 :: x1 :: x2 :: m :: r').length
        simp
      · show [x0, x1, x2] = [((x0.toNat : Nat) : Int), ((x1.toNat : Nat) : Int), ((x2.toNat : Nat) : Int)]
        rw [nat_ok h0, nat_ok h1, nat_ok h2]
      · show some m = some (((nats (r'.take m.toNat)).length : Nat) : Int)
        rw [hl]
        congr 1
        omega
      · show r'.take (nats (r'.take m.toNat)).length = PoolNeutral.ints (nats (r'.take m.toNat))
        rw [hl, ints_nats h5]
      · show 4 + (nats (r'.take m.toNat)).length ≤ _
        rw [hl]
        simp
        omega
      · show r'.drop m.toNat = (x0 :: x1 :: x2 :: m :: r').drop (4 + (nats (r'.take m.toNat)).length)
        rw [hl, Nat.add_comm]
        rfl
    · exfalso
      have hm' : ¬ (0 ≤ m ∧ m ≤ (r'.length : Int)) := by omega
      simp [PyFlat.call, PyWrlntm.shape, PyFlat.rows, PyFlat.row, if_neg hm'] at h
  | [] => simp [PyFlat.call, PyWrlntm.shape] at h
  | [_] => simp [PyFlat.call, PyWrlntm.shape] at h
  | [_, _] => simp [PyFlat.call, PyWrlntm.shape] at h
  | [_, _, _] => simp [PyFlat.call, PyWrlntm.shape, PyFlat.rows, PyFlat.row] at h

theorem rd_call {p : Int} {r : List Int} {c : List (List Int)} {t : List Int} (h : PyFlat.call PyWrlntm.shape (p :: r) = some (c, t)) (ha : asked1 (PyWrlntm.whole c) = true) : ∃ x, Rd1 p r (PyWrlntm.whole c) t x := by
  by_cases e0 : p = 0
  · subst e0; exact rd_offer h ha
  have one : ∀ q : Int, q = p → PyWrlntm.shape q = some (1, 0) → ∃ x0 r', r = x0 :: r' ∧ c = [[p, x0]] ∧ t = r' := by
    intro q hq hs
    subst hq
    match r with
    | [] => simp [PyFlat.call, hs] at h
    | x0 :: r' =>
      simp [PyFlat.call, hs, PyFlat.rows] at h
      exact ⟨x0, r', rfl, h.1.symm, h.2.symm⟩
  have two : ∀ q : Int, q = p → PyWrlntm.shape q = some (2, 0) → ∃ x0 x1 r', r = x0 :: x1 :: r' ∧ c = [[p, x0, x1]] ∧ t = r' := by
    intro q hq hs
    subst hq
    match r with
    | [] => simp [PyFlat.call, hs] at h
    | [_] => simp [PyFlat.call, hs] at h
    | x0 :: x1 :: r' =>
      simp [PyFlat.call, hs, PyFlat.rows] at h
      exact ⟨x0, x1, r', rfl, h.1.symm, h.2.symm⟩
  by_cases e1 : p = 1
  · obtain ⟨x0, r', rfl, rfl, rfl⟩ := one 1 e1.symm rfl
    subst e1
    have ha : natural x0 53 = true := ha
    exact ⟨.begin_ x0.toNat .take, rfl, trivial, rfl, (by show 1 ≤ _; simp), (by show [x0] = [((x0.toNat : Nat) : Int)]; rw [nat_ok ha]), Or.inl ⟨by decide, rfl, rfl⟩⟩
  by_cases e2 : p = 2
  · obtain ⟨x0, x1, r', rfl, rfl, rfl⟩ := two 2 e2.symm rfl
    subst e2
    have ha : (natural x0 53 && natural x1 53) = true := ha
    rw [Bool.and_eq_true] at ha
    exact ⟨.begin_ x0.toNat (.again x1.toNat), rfl, trivial, rfl, (by show 2 ≤ _; simp), (by show [x0, x1] = [((x0.toNat : Nat) : Int), ((x1.toNat : Nat) : Int)]; rw [nat_ok ha.1, nat_ok ha.2]), Or.inl ⟨by decide, rfl, rfl⟩⟩
  by_cases e3 : p = 3
  · subst e3
    match r with
    | [] => simp [PyFlat.call, PyWrlntm.shape] at h
    | [_] => simp [PyFlat.call, PyWrlntm.shape] at h
    | [_, _] => simp [PyFlat.call, PyWrlntm.shape] at h
    | x0 :: x1 :: x2 :: r' =>
      have e : (c, t) = ([[3, x0, x1, x2]], r') := by
        simp [PyFlat.call, PyWrlntm.shape, PyFlat.rows] at h
        rw [← h.1, ← h.2]
      cases e
      have ha : (natural x0 53 && (natural x1 53 && natural x2 53)) = true := ha
      simp only [Bool.and_eq_true] at ha
      exact ⟨.begin_ x0.toNat (.done x1.toNat x2.toNat), rfl, trivial, rfl, (by show 3 ≤ _; simp), (by show [x0, x1, x2] = [((x0.toNat : Nat) : Int), ((x1.toNat : Nat) : Int), ((x2.toNat : Nat) : Int)]; rw [nat_ok ha.1, nat_ok ha.2.1, nat_ok ha.2.2]), Or.inl ⟨by decide, rfl, rfl⟩⟩
  by_cases e4 : p = 4
  · obtain ⟨x0, x1, r', rfl, rfl, rfl⟩ := two 4 e4.symm rfl
    subst e4
    have ha : (natural x0 53 && natural x1 53) = true := ha
    rw [Bool.and_eq_true] at ha
    exact ⟨.begin_ x0.toNat (.halt_ x1.toNat), rfl, trivial, rfl, (by show 2 ≤ _; simp), (by show [x0, x1] = [((x0.toNat : Nat) : Int), ((x1.toNat : Nat) : Int)]; rw [nat_ok ha.1, nat_ok ha.2]), Or.inl ⟨by decide, rfl, rfl⟩⟩
  by_cases e5 : p = 5
  · obtain ⟨x0, x1, r', rfl, rfl, rfl⟩ := two 5 e5.symm rfl
    subst e5
    have ha : (natural x0 53 && natural x1 53) = true := ha
    rw [Bool.and_eq_true] at ha
    exact ⟨.begin_ x0.toNat (.look x1.toNat), rfl, trivial, rfl, (by show 2 ≤ _; simp), (by show [x0, x1] = [((x0.toNat : Nat) : Int), ((x1.toNat : Nat) : Int)]; rw [nat_ok ha.1, nat_ok ha.2]), Or.inl ⟨by decide, rfl, rfl⟩⟩
  by_cases e6 : p = 6
  · obtain ⟨x0, x1, r', rfl, rfl, rfl⟩ := two 6 e6.symm rfl
    subst e6
    have ha : (natural x0 53 && natural x1 53) = true := ha
    rw [Bool.and_eq_true] at ha
    exact ⟨.begin_ x0.toNat (.clear x1.toNat), rfl, trivial, rfl, (by show 2 ≤ _; simp), (by show [x0, x1] = [((x0.toNat : Nat) : Int), ((x1.toNat : Nat) : Int)]; rw [nat_ok ha.1, nat_ok ha.2]), Or.inl ⟨by decide, rfl, rfl⟩⟩
  by_cases e7 : p = 7
  · obtain ⟨x0, r', rfl, rfl, rfl⟩ := one 7 e7.symm rfl
    subst e7
    have ha : natural x0 53 = true := ha
    exact ⟨.begin_ x0.toNat .key, rfl, trivial, rfl, (by show 1 ≤ _; simp), (by show [x0] = [((x0.toNat : Nat) : Int)]; rw [nat_ok ha]), Or.inl ⟨by decide, rfl, rfl⟩⟩
  by_cases e8 : p = 8
  · obtain ⟨x0, x1, r', rfl, rfl, rfl⟩ := two 8 e8.symm rfl
    subst e8
    have ha : (natural x0 53 && natural x1 53) = true := ha
    rw [Bool.and_eq_true] at ha
    exact ⟨.begin_ x0.toNat (.sleep x1.toNat), rfl, trivial, rfl, (by show 2 ≤ _; simp), (by show [x0, x1] = [((x0.toNat : Nat) : Int), ((x1.toNat : Nat) : Int)]; rw [nat_ok ha.1, nat_ok ha.2]), Or.inl ⟨by decide, rfl, rfl⟩⟩
  by_cases e9 : p = 9
  · obtain ⟨x0, r', rfl, rfl, rfl⟩ := one 9 e9.symm rfl
    subst e9
    have ha : natural x0 53 = true := ha
    exact ⟨.begin_ x0.toNat .wake, rfl, trivial, rfl, (by show 1 ≤ _; simp), (by show [x0] = [((x0.toNat : Nat) : Int)]; rw [nat_ok ha]), Or.inl ⟨by decide, rfl, rfl⟩⟩
  by_cases e10 : p = 10
  · obtain ⟨x0, r', rfl, rfl, rfl⟩ := one 10 e10.symm rfl
    subst e10
    have ha : natural x0 53 = true := ha
    exact ⟨.go x0.toNat, rfl, trivial, rfl, (by show 1 ≤ _; simp), (by show [x0] = [((x0.toNat : Nat) : Int)]; rw [nat_ok ha]), Or.inl ⟨by decide, rfl, rfl⟩⟩
  by_cases e11 : p = 11
  · obtain ⟨x0, r', rfl, rfl, rfl⟩ := one 11 e11.symm rfl
    subst e11
    have ha : natural x0 53 = true := ha
    exact ⟨.gone x0.toNat, rfl, trivial, rfl, (by show 1 ≤ _; simp), (by show [x0] = [((x0.toNat : Nat) : Int)]; rw [nat_ok ha]), Or.inl ⟨by decide, rfl, rfl⟩⟩
  by_cases e12 : p = 12
  · subst e12
    have e : (c, t) = ([[12]], r) := by
      simp [PyFlat.call, PyWrlntm.shape, PyFlat.rows] at h
      rw [← h.1, ← h.2]
    cases e
    exact ⟨.board, rfl, trivial, rfl, Nat.zero_le _, rfl, Or.inl ⟨by decide, rfl, rfl⟩⟩
  · exfalso
    have hs : PyWrlntm.shape p = none := by
      unfold PyWrlntm.shape
      rw [if_neg e0, if_neg e1, if_neg e2, if_neg e3, if_neg e4, if_neg e5, if_neg e6, if_neg e7, if_neg e8, if_neg e9, if_neg e10, if_neg e11, if_neg e12]
    simp [PyFlat.call, hs] at h

theorem calls_cons {f : Nat} {p : Int} {r : List Int} {cs : List (List (List Int))} (h : PyFlat.calls PyWrlntm.shape f (p :: r) = some cs) :
    ∃ c t f' cs', PyFlat.call PyWrlntm.shape (p :: r) = some (c, t) ∧ PyFlat.calls PyWrlntm.shape f' t = some cs' ∧ cs = c :: cs' := by
  cases f with
  | zero => simp [PyFlat.calls] at h
  | succ f =>
    unfold PyFlat.calls at h
    cases e : PyFlat.call PyWrlntm.shape (p :: r) with
    | none => rw [e] at h; simp at h
    | some x =>
      obtain ⟨c, t⟩ := x
      rw [e] at h
      simp only at h
      cases e2 : PyFlat.calls PyWrlntm.shape f t with
      | none => rw [e2] at h; simp at h
      | some cs' =>
        rw [e2] at h
        exact ⟨c, t, f, cs', rfl, e2, (Option.some.inj h).symm⟩

/-- what is played of the rest, as PoolNeutral.ints -/
def due (s : State) (cs : List (List (List Int))) : List Int := PyFlat.told (PyFlat.played PoolNeutral.step s (cs.map PyWrlntm.whole))
theorem due_nil (s : State) : due s [] = [] := rfl
theorem due_cons {s : State} {c : List (List Int)} {cs : List (List (List Int))} {x : PoolCalls.Call} (h : callOf (PyWrlntm.whole c) = some x) :
    due s (c :: cs) = (((answerInts (PoolCalls.step s x).2).length : Nat) : Int) :: answerInts (PoolCalls.step s x).2 ++ due (PoolCalls.step s x).1 cs := by
  have e : PoolNeutral.step s (PyWrlntm.whole c) = ((PoolCalls.step s x).1, answerInts (PoolCalls.step s x).2) := by
    unfold PoolNeutral.step
    rw [h]
  show (((PoolNeutral.step s (PyWrlntm.whole c)).2.length : Nat) : Int) :: (PoolNeutral.step s (PyWrlntm.whole c)).2 ++ due (PoolNeutral.step s (PyWrlntm.whole c)).1 cs = _
  rw [e]

/-! ### counting -/
theorem range_min {s : Slot} (h : SlotOk s) : min MOST s.limit = s.limit := by
  have : s.limit ≤ 32 := by
    unfold Slot.limit
    have := h.cnt; have := h.giv
    split <;> omega
  unfold MOST
  omega
theorem limit_le {s : Slot} (h : SlotOk s) : s.limit ≤ 32 := by
  unfold Slot.limit
  have := h.cnt; have := h.giv
  split <;> omega
theorem taken_le {s : Slot} (h : SlotOk s) : s.taken ≤ 32 := by
  unfold Slot.taken
  have := h.cnt; have := h.giv
  split <;> omega
theorem filter_all {α : Type} (p : α → Bool) : ∀ l : List α, (l.filter p).length = l.length ↔ l.all p = true
  | [] => by simp
  | a :: l => by
    have ih := filter_all p l
    have hle := List.length_filter_le p l
    rw [List.filter_cons, List.all_cons, Bool.and_eq_true]
    cases e : p a with
    | true => simp [ih]
    | false => simp; omega
theorem complete_iff {s : Slot} (h : SlotOk s) : s.complete = decide ((s.doneCount : Int) = (s.limit : Int)) := by
  have e : s.complete = true ↔ (s.doneCount : Int) = (s.limit : Int) := by
    unfold Slot.complete Slot.doneCount
    rw [range_min h, ← filter_all, List.length_range]
    omega
  cases q : s.complete with
  | true => exact (decide_eq_true (e.mp q)).symm
  | false => exact (decide_eq_false fun z => by rw [e.mpr z] at q; cases q).symm
theorem doneCount_eq {s : Slot} (h : SlotOk s) : s.doneCount = ((List.range s.limit).filter s.isDone).length := by
  unfold Slot.doneCount
  rw [range_min h]
end Po

namespace Po
open LwPool PoolCalls PoolNeutral

def OutOk : Turn → Prop
  | .ends _ r => r.nums.length + r.job.length ≤ 7
  | .gap _ _ => True
theorem offerFrom_out {b : Board} {k : Nat} : ∀ m, OutOk (offerFrom b k m)
  | 0 => Nat.zero_le _
  | m + 1 => by
    unfold offerFrom
    simp only
    split
    · trivial
    · exact offerFrom_out m
theorem takeFrom_out {b : Board} {k : Nat} : ∀ m, OutOk (takeFrom b k m)
  | 0 => Nat.zero_le _
  | m + 1 => by
    unfold takeFrom
    simp only
    split
    · trivial
    · exact takeFrom_out m
theorem begins_out (o : Op) (b : Board) : OutOk (begins o b) := by
  cases o with
  | offer n kind job =>
    show OutOk (if n < 1 ∨ MOST < n then _ else offerFrom b TRIES SLOTS)
    split
    · exact Nat.zero_le _
    · exact offerFrom_out _
  | take => exact takeFrom_out _
  | again t =>
    show OutOk (.ends b (if b.isAt t 2 = false then num (-1) else match (List.range (min MOST (b.slot (slotOf t)).taken)).find? fun (k : Nat) => !(b.slot (slotOf t)).isDone k with
    | some k => nums 1 [k]
    | none => nums 0 [0]))
    split
    · exact Nat.zero_le _
    · split
      · show 1 ≤ 7; decide
      · show 1 ≤ 7; decide
  | done t k =>
    show OutOk (if MOST ≤ k then _ else if b.isAt t 2 = false then _ else if (b.slot (slotOf t)).count ≤ k then _ else markTry t k TRIES b)
    split
    · exact Nat.zero_le _
    · split
      · exact Nat.zero_le _
      · split
        · exact Nat.zero_le _
        · unfold markTry
          simp only
          split
          · exact Nat.zero_le _
          · split
            · exact Nat.zero_le _
            · trivial
  | halt_ t =>
    show OutOk (if b.isAt t 2 = false then _ else stopTry t TRIES b)
    split
    · exact Nat.zero_le _
    · unfold stopTry
      simp only
      split
      · exact Nat.zero_le _
      · split
        · show 1 ≤ 7; decide
        · trivial
  | look t =>
    show OutOk (if b.isAt t 4 = true then _ else if b.isAt t 2 = false then _ else if (b.slot (slotOf t)).complete = true then _ else _)
    split
    · show 2 ≤ 7; decide
    · split
      · exact Nat.zero_le _
      · split
        · trivial
        · show 2 ≤ 7; decide
  | clear t =>
    show OutOk (clearTry t TRIES b)
    unfold clearTry
    split
    · trivial
    · exact Nat.zero_le _
  | key => trivial
  | sleep x => exact Nat.zero_le _
  | wake => trivial
theorem finish_out {b : Board} {t : Nat} {l : List Nat} (h : l.length ≤ 1) : OutOk (finish t l b) := by
  unfold finish
  split
  · trivial
  · show l.length + 0 ≤ 7
    omega
theorem goes_out {b : Board} {o : Op} {a : At} (ha : AtOk b o a) : OutOk (goesOn o a b) := by
  cases a with
  | offered i k v =>
    show OutOk (if samePhase (b.slot i).state v = true then _ else if k ≤ 1 then _ else offerFrom b (k - 1) (SLOTS - (i + 1)))
    split
    · trivial
    · split
      · exact Nat.zero_le _
      · exact offerFrom_out _
  | laying i v => trivial
  | opening i v => show 1 ≤ 7; decide
  | taking i k v w kind job =>
    cases o with
    | take =>
      show OutOk (if sameNext (b.slot i).next w = true then _ else if k ≤ 1 then _ else takeFrom b (k - 1) (SLOTS - i))
      split
      · show 3 + job.length ≤ 7
        have := ha.2.2.2.1
        omega
      · split
        · exact Nat.zero_le _
        · exact takeFrom_out _
    | _ => exact ha.elim
  | marking k x =>
    show OutOk (if sameWord _ x = true then finish _ [] _ else if k ≤ 1 then _ else markTry _ _ (k - 1) b)
    split
    · exact finish_out (by simp)
    · split
      · exact Nat.zero_le _
      · unfold markTry
        simp only
        split
        · exact Nat.zero_le _
        · split
          · exact Nat.zero_le _
          · trivial
  | finishing l =>
    have hl : l.length ≤ 1 := by
      cases o with
      | done t k => rw [show l = [] from ha]; simp
      | halt_ t => obtain ⟨g, rfl⟩ := ha; simp
      | _ => exact ha.elim
    show OutOk (if b.isAt o.ticket 2 = true then _ else _)
    split
    · show l.length + 0 ≤ 7; omega
    · show l.length + 0 ≤ 7; omega
  | stopping k w =>
    show OutOk (if sameNext _ w = true then finish _ [w.given] _ else if k ≤ 1 then _ else stopTry _ (k - 1) b)
    split
    · exact finish_out (by simp)
    · split
      · exact Nat.zero_le _
      · unfold stopTry
        simp only
        split
        · exact Nat.zero_le _
        · split
          · show 1 ≤ 7; decide
          · trivial
  | looking =>
    show OutOk (if b.isAt o.ticket 2 = true then _ else if b.isAt o.ticket 4 = true then _ else _)
    split
    · show 2 ≤ 7; decide
    · split
      · show 2 ≤ 7; decide
      · exact Nat.zero_le _
  | clearing k v =>
    show OutOk (if samePhase _ v = true then _ else if k ≤ 1 then _ else clearTry _ (k - 1) b)
    split
    · exact Nat.zero_le _
    · split
      · exact Nat.zero_le _
      · unfold clearTry
        split
        · trivial
        · exact Nat.zero_le _
  | keying => show 1 ≤ 7; decide
  | waking k x =>
    show OutOk (if b.event = x then (if x % 2 = 0 then _ else _) else if k ≤ 1 then _ else wakeTry (k - 1) b)
    split
    · split
      · exact Nat.zero_le _
      · exact Nat.zero_le _
    · split
      · exact Nat.zero_le _
      · trivial

theorem took_len {s : State} {p : Nat} {o : Op} {x : Turn} (h : OutOk x) : (answerInts (took s p o x).2).length ≤ 100 := by
  cases x with
  | gap b a => show 1 ≤ 100; decide
  | ends b r =>
    have h : r.nums.length + r.job.length ≤ 7 := h
    simp [took, answerInts, outInts, PoolNeutral.ints]
    omega
theorem slotTold_len {s : Slot} (h : SlotOk s) : (slotTold s).length = 43 := by
  unfold slotTold
  rw [List.length_append]
  have : ∀ l : List Word, (∀ x ∈ l, x.bits.length = 8) → (l.flatMap fun (w : Word) => w.stamp :: w.bits.map bit).length = 9 * l.length := by
    intro l
    induction l with
    | nil => intro _; rfl
    | cons a l ih =>
      intro hl
      rw [List.flatMap_cons, List.length_append, ih fun x hx => hl x (List.mem_cons_of_mem _ hx)]
      have := hl a List.mem_cons_self
      simp [this]
      omega
  rw [this _ h.bts, h.wds]
  rfl
theorem two_slots {b : Board} (h : BOk b) : b.slots = [b.slot 0, b.slot 1] := by
  have hl := h.len
  unfold Board.slot
  match e : b.slots, hl with
  | [x, y], _ => rfl
theorem step_len {s : State} {c : PoolCalls.Call} (h : SysOk s) : (answerInts (step s c).2).length ≤ 100 := by
  cases c with
  | begin_ p o =>
    show (answerInts (if PARTIES ≤ p then (s, BAD) else match s.party p with | some _ => (s, NOT) | none => took s p o (begins o s.board)).2).length ≤ 100
    split
    · show 1 ≤ 100; decide
    · split
      · show 1 ≤ 100; decide
      · exact took_len (begins_out _ _)
  | go p =>
    show (answerInts (if PARTIES ≤ p then (s, BAD) else match s.party p with | none => (s, NOT) | some x => took s p x.1 (goesOn x.1 x.2 s.board)).2).length ≤ 100
    split
    · show 1 ≤ 100; decide
    · split
      · show 1 ≤ 100; decide
      · rename_i x e
        obtain ⟨o, a⟩ := x
        exact took_len (goes_out (h.pt p o a e).2)
  | gone p =>
    show (answerInts (if PARTIES ≤ p then (s, BAD) else match s.party p with | none => (s, NOT) | some _ => ({ s with parties := s.parties.set p none }, says 2)).2).length ≤ 100
    split
    · show 1 ≤ 100; decide
    · split
      · show 1 ≤ 100; decide
      · show 1 ≤ 100; decide
  | board =>
    show (answerInts ⟨3, none, none, s.board.event :: s.board.slots.flatMap slotTold⟩).length ≤ 100
    rw [two_slots h.b]
    simp [answerInts, PoolNeutral.ints, slotTold_len (h.b.sl 0 (by decide)), slotTold_len (h.b.sl 1 (by decide))]
end Po

namespace Po
open PySem PySem.Spec PyProof.Rows L2

theorem bo_len : bootBuiltins "len" = some (.builtin "len") := by decide +kernel
theorem bo_min : bootBuiltins "min" = some (.builtin "min") := by decide +kernel
theorem bo_list : bootBuiltins "list" = some (.type "list") := by decide +kernel
theorem bo_tuple : bootBuiltins "tuple" = some (.type "tuple") := by decide +kernel
/-- a name of the text's top -/
def GV (mg : Str → Option Value) (x : Str) (v : V) : Prop := ∃ u, mg x = some u ∧ RelV v u
theorem pe_gv {X : Cx} {x : Str} {v : V} {pos : Pos} (g : GV X.mg x v) (hg : Gl X x) (hd : (x == ("__debug__" : Str)) = false := by decide) : PE X (.Name x pos) (tC v) := by
  obtain ⟨u, h1, h2⟩ := g
  exact pe_glob hg h1 h2 hd

section
variable (P : Program) (w : World) (K : PySem.W.Frag) (mg : Str → Option Value) (base : Heap)
/-- a def of the top, by its promise -/
def GF (x : Str) (k : Nat) (ps : List Str) (sp : Sp) : Prop := ∃ f fd, mg x = some (.ref f) ∧ PySem.W.keepIn K (.ref f) = true ∧ Binds K fd ps [] ∧ FnOk P w K mg base CX0 k f fd ps sp
/-- a method of the class at C -/
def MF (C : Addr) (m : Str) (k : Nat) (ps : List Str) (sp : Sp) : Prop := ∃ f fd, Cls K C ∧ Meth K C m f ∧ Binds K fd ps [] ∧ FnOk P w K mg base CX0 k f fd ps sp
/-- a class that is called -/
def KF (x : Str) (C : Addr) (k : Nat) (ps : List Str) (sp : Sp) : Prop := ∃ f fd, mg x = some (.ref C) ∧ Mk K C f ∧ Binds K fd ps [] ∧ FnOk P w K mg base CX0 k f fd ps sp
/-- a def of a class, called by the class's name -/
structure CM (C : Addr) (m : Str) (f : Addr) : Prop where
  sp : PySem.W.specialIn K (.ref C) "__getattribute__" = some (some (.builtin "type.__getattribute__"))
  fd : ∃ mc, PySem.W.readsIn K C mc = true ∧ PySem.W.findCls K (.ref C) mc m = some (.val (.ref f))
  kp : PySem.W.keepIn K (.ref f) = true
def BF (x m : Str) (k : Nat) (ps : List Str) (sp : Sp) : Prop := ∃ C f fd, mg x = some (.ref C) ∧ CM K C m f ∧ Binds K fd ps [] ∧ FnOk P w K mg base CX0 k f fd ps sp
end

section
variable {X : Cx} {k : Nat} {x m : Str} {C : Addr} {ps : List Str} {sp : Sp} {p pos apos : Pos} {e o : Expr} {es : List Expr} {ta : TE} {t : TA}
theorem pe_gf (G : GF X.prog X.w X.K X.mg X.base x k ps sp) (hr : Room k X.A) (hg : Gl X x) (ha : PA X (e :: es) t) (hdb : (x == ("__debug__" : Str)) = false := by decide) (he : starEach (e :: es) X.env = (false, eval e X.env) :: starEach es X.env := by rfl) (hpl : (backTo pos (starEach es X.env)).any (·.1) = false := by rfl) :
    PE X (.Call (.Name x p) (e :: es) [] pos) (tCall sp [] E0 t) := by
  obtain ⟨f, fd, h1, h2, h3, h4⟩ := G
  exact pe_call h4 hr hg h1 h2 h3 .nil pass0 ha hdb he hpl
theorem pe_mf {pl : Sem Bool} (G : MF X.prog X.w X.K X.mg X.base C m k ps sp) (hr : Room k X.A) (he : PE X o ta) (ha : PA X (e :: es) t)
    (hst : starEach (e :: es) X.env = (false, eval e X.env) :: starEach es X.env := by rfl) (hpl : (backTo pos (starEach es X.env)).any (·.1) = false := by rfl)
    (ht : eval (.Call (.Attribute o m apos) (e :: es) [] pos) X.env = (do
      let ov ← eval o X.env
      standAt apos.atName
      let (f, first) ← holding [ov] (getMethod ov m pl)
      callWith pos f first (backTo pos (starEach (e :: es) X.env)) (backToKw pos (keywordEach [] X.env))) := by rfl) :
    PE X (.Call (.Attribute o m apos) (e :: es) [] pos) (tMeth C m sp [] E0 ta t) := by
  obtain ⟨f, fd, h1, h2, h3, h4⟩ := G
  exact pe_meth (pl := pl) he h1 h2 h4 hr h3 .nil pass0 ha hst hpl ht
theorem pe_mf0 {pl : Sem Bool} (G : MF X.prog X.w X.K X.mg X.base C m k ps sp) (hr : Room k X.A) (he : PE X o ta)
    (ht : eval (.Call (.Attribute o m apos) [] [] pos) X.env = (do
      let ov ← eval o X.env
      standAt apos.atName
      let (f, first) ← holding [ov] (getMethod ov m pl)
      callWith pos f first (backTo pos (starEach [] X.env)) (backToKw pos (keywordEach [] X.env))) := by rfl) :
    PE X (.Call (.Attribute o m apos) [] [] pos) (tMeth C m sp [] E0 ta tNil) := by
  obtain ⟨f, fd, h1, h2, h3, h4⟩ := G
  exact pe_meth0 (pl := pl) he h1 h2 h4 hr h3 .nil pass0 ht
theorem pe_kf (G : KF X.prog X.w X.K X.mg X.base x C k ps sp) (hr : Room (k + 1) X.A) (hg : Gl X x) (ha : PA X (e :: es) t) (hdb : (x == ("__debug__" : Str)) = false := by decide) (he : starEach (e :: es) X.env = (false, eval e X.env) :: starEach es X.env := by rfl) (hpl : (backTo pos (starEach es X.env)).any (·.1) = false := by rfl) :
    PE X (.Call (.Name x p) (e :: es) [] pos) (tMake C sp [] E0 t) := by
  obtain ⟨f, fd, h1, h2, h3, h4⟩ := G
  exact pe_make h2 h4 hr hg h1 h3 .nil pass0 ha hdb he hpl
theorem pe_kf0 (G : KF X.prog X.w X.K X.mg X.base x C k ps sp) (hr : Room (k + 1) X.A) (hg : Gl X x) (hdb : (x == ("__debug__" : Str)) = false := by decide) :
    PE X (.Call (.Name x p) [] [] pos) (tMake C sp [] E0 tNil) := by
  obtain ⟨f, fd, h1, h2, h3, h4⟩ := G
  exact pe_make0 h2 h4 hr hg h1 h3 .nil pass0 hdb
theorem pe_bf {y : Str} {py : Pos} {pl : Sem Bool} (G : BF X.prog X.w X.K X.mg X.base y m k ps sp) (hr : Room k X.A) (hg : Gl X y) (ha : PA X (e :: es) t) (hdb : (y == ("__debug__" : Str)) = false := by decide)
    (hst : starEach (e :: es) X.env = (false, eval e X.env) :: starEach es X.env := by rfl) (hpl : (backTo pos (starEach es X.env)).any (·.1) = false := by rfl)
    (ht : eval (.Call (.Attribute (.Name y py) m apos) (e :: es) [] pos) X.env = (do
      let ov ← eval (.Name y py) X.env
      standAt apos.atName
      let (f, first) ← holding [ov] (getMethod ov m pl)
      callWith pos f first (backTo pos (starEach (e :: es) X.env)) (backToKw pos (keywordEach [] X.env))) := by rfl) :
    PE X (.Call (.Attribute (.Name y py) m apos) (e :: es) [] pos) (tCall sp [] E0 t) := by
  obtain ⟨C, f, fd, h1, ⟨c1, ⟨mc, c2, c3⟩, c4⟩, h3, h4⟩ := G
  intro pins s σ H Q I h
  have he : PE X (.Name y py) (tC (.ref C)) := pe_glob hg h1 (show RelV (.ref C) (.ref C) from rfl) hdb
  refine PySem.W.methodCall_KW (pl := pl) (thn (he pins s σ H (fun x H1 => x = .ref C ∧ H1 = H) I ⟨rfl, rfl⟩) fun u s1 ⟨x, H1, I1, rx, ex, eH⟩ => ?_) ht
  subst ex eH
  obtain rfl : u = Value.ref C := rx
  refine PySem.W.method_cls I1.kIn c1 (PySem.W.cls_value I1.kIn c2 c3 (by rfl) ?_)
  have I2 : Inv X pins σ H1 { s1 with toks := s1.toks + 1 } := I1.tok _
  refine PySem.W.callWith_K (first := []) (h₀ := X.base) I.ok.mod.kin c4 (thn (ha pos pins _ σ H1 _ I2 h) fun us s2 ⟨vs, H2, I3, r, q2⟩ => ⟨I3.kIn, ?_⟩) hst hpl
  exact run_fn h4 hr h3 .nil pass0 I3 r q2
/-- one of several readings -/
theorem pe_any {ι : Type} {t : ι → TE} (h : ∀ i, PE X e (t i)) : PE X e (fun σ H Q => ∃ i, t i σ H Q) := fun pins s σ H Q I ⟨i, q⟩ => h i pins s σ H Q I q
/-- two readings -/
theorem pe_alt {t u : TE} (h1 : PE X e t) (h2 : PE X e u) : PE X e (fun σ H Q => t σ H Q ∨ u σ H Q) := fun pins s σ H Q I q => q.elim (h1 pins s σ H Q I) (h2 pins s σ H Q I)
end

section
variable {X : Cx}
/-- the list's extend by a tuple, whatever else the tuple's object bears -/
theorem ext_tupW (l b : Addr) (xs ys : Array Value) (n m : Nat) (db : Option Addr) (slb : Array (Option Value)) (k0 : ¬ (!xs.isEmpty && Builtin.List.listTooLong (xs.size + ys.size)) = true) (k1 : xs.size ≤ sizeLine) (k2 : xs.size + ys.size ≤ sizeLine + 1) :
    Meets (Builtin.«list.extend» ⟨[.ref l, .ref b], []⟩) (fun _ R s => s.heap.get? l = some { cls := .type "list", dict := none, data := .seq xs n, slots := #[] } ∧
      s.heap.get? b = some { cls := .type "tuple", dict := db, data := .seq ys m, slots := slb } ∧ R (.ok (.ret Value.none)) { s with heap := s.heap.update l (Obj.mapSeq fun x => x ++ ys), toks := s.toks }) :=
  .of_wp fun prog w A R s q => by
    obtain ⟨hh, gg, dd, tt, oo⟩ := s
    obtain ⟨q1, q2, q3⟩ := q
    have e1 := AutoSeq1.sub_tuple_tuple
    have e2 := AutoSeq1.sub_list_list
    have e3 := AutoSeq1.sub_tuple_list
    have e4 := AutoSeq1.sub_list_tuple
    have k3 : (xs ++ ys).size ≤ sizeLine + 1 := by rw [Array.size_append]; exact k2
    wp_walk using (wpAny_updateSeq q1 rfl (hz := k1) (_hz' := k3)), AutoSeq1.wpAny_loadPart' q1, AutoSeq1.wpAny_loadPart' q2
    exact ⟨_, rfl, q3⟩
/-- xs.extend(t), t a tuple that is tracked -/
def rExtT (K : PySem.W.Frag) : V → List V → Hp → VK → Prop := fun x vs H Q => ∃ l b xs zs, x = .ref l ∧ vs = [.ref b] ∧ H l = some (.lst xs) ∧ SqT K H b zs ∧ xs.length + zs.length ≤ sizeLine ∧ Q .non (upd H l (.lst (xs ++ zs)))
theorem mt_extT : MtM X "list.extend" (rExtT X.K) := by
  intro pins s σ H x vs v us Q I rx rv h
  obtain ⟨l, b, xs, zs, rfl, rfl, hH, hB, hz, q⟩ := h
  cases rx
  obtain ⟨u, rfl, ru⟩ := rv.one
  cases ru
  obtain ⟨z, its, n, r, hl, e⟩ := I.lstM hH
  obtain ⟨its2, r2, ⟨⟨cls, dd, data, sl⟩, e2, hc2, n2, hd2⟩, hz2⟩ := I.tuple hB
  simp only at hc2 hd2
  subst hc2 hd2
  have hl2 := r2.length
  have hsz : its.toArray.size + its2.toArray.size ≤ sizeLine := by rw [List.size_toArray, List.size_toArray]; omega
  have hlong : ¬ (!its.toArray.isEmpty && Builtin.List.listTooLong (its.toArray.size + its2.toArray.size)) = true := by
    rw [notLongL hsz, Bool.and_false]
    exact Bool.false_ne_true
  refine call_meets F.slot_list_extend ⟨_, e, rfl⟩ F.entry_list_extend (F.args_list_extend_2 _ _)
    (ext_tupW l b its.toArray its2.toArray n n2 dd sl hlong (by rw [List.size_toArray]; omega) (by omega)) ⟨e, e2, ?_⟩
  · refine ⟨.non, _, I.lset (its' := its ++ its2) hH e (by simp) (r.append r2) ?_, rfl, q⟩
    rw [List.length_append]
    omega
/-- () + t is t -/
def rCatE (K : PySem.W.Frag) : R2 := fun x y H Q => ∃ a b ys, x = .ref a ∧ y = .ref b ∧ SqT K H a [] ∧ SqT K H b ys ∧ Q (.ref b) H
theorem op_catE : OpR X (binaryOp .Add) (rCatE X.K) := by
  intro pins s σ H x y v u Q I rx ry h
  obtain ⟨a, b, ys, rfl, rfl, ha, hb, q⟩ := h
  cases rx
  cases ry
  obtain ⟨its, r1, p1, _⟩ := I.tuple ha
  obtain ⟨its2, r2, p2, _⟩ := I.tuple hb
  have e1 : its = [] := by cases r1; rfl
  subst e1
  obtain ⟨⟨cls, dd, data, sl⟩, ho, hc, n, hd⟩ := id p1
  obtain ⟨⟨cls2, dd2, data2, sl2⟩, ho2, hc2, n2, hd2⟩ := id p2
  simp only at hc hd hc2 hd2
  subst hc hd hc2 hd2
  exact concat_meets ⟨_, ho, rfl⟩ ⟨_, ho2, rfl⟩ noFill_tuple_add seq_tuple_add PySem.F.slot_tuple_add PySem.F.entry_tuple_add (PySem.F.args_tuple_add_2 _ _)
      (tuple_addW0 a b ([] : List Value).toArray its2.toArray n n2 dd dd2 sl sl2 (by simp)) ⟨ho, ho2, ⟨.ref b, H, I, rfl, q⟩⟩
end
end Po

namespace Po
open PySem PySem.Spec PyProof.Rows L2

/-! ### attributes -/
theorem lk_hit {f : Str} {v : V} {r : List (Str × V)} : List.lookup f ((f, v) :: r) = some v := by
  have hb : (f == f) = true := beq_iff_eq.mpr rfl
  simp only [List.lookup, hb]
theorem lk_miss {f g : Str} {v : V} {r : List (Str × V)} (h : ¬ f = g) : List.lookup f ((g, v) :: r) = List.lookup f r := by
  have hb : (f == g) = false := beq_eq_false_iff_ne.mpr h
  simp only [List.lookup, hb]
theorem lk_nil {f : Str} : List.lookup f ([] : List (Str × V)) = none := rfl
theorem put_hit {f : Str} {v x : V} {r : List (Str × V)} : putF f v ((f, x) :: r) = (f, v) :: r := by
  show (if f = f then _ else _) = _
  rw [if_pos rfl]
theorem put_miss {f g : Str} {v x : V} {r r' : List (Str × V)} (h : ¬ g = f) (e : putF f v r = r') : putF f v ((g, x) :: r) = (g, x) :: r' := by
  show (if g = f then _ else _) = _
  rw [if_neg h, e]
theorem put_nil {f : Str} {v : V} : putF f v [] = [(f, v)] := rfl
local macro_rules | `(tactic| walk_at "lk") => `(tactic| repeat (first | exact lk_hit | exact lk_nil | refine (lk_miss (by decide +kernel)).trans ?_))
local macro_rules | `(tactic| walk_at "put") => `(tactic| repeat (first | exact put_hit | exact put_nil | (apply put_miss; · decide +kernel)))

/-- e.f = value, the attributes behind it written out -/
def sFldP (K : PySem.W.Frag) (ta tv : TE) (f : Str) : TS := fun D σ H => tv σ H fun y H1 => ta σ H1 fun x H2 => ∃ a C dx fs, x = .ref a ∧ H2 a = some (.ins C dx fs) ∧ Cls K C ∧ NoAttr K C f ∧ fs.length < 1000 ∧
  ∃ fs', putF f y fs = fs' ∧ D.nx σ (upd H2 a (.ins C dx fs'))
def sAugP (K : PySem.W.Frag) (ta tv : TE) (rd : V → V → Hp → VK → Prop) (f : Str) : TS := fun D σ H => ta σ H fun x H1 => ∃ a C dx fs v, x = .ref a ∧ H1 a = some (.ins C dx fs) ∧ Cls K C ∧ NoAttr K C f ∧ fs.lookup f = some v ∧
  tv σ H1 fun y H2 => rd v y H2 fun z H3 => ∃ dx' fs', H3 a = some (.ins C dx' fs') ∧ fs'.length < 1000 ∧ ∃ fs2, putF f z fs' = fs2 ∧ D.nx σ (upd H3 a (.ins C dx' fs2))
section
variable {X : Cx} {o e value : Expr} {f : Str} {pos pos' tpos : Pos} {ta tv : TE}
theorem ps_fldP (ha : PE X o ta) (hv : PE X value tv) (hs : swapsWith value (some (.Attribute o f pos')) pos.line X.env = pure false) : PS X (.Assign [.Attribute o f pos'] value pos) (sFldP X.K ta tv f) := by
  intro pins s σ H D I h
  refine plainObj_wpAny_Assign_Attribute (thn (hv pins s σ H _ I h) fun u s1 ⟨y, H1, I1, ry, q⟩ => thn (ha pins s1 σ H1 _ I1 q) fun ov s2 ⟨x, H2, I2, rx, a, C, dx, fs, ex, ea, c, n, l, fs', ef, q2⟩ => ?_) hs
  subst ex ef
  obtain rfl : ov = Value.ref a := rx
  exact setattr_ok I2 ea c n l ry fun s3 I3 => ⟨σ, _, I3, q2⟩
theorem ps_augP {op : Operator} {rd : V → V → Hp → VK → Prop} (ha : PE X o ta) (hv : PE X value tv) (hop : InOp X op rd) : PS X (.AugAssign (.Attribute o f tpos) op value pos) (sAugP X.K ta tv rd f) := by
  intro pins s σ H D I h
  refine wpAny_AugAssign_AttributeAny (thn (ha pins s σ H _ I h) fun ov s1 ⟨x, H1, I1, rx, a, C, dx, fs, v, ex, ea, c, n, l, q⟩ => ?_)
  subst ex
  obtain rfl : ov = Value.ref a := rx
  refine getattr_ok I1 ea c n l fun u s2 I2 ru => thn (hv pins s2 σ H1 _ I2 q) fun w3 s3 ⟨y, H2, I3, ry, q3⟩ => thn (hop pins s3 σ H2 v y u w3 _ I3 ru ry q3) fun w4 s4 ⟨z, H3, I4, rz, dx', fs', ea', l', fs2, ef, q4⟩ => ?_
  subst ef
  exact setattr_ok I4 ea' c n l' rz fun s5 I5 => ⟨σ, _, I5, q4⟩
end

/-! ### heaps -/
theorem tup_same {K : PySem.W.Frag} {H H' : Hp} {a : Addr} {xs : List V} (e : Same H H') (h : SqT K H a xs) : SqT K H' a xs := by
  rcases h with (h | ⟨o, h⟩) | h
  · exact .inl (.inl (e _ _ h))
  · exact .inl (.inr ⟨o, e _ _ h⟩)
  · exact .inr h
theorem _root_.L2.Same.new {H : Hp} {p : Addr} {o : HO} (h : H p = none) : Same H (upd H p o) := fun b u e => by
  rw [upd_ne (ne_of_none e h)]
  exact e
/-- all that was tracked is as it was but what X says; every tuple is -/
structure Chg (K : PySem.W.Frag) (X : Addr → Prop) (H H' : Hp) : Prop where
  keep : ∀ b o, H b = some o → ¬ X b → H' b = some o
  tup : ∀ b xs, SqT K H b xs → SqT K H' b xs
  live : ∀ b, H b ≠ none → H' b ≠ none
section
variable {K : PySem.W.Frag} {X Y : Addr → Prop} {H H1 H2 : Hp}
theorem _root_.L2.Same.chg (e : Same H H1) : Chg K X H H1 := ⟨fun b o h _ => e b o h, fun b xs h => tup_same e h, fun b h => by
  cases q : H b with
  | none => exact absurd q h
  | some o => rw [e b o q]; exact fun z => nomatch z⟩
theorem Chg.refl : Chg K X H H := (Same.refl H).chg
theorem Chg.trans (a : Chg K X H H1) (b : Chg K X H1 H2) : Chg K X H H2 := ⟨fun c o h n => b.keep c o (a.keep c o h n) n, fun c xs h => b.tup c xs (a.tup c xs h), fun c h => b.live c (a.live c h)⟩
theorem Chg.mono (a : Chg K X H H1) (h : ∀ b, X b → Y b) : Chg K Y H H1 := ⟨fun c o e n => a.keep c o e fun z => n (h c z), a.tup, a.live⟩
theorem Chg.free (a : Chg K X H H1) {b : Addr} (h : H1 b = none) : H b = none := Classical.byContradiction fun z => a.live b z h
theorem tup_upd {a b : Addr} {o u : HO} {xs : List V} (h : H a = some o) (ho : ∀ ys, o ≠ .tup ys) (ho' : ∀ z ys, o ≠ .frz z ys) (q : SqT K H b xs) : SqT K (upd H a u) b xs := by
  rcases q with (q | ⟨z, q⟩) | q
  · exact .inl (.inl (by rw [upd_ne (ne_of q h fun e => ho _ e.symm)]; exact q))
  · exact .inl (.inr ⟨z, by rw [upd_ne (ne_of q h fun e => ho' _ _ e.symm)]; exact q⟩)
  · exact .inr q
theorem chg_upd {a : Addr} {o u : HO} (h : H a = some o) (ho : ∀ ys, o ≠ .tup ys) (ho' : ∀ z ys, o ≠ .frz z ys) (x : X a) : Chg K X H (upd H a u) :=
  ⟨fun b v e n => by
      have hb : b ≠ a := fun q => n (by rw [q]; exact x)
      rw [upd_ne hb]; exact e, fun b xs q => tup_upd h ho ho' q, fun b q => by
    unfold upd
    split
    · exact fun z => nomatch z
    · exact q⟩
theorem chg_ins {a C dx : Addr} {fs : List (Str × V)} {u : HO} (h : H a = some (.ins C dx fs)) (x : X a) : Chg K X H (upd H a u) := chg_upd h (fun _ e => nomatch e) (fun _ _ e => nomatch e) x
theorem chg_lst {a : Addr} {xs : List V} {u : HO} (h : H a = some (.lst xs)) (x : X a) : Chg K X H (upd H a u) := chg_upd h (fun _ e => nomatch e) (fun _ _ e => nomatch e) x
theorem chg_new {p : Addr} {o : HO} (h : H p = none) : Chg K X H (upd H p o) := (Same.new h).chg
end

/-! ### the data -/
abbrev vi (n : Nat) : V := .int (n : Int)
section
variable (K : PySem.W.Frag) (H : Hp)
def PhT (a : Addr) (v : LwPool.Phase) : Prop := SqT K H a [vi v.stamp, vi v.phase]
def NxT (a : Addr) (w : LwPool.Next) : Prop := SqT K H a [vi w.stamp, vi w.given, vi (PoolCalls.bit w.stopped)]
def BtT (a : Addr) (l : List Bool) : Prop := SqT K H a (l.map fun b => vi (PoolCalls.bit b))
def WdT (a : Addr) (x : LwPool.Word) : Prop := ∃ m, SqT K H a [vi x.stamp, .ref m] ∧ BtT K H m x.bits
def JbT (a : Addr) (j : List Nat) : Prop := SqT K H a (j.map vi)
end
/-- the classes -/
structure Cs where
  slot : Addr
  board : Addr
  again : Addr
  look : Addr
  offer : Addr
  take : Addr
  done : Addr
  stop : Addr
  clear : Addr
  key : Addr
  sleep : Addr
  wake : Addr
  line : Addr
  nm : Addr
  nums : Addr
def slotF (t g : Addr) (n k : Nat) (j ws : Addr) : List (Str × V) := [("state", .ref t), ("giving", .ref g), ("slices", vi n), ("kind", vi k), ("job", .ref j), ("words", .ref ws)]
def boardF (e : Nat) (ls : Addr) : List (Str × V) := [("event", vi e), ("slots", .ref ls)]
structure SlotAt (K : PySem.W.Frag) (Γ : Cs) (H : Hp) (a ws : Addr) (s : LwPool.Slot) : Prop where
  ob : ∃ dx t g j, H a = some (.ins Γ.slot dx (slotF t g s.count s.kind j ws)) ∧ PhT K H t s.state ∧ NxT K H g s.next ∧ JbT K H j s.job
  wl : ∃ was : List Addr, H ws = some (.lst (was.map V.ref)) ∧ Paired (WdT K H) was s.words
structure Ft where
  b : Addr
  ls : Addr
  s : Nat → Addr
  w : Nat → Addr
def Ft.In (F : Ft) (a : Addr) : Prop := a = F.b ∨ a = F.ls ∨ (∃ j, j < 2 ∧ a = F.s j) ∨ ∃ j, j < 2 ∧ a = F.w j
structure BdAt (K : PySem.W.Frag) (Γ : Cs) (H : Hp) (F : Ft) (B : LwPool.Board) : Prop where
  bd : ∃ dx, H F.b = some (.ins Γ.board dx (boardF B.event F.ls))
  ls : H F.ls = some (.lst [.ref (F.s 0), .ref (F.s 1)])
  at_ : ∀ j, j < 2 → SlotAt K Γ H (F.s j) (F.w j) (B.slot j)
  sd : F.s 0 ≠ F.s 1
  wd : F.w 0 ≠ F.w 1
  lw : ∀ j, j < 2 → F.ls ≠ F.w j
/-- the addresses that came in -/
def New (H : Hp) (F F' : Ft) : Prop := F'.b = F.b ∧ ∀ a, F'.In a → F.In a ∨ H a = none

theorem paired_imp {α β : Type} {R S : α → β → Prop} (h : ∀ a b, R a b → S a b) : ∀ {xs : List α} {ys : List β}, Paired R xs ys → Paired S xs ys
  | _, _, .nil => .nil
  | _, _, .cons r t => .cons (h _ _ r) (paired_imp h t)
section
variable {K : PySem.W.Frag} {Γ : Cs} {X : Addr → Prop} {H H' : Hp}
theorem PhT.chg {a : Addr} {v : LwPool.Phase} (h : PhT K H a v) (c : Chg K X H H') : PhT K H' a v := c.tup _ _ h
theorem NxT.chg {a : Addr} {v : LwPool.Next} (h : NxT K H a v) (c : Chg K X H H') : NxT K H' a v := c.tup _ _ h
theorem JbT.chg {a : Addr} {v : List Nat} (h : JbT K H a v) (c : Chg K X H H') : JbT K H' a v := c.tup _ _ h
theorem WdT.chg {a : Addr} {v : LwPool.Word} (h : WdT K H a v) (c : Chg K X H H') : WdT K H' a v := by
  obtain ⟨m, h1, h2⟩ := h
  exact ⟨m, c.tup _ _ h1, c.tup _ _ h2⟩
theorem SlotAt.chg {a ws : Addr} {s : LwPool.Slot} (h : SlotAt K Γ H a ws s) (c : Chg K X H H') (n1 : ¬ X a) (n2 : ¬ X ws) : SlotAt K Γ H' a ws s := by
  obtain ⟨⟨dx, t, g, j, h1, h2, h3, h4⟩, was, h5, h6⟩ := h
  exact ⟨⟨dx, t, g, j, c.keep _ _ h1 n1, h2.chg c, h3.chg c, h4.chg c⟩, was, c.keep _ _ h5 n2, paired_imp (fun _ _ q => q.chg c) h6⟩
theorem BdAt.chg {F : Ft} {B : LwPool.Board} (h : BdAt K Γ H F B) (c : Chg K X H H') (n : ∀ a, F.In a → ¬ X a) : BdAt K Γ H' F B := by
  obtain ⟨⟨dx, h1⟩, h2, h3, h4, h5, h6⟩ := h
  exact ⟨⟨dx, c.keep _ _ h1 (n _ (.inl rfl))⟩, c.keep _ _ h2 (n _ (.inr (.inl rfl))), fun j hj => (h3 j hj).chg c (n _ (.inr (.inr (.inl ⟨j, hj, rfl⟩)))) (n _ (.inr (.inr (.inr ⟨j, hj, rfl⟩)))), h4, h5, h6⟩
theorem BdAt.same {F : Ft} {B : LwPool.Board} (h : BdAt K Γ H F B) (c : Same H H') : BdAt K Γ H' F B := h.chg (X := fun _ => False) c.chg fun _ _ z => z
/-- every address of it is tracked, and holds an instance or a list -/
theorem BdAt.kind {F : Ft} {B : LwPool.Board} (h : BdAt K Γ H F B) {a : Addr} (ha : F.In a) : (∃ C dx f v r, H a = some (.ins C dx ((f, v) :: r)) ∧ (f = ("event" : Str) ∨ f = ("state" : Str))) ∨ ∃ xs, H a = some (.lst xs) := by
  rcases ha with rfl | rfl | ⟨j, hj, rfl⟩ | ⟨j, hj, rfl⟩
  · obtain ⟨dx, e⟩ := h.bd
    exact .inl ⟨_, _, _, _, _, e, .inl rfl⟩
  · exact .inr ⟨_, h.ls⟩
  · obtain ⟨dx, t, g, jj, e, _⟩ := (h.at_ j hj).ob
    exact .inl ⟨_, _, _, _, _, e, .inr rfl⟩
  · obtain ⟨was, e, _⟩ := (h.at_ j hj).wl
    exact .inr ⟨_, e⟩
/-- an instance that begins with another attribute is none of it -/
theorem BdAt.notIns {F : Ft} {B : LwPool.Board} (h : BdAt K Γ H F B) {p C dx : Addr} {f : Str} {v : V} {r : List (Str × V)} (e : H p = some (.ins C dx ((f, v) :: r))) (h1 : ¬ f = ("event" : Str)) (h2 : ¬ f = ("state" : Str)) : ¬ F.In p := by
  intro z
  rcases h.kind z with ⟨C', dx', f', v', r', e', q⟩ | ⟨xs, e'⟩
  · rw [e] at e'
    have e' := Option.some.inj e'
    injection e' with _ _ e3
    injection e3 with e4 _
    injection e4 with e5 _
    subst e5
    exact q.elim h1 h2
  · rw [e] at e'
    exact nomatch Option.some.inj e'
theorem BdAt.notNone {F : Ft} {B : LwPool.Board} (h : BdAt K Γ H F B) {p : Addr} (e : H p = none) : ¬ F.In p := by
  intro z
  rcases h.kind z with ⟨C', dx', f', v', r', e', q⟩ | ⟨xs, e'⟩
  · rw [e] at e'; exact nomatch e'
  · rw [e] at e'; exact nomatch e'
theorem New.refl {F : Ft} : New H F F := ⟨rfl, fun _ h => .inl h⟩
theorem New.trans {F F1 F2 : Ft} {H1 : Hp} (a : New H F F1) (b : New H1 F1 F2) (c : Chg K X H H1) : New H F F2 :=
  ⟨b.1.trans a.1, fun x h => (b.2 x h).elim (fun z => a.2 x z) fun z => .inr (c.free z)⟩
end

theorem s_two {F : Ft} (h : F.s 0 ≠ F.s 1) {i j : Nat} (hi : i < 2) (hj : j < 2) (hij : i ≠ j) : F.s i ≠ F.s j := by
  match i, j, hi, hj with
  | 0, 0, _, _ => exact absurd rfl hij
  | 0, 1, _, _ => exact h
  | 1, 0, _, _ => exact h.symm
  | 1, 1, _, _ => exact absurd rfl hij
theorem w_two {F : Ft} (h : F.w 0 ≠ F.w 1) {i j : Nat} (hi : i < 2) (hj : j < 2) (hij : i ≠ j) : F.w i ≠ F.w j := by
  match i, j, hi, hj with
  | 0, 0, _, _ => exact absurd rfl hij
  | 0, 1, _, _ => exact h
  | 1, 0, _, _ => exact h.symm
  | 1, 1, _, _ => exact absurd rfl hij

/-- one slot is written: the words' list stays, or is a new one -/
theorem BdAt.slot {K : PySem.W.Frag} {Γ : Cs} {H H' : Hp} {F : Ft} {B : LwPool.Board} {i : Nat} {ws : Addr} {s : LwPool.Slot} (h : BdAt K Γ H F B) (hB : BOk B) (hi : i < 2) (c : Chg K (fun a => a = F.s i ∨ a = F.w i) H H') (hs : SlotAt K Γ H' (F.s i) ws s)
    (hw : ws = F.w i ∨ H ws = none) : ∃ F', BdAt K Γ H' F' (B.with_ i s) ∧ New H F F' := by
  have hl : i < B.slots.length := by rw [hB.len]; exact hi
  have n_ins : ∀ {a C dx fs}, H a = some (.ins C dx fs) → a ≠ F.w i := fun e => by
    obtain ⟨was, q, _⟩ := (h.at_ i hi).wl
    exact ne_of e q (fun z => nomatch z)
  have n_lst : ∀ {a xs}, H a = some (.lst xs) → a ≠ F.s i := fun e => by
    obtain ⟨dx, t, g, j, q, _⟩ := (h.at_ i hi).ob
    exact ne_of e q (fun z => nomatch z)
  have n_ws : ∀ {a o}, H a = some o → (H ws = none → a ≠ ws) := fun e z => ne_of_none e z
  obtain ⟨dx, hb⟩ := h.bd
  obtain ⟨dxi, ti, gi, ji, hsi, _⟩ := (h.at_ i hi).ob
  have nb : F.b ≠ F.s i := ne_of hb hsi (fun z => by injection z with _ _ z; injection z with z _; injection z with z _; exact absurd z (by decide +kernel))
  refine ⟨{ F with w := fun j => if j = i then ws else F.w j }, ⟨⟨dx, ?_⟩, ?_, fun j hj => ?_, h.sd, ?_, fun j hj => ?_⟩, rfl, fun a ha => ?_⟩
  · exact c.keep _ _ hb fun z => z.elim nb (n_ins hb)
  · exact c.keep _ _ h.ls fun z => z.elim (n_lst h.ls) (h.lw i hi)
  · rw [slot_with B i j s hl]
    show SlotAt K Γ H' (F.s j) (if j = i then ws else F.w j) _
    by_cases e : j = i
    · rw [if_pos e, if_pos e, e]
      exact hs
    · rw [if_neg e, if_neg e]
      obtain ⟨dxj, tj, gj, jj, hsj, _⟩ := (h.at_ j hj).ob
      obtain ⟨was, hwj, _⟩ := (h.at_ j hj).wl
      exact (h.at_ j hj).chg c (fun z => z.elim (s_two h.sd hj hi e) (n_ins hsj)) (fun z => z.elim (n_lst hwj) (w_two h.wd hj hi e))
  · show (if 0 = i then ws else F.w 0) ≠ (if 1 = i then ws else F.w 1)
    obtain ⟨was0, hw0, _⟩ := (h.at_ 0 (by decide)).wl
    obtain ⟨was1, hw1, _⟩ := (h.at_ 1 (by decide)).wl
    by_cases e0 : 0 = i
    · have e1 : ¬ 1 = i := by omega
      rw [if_pos e0, if_neg e1]
      rcases hw with e | e
      · rw [e, ← e0]; exact h.wd
      · exact (ne_of_none hw1 e).symm
    · have e1 : 1 = i := by omega
      rw [if_neg e0, if_pos e1]
      rcases hw with e | e
      · rw [e, ← e1]; exact h.wd
      · exact ne_of_none hw0 e
  · show F.ls ≠ (if j = i then ws else F.w j)
    by_cases e : j = i
    · rw [if_pos e]
      rcases hw with e' | e'
      · rw [e']; exact h.lw i hi
      · exact ne_of_none h.ls e'
    · rw [if_neg e]
      exact h.lw j hj
  · rcases ha with e | e | ⟨j, hj, e⟩ | ⟨j, hj, e⟩
    · exact .inl (.inl e)
    · exact .inl (.inr (.inl e))
    · exact .inl (.inr (.inr (.inl ⟨j, hj, e⟩)))
    · have e : a = if j = i then ws else F.w j := e
      by_cases q : j = i
      · rw [if_pos q] at e
        rcases hw with e' | e'
        · exact .inl (.inr (.inr (.inr ⟨i, hi, e.trans e'⟩)))
        · exact .inr (by rw [e]; exact e')
      · rw [if_neg q] at e
        exact .inl (.inr (.inr (.inr ⟨j, hj, e⟩)))
end Po

namespace Po
open PySem PySem.Spec PyProof.Rows L2
local macro_rules | `(tactic| walk_at "lk") => `(tactic| repeat (first | exact lk_hit | exact lk_nil | refine (lk_miss (by decide +kernel)).trans ?_))
local macro_rules | `(tactic| walk_at "put") => `(tactic| repeat (first | exact put_hit | exact put_nil | (apply put_miss; · decide +kernel)))
def top (i : Nat) : Stmt := PySem.Challenge.pw_slicepool_s01_answers.main.body.getD i (.Pass ⟨0, 0, 0, 0⟩)
/-- what of the text's top the proofs use -/
structure Tx (K : PySem.W.Frag) (mg : Str → Option Value) (Γ : Cs) : Prop where
  g_GAP : GV mg "GAP" .non
  g_NOT_THERE : GV mg "NOT_THERE" (.int (-1))
  g_DISTURBED : GV mg "DISTURBED" (.int (-2))
  g_NO_SUCH_SLICE : GV mg "NO_SUCH_SLICE" (.int (-3))
  g_OUT_OF_RANGE : GV mg "OUT_OF_RANGE" (.int (-4))
  g_TRIES : GV mg "TRIES" (.int 3)
  g_SLOTS : GV mg "SLOTS" (.int 2)
  g_WORDS : GV mg "WORDS" (.int 4)
  g_MARKS_OF_A_WORD : GV mg "MARKS_OF_A_WORD" (.int 8)
  g_MOST_SLICES : GV mg "MOST_SLICES" (.int 32)
  g_PHASE_FREE : GV mg "PHASE_FREE" (.int 0)
  g_PHASE_LAID : GV mg "PHASE_LAID" (.int 1)
  g_PHASE_OPEN : GV mg "PHASE_OPEN" (.int 2)
  g_PHASE_FINISHED : GV mg "PHASE_FINISHED" (.int 4)
  g_STAMP : GV mg "STAMP" (.int 0)
  g_PHASE : GV mg "PHASE" (.int 1)
  g_GIVEN : GV mg "GIVEN" (.int 1)
  g_STOPPED : GV mg "STOPPED" (.int 2)
  g_MARKS : GV mg "MARKS" (.int 1)
  g_CLAIM : GV mg "CLAIM" (.int 0)
  g_LAY : GV mg "LAY" (.int 1)
  g_SHOW : GV mg "SHOW" (.int 2)
  g_ALREADY : GV mg "ALREADY" (.int 2)
  g_PARTIES : GV mg "PARTIES" (.int 4)
  g_OFFER : GV mg "OFFER" (.int 0)
  g_TAKE : GV mg "TAKE" (.int 1)
  g_AGAIN : GV mg "AGAIN" (.int 2)
  g_DONE : GV mg "DONE" (.int 3)
  g_STOP : GV mg "STOP" (.int 4)
  g_LOOK : GV mg "LOOK" (.int 5)
  g_CLEAR : GV mg "CLEAR" (.int 6)
  g_KEY : GV mg "KEY" (.int 7)
  g_SLEEP : GV mg "SLEEP" (.int 8)
  g_GO : GV mg "GO" (.int 10)
  g_GONE : GV mg "GONE" (.int 11)
  g_BOARD : GV mg "BOARD" (.int 12)
  g_AT_GAP : GV mg "AT_GAP" (.int 0)
  g_AT_END : GV mg "AT_END" (.int 1)
  g_IS_GONE : GV mg "IS_GONE" (.int 2)
  g_IS_BOARD : GV mg "IS_BOARD" (.int 3)
  g_NO_PARTY : GV mg "NO_PARTY" (.int (-1))
  g_OUT_OF_TURN : GV mg "OUT_OF_TURN" (.int (-9))
  g_NO_MARKS : GV mg "NO_MARKS" (.ref Γ.nm)
  g_NUMBERS : GV mg "NUMBERS" (.ref Γ.nums)
  s_nm : ∀ H, SqT K H Γ.nm (List.replicate 8 (.int 0))
  s_nums : ∀ H, SqT K H Γ.nums [.int 3, .int 1, .int 2, .int 3, .int 2, .int 2, .int 2, .int 1, .int 2, .int 1, .int 1, .int 1, .int 0]
  b_len : mg "len" = none
  b_min : mg "min" = none
  b_list : mg "list" = none
  b_tuple : mg "tuple" = none
  b_range : mg "range" = none
  cl_slot : Cls K Γ.slot
  n_slot_state : NoAttr K Γ.slot "state"
  n_slot_giving : NoAttr K Γ.slot "giving"
  n_slot_slices : NoAttr K Γ.slot "slices"
  n_slot_kind : NoAttr K Γ.slot "kind"
  n_slot_job : NoAttr K Γ.slot "job"
  n_slot_words : NoAttr K Γ.slot "words"
  cl_board : Cls K Γ.board
  n_board_event : NoAttr K Γ.board "event"
  n_board_slots : NoAttr K Γ.board "slots"
  cl_again : Cls K Γ.again
  n_again_place : NoAttr K Γ.again "place"
  n_again_fails : NoAttr K Γ.again "fails"
  n_again_ticket : NoAttr K Γ.again "ticket"
  cl_look : Cls K Γ.look
  n_look_place : NoAttr K Γ.look "place"
  n_look_fails : NoAttr K Γ.look "fails"
  n_look_ticket : NoAttr K Γ.look "ticket"
  cl_offer : Cls K Γ.offer
  n_offer_place : NoAttr K Γ.offer "place"
  n_offer_fails : NoAttr K Γ.offer "fails"
  n_offer_slices : NoAttr K Γ.offer "slices"
  n_offer_kind : NoAttr K Γ.offer "kind"
  n_offer_job : NoAttr K Γ.offer "job"
  n_offer_at : NoAttr K Γ.offer "at"
  n_offer_seen : NoAttr K Γ.offer "seen"
  n_offer_stage : NoAttr K Γ.offer "stage"
  cl_take : Cls K Γ.take
  n_take_place : NoAttr K Γ.take "place"
  n_take_fails : NoAttr K Γ.take "fails"
  n_take_at : NoAttr K Γ.take "at"
  n_take_seen : NoAttr K Γ.take "seen"
  n_take_told : NoAttr K Γ.take "told"
  cl_done : Cls K Γ.done
  n_done_place : NoAttr K Γ.done "place"
  n_done_fails : NoAttr K Γ.done "fails"
  n_done_seen : NoAttr K Γ.done "seen"
  n_done_ticket : NoAttr K Γ.done "ticket"
  n_done_stamp : NoAttr K Γ.done "stamp"
  n_done_written : NoAttr K Γ.done "written"
  n_done_k : NoAttr K Γ.done "k"
  cl_stop : Cls K Γ.stop
  n_stop_place : NoAttr K Γ.stop "place"
  n_stop_fails : NoAttr K Γ.stop "fails"
  n_stop_seen : NoAttr K Γ.stop "seen"
  n_stop_ticket : NoAttr K Γ.stop "ticket"
  n_stop_stamp : NoAttr K Γ.stop "stamp"
  n_stop_written : NoAttr K Γ.stop "written"
  cl_clear : Cls K Γ.clear
  n_clear_place : NoAttr K Γ.clear "place"
  n_clear_fails : NoAttr K Γ.clear "fails"
  n_clear_seen : NoAttr K Γ.clear "seen"
  n_clear_ticket : NoAttr K Γ.clear "ticket"
  n_clear_stamp : NoAttr K Γ.clear "stamp"
  cl_key : Cls K Γ.key
  n_key_place : NoAttr K Γ.key "place"
  n_key_fails : NoAttr K Γ.key "fails"
  cl_sleep : Cls K Γ.sleep
  n_sleep_place : NoAttr K Γ.sleep "place"
  n_sleep_fails : NoAttr K Γ.sleep "fails"
  n_sleep_number : NoAttr K Γ.sleep "number"
  cl_wake : Cls K Γ.wake
  n_wake_place : NoAttr K Γ.wake "place"
  n_wake_fails : NoAttr K Γ.wake "fails"
  n_wake_seen : NoAttr K Γ.wake "seen"
  cl_line : Cls K Γ.line
  n_line_board : NoAttr K Γ.line "board"
  n_line_running : NoAttr K Γ.line "running"

section
variable {P : Program} {w : World} {K : PySem.W.Frag} {mg : Str → Option Value} {base : Heap} {Γ : Cs}
/-! ### numbers -/
def spTicket : Sp := fun vs H Q _ => ∃ s n : Nat, vs = [vi s, vi n] ∧ Q (vi (LwPool.ticketOf s n)) H
abbrev s_ticket_of : Stmt := top 26
theorem sc_ticket_of : FnScope ["stamp", "number"] ["stamp", "number"] (defScope s_ticket_of) := ⟨rfl, rfl, rfl, by decide +kernel, rfl, by decide +kernel, by decide +kernel⟩
theorem ok_ticket_of {f : Addr} {fd : FuncData} (F : Fun K "ticket_of" "ticket_of" s_ticket_of f fd) (T : Tx K mg Γ) : FnOk P w K mg base CX0 1 f fd ["stamp", "number"] spTicket := by
  have sc := sc_ticket_of
  refine F.ok sc (fun vs H Q E h => ?_) (fun cdv A outer s H vs Q E hr h => ?_)
  · obtain ⟨_, _, rfl, _⟩ := h
    rfl
  · obtain ⟨s, n, rfl, k⟩ := h
    refine ⟨_, (pss_one (ps_ret (pe_op op_add (pe_op op_mul (pe_gv T.g_SLOTS rfl) (pv 0)) (pv 1)))), ?_⟩
    refine ⟨_, rfl, _, _, rfl, rfl, .inl ⟨by decide, by decide⟩, _, rfl, _, _, rfl, rfl, ?_⟩
    have e : 2 * (s : Int) + (n : Int) = ((LwPool.ticketOf s n : Nat) : Int) := by unfold LwPool.ticketOf LwPool.SLOTS; omega
    show Q (V.int (2 * (s : Int) + (n : Int))) H
    rw [e]
    exact k
def spStamp : Sp := fun vs H Q _ => ∃ t : Nat, vs = [vi t] ∧ Q (vi (LwPool.stampOf t)) H
abbrev s_stamp_of : Stmt := top 27
theorem sc_stamp_of : FnScope ["ticket"] ["ticket"] (defScope s_stamp_of) := ⟨rfl, rfl, rfl, by decide +kernel, rfl, by decide +kernel, by decide +kernel⟩
theorem ok_stamp_of {f : Addr} {fd : FuncData} (F : Fun K "stamp_of" "stamp_of" s_stamp_of f fd) (T : Tx K mg Γ) : FnOk P w K mg base CX0 1 f fd ["ticket"] spStamp := by
  have sc := sc_stamp_of
  refine F.ok sc (fun vs H Q E h => ?_) (fun cdv A outer s H vs Q E hr h => ?_)
  · obtain ⟨_, rfl, _⟩ := h
    rfl
  · obtain ⟨t, rfl, k⟩ := h
    refine ⟨_, (pss_one (ps_ret (pe_op op_fdiv (pv 0) (pe_gv T.g_SLOTS rfl)))), ?_⟩
    refine ⟨_, rfl, _, _, rfl, rfl, ⟨by decide, by decide⟩, ?_⟩
    have e : (t : Int) / 2 = ((LwPool.stampOf t : Nat) : Int) := by unfold LwPool.stampOf LwPool.SLOTS; omega
    show Q (V.int ((t : Int) / 2)) H
    rw [e]
    exact k
def spEven : Sp := fun vs H Q _ => ∃ x : Nat, vs = [vi x] ∧ Q (.bl (decide (x % 2 = 0))) H
abbrev s_is_even : Stmt := top 55
theorem sc_is_even : FnScope ["event"] ["event"] (defScope s_is_even) := ⟨rfl, rfl, rfl, by decide +kernel, rfl, by decide +kernel, by decide +kernel⟩
theorem ok_is_even {f : Addr} {fd : FuncData} (F : Fun K "is_even" "is_even" s_is_even f fd) (T : Tx K mg Γ) : FnOk P w K mg base CX0 1 f fd ["event"] spEven := by
  have sc := sc_is_even
  refine F.ok sc (fun vs H Q E h => ?_) (fun cdv A outer s H vs Q E hr h => ?_)
  · obtain ⟨_, rfl, _⟩ := h
    rfl
  · obtain ⟨x, rfl, k⟩ := h
    refine ⟨_, (pss_one (ps_ret (pe_cmpR op_eq (pe_op op_mod (pv 0) pe_int) pe_int (nomark _)))), ?_⟩
    refine ⟨_, rfl, _, _, rfl, rfl, (by show (0 : Int) < 2; decide), rfl, ?_⟩
    have e : decide (V.int ((x : Int) % 2) = V.int 0) = decide (x % 2 = 0) := by
      apply decide_eq_decide.mpr
      constructor
      · intro q; injection q with q; omega
      · intro q; congr 1; omega
    show Q (V.bl (decide (V.int ((x : Int) % 2) = V.int 0))) H
    rw [e]
    exact k
/-! ### the slot of a ticket -/
def spSlotOf (K : PySem.W.Frag) (Γ : Cs) : Sp := fun vs H Q _ => ∃ (F : Ft) (B : LwPool.Board) (t : Nat), vs = [.ref F.b, vi t] ∧ BdAt K Γ H F B ∧ Q (.ref (F.s (LwPool.slotOf t))) H
theorem slots_at {F : Ft} {j : Nat} (h : j < 2) : ([V.ref (F.s 0), V.ref (F.s 1)] : List V)[j]? = some (.ref (F.s j)) := by
  match j, h with
  | 0, _ => rfl
  | 1, _ => rfl
abbrev s_slot_of : Stmt := top 28
theorem sc_slot_of : FnScope ["board", "ticket"] ["board", "ticket"] (defScope s_slot_of) := ⟨rfl, rfl, rfl, by decide +kernel, rfl, by decide +kernel, by decide +kernel⟩
theorem ok_slot_of {f : Addr} {fd : FuncData} (F : Fun K "slot_of" "slot_of" s_slot_of f fd) (T : Tx K mg Γ) : FnOk P w K mg base CX0 1 f fd ["board", "ticket"] (spSlotOf K Γ) := by
  have sc := sc_slot_of
  refine F.ok sc (fun vs H Q E h => ?_) (fun cdv A outer s H vs Q E hr h => ?_)
  · obtain ⟨_, _, _, rfl, _⟩ := h
    rfl
  · obtain ⟨F, B, t, rfl, hB, k⟩ := h
    refine ⟨_, (pss_one (ps_ret (pe_ix ix_list (pe_fld (pv 0) rfl) (pe_op op_mod (pv 1) (pe_gv T.g_SLOTS rfl)) (fun _ _ => rfl)))), ?_⟩
    obtain ⟨dx, hb⟩ := hB.bd
    refine ⟨_, rfl, F.b, Γ.board, dx, _, _, rfl, hb, T.cl_board, T.n_board_slots, (by walk_at "lk"), _, rfl, _, _, rfl, rfl, (by show (0 : Int) < 2; decide), F.ls, _, _, _, rfl, rfl, SqL.of hB.ls, at_of (j := LwPool.slotOf t) ?_ (slots_at (slotOf_lt t)), k⟩
    unfold LwPool.slotOf LwPool.SLOTS
    omega
theorem ieq (a c : Nat) : ((a : Int) == (c : Int)) = decide (a = c) := by
  by_cases h : a = c
  · rw [h, decide_eq_true rfl]; exact beq_self_eq_true _
  · rw [decide_eq_false h]; exact beq_eq_false_iff_ne.mpr (by omega)
theorem eqv2 (a b c d : Nat) : PyData.eqv (.tuple [.int a, .int b]) (.tuple [.int c, .int d]) = (decide (a = c) && decide (b = d)) := by
  simp only [PyData.eqv, PyData.eqvAll, ieq, Bool.and_true]
def spHas (K : PySem.W.Frag) (Γ : Cs) : Sp := fun vs H Q _ => ∃ (F : Ft) (B : LwPool.Board) (t ph : Nat), vs = [.ref F.b, vi t, vi ph] ∧ BdAt K Γ H F B ∧ ∀ H', Same H H' → Q (.bl (B.isAt t ph)) H'
abbrev s_has_phase : Stmt := top 29
theorem sc_has_phase : FnScope ["board", "ticket", "phase"] ["board", "ticket", "phase"] (defScope s_has_phase) := ⟨rfl, rfl, rfl, by decide +kernel, rfl, by decide +kernel, by decide +kernel⟩
theorem ok_has_phase {f : Addr} {fd : FuncData} (F : Fun K "has_phase" "has_phase" s_has_phase f fd) (T : Tx K mg Γ) (g_slot_of : GF P w K mg base "slot_of" 1 ["board", "ticket"] (spSlotOf K Γ)) (g_stamp_of : GF P w K mg base "stamp_of" 1 ["ticket"] spStamp) :
    FnOk P w K mg base CX0 2 f fd ["board", "ticket", "phase"] (spHas K Γ) := by
  have sc := sc_has_phase
  refine F.ok sc (fun vs H Q E h => ?_) (fun cdv A outer s H vs Q E hr h => ?_)
  · obtain ⟨_, _, _, _, rfl, _⟩ := h
    rfl
  · obtain ⟨F, B, t, ph, rfl, hB, k⟩ := h
    refine ⟨_, (pss_one (ps_ret (pe_cmpR (op_eqD hr.units) (pe_fld (pe_gf g_slot_of (hr.mono (by decide)) rfl (pa_cons (pv 0) (pa_cons (pv 1) pa_nil))) rfl) (pe_tup (pa_cons (pe_gf g_stamp_of (hr.mono (by decide)) rfl (pa_cons (pv 1) pa_nil)) (pa_cons (pv 2) pa_nil))) (nomark _)))), ?_⟩
    obtain ⟨dx, ta, ga, ja, hs, hp, hn, hj⟩ := (hB.at_ _ (slotOf_lt t)).ob
    refine ⟨_, rfl, _, rfl, F, B, t, rfl, hB, _, Γ.slot, dx, _, _, rfl, hs, T.cl_slot, T.n_slot_state, (by walk_at "lk"), _, rfl, t, rfl, _, rfl, (by show 2 ≤ sizeLine; decide), fun p hp' => ?_⟩
    have s1 : Same H (upd H p (.tup [vi (LwPool.stampOf t), vi ph])) := Same.new hp'
    refine ⟨.tuple [.int (B.slot (LwPool.slotOf t)).state.stamp, .int (B.slot (LwPool.slotOf t)).state.phase], .tuple [.int (LwPool.stampOf t), .int ph],
      .tup (tup_same s1 hp) (.cons (.int _) (.cons (.int _) .nil)), .tup (SqT.of upd_same) (.cons (.int _) (.cons (.int _) .nil)), rfl, rfl, ?_⟩
    have e : PyData.eqv (.tuple [.int (B.slot (LwPool.slotOf t)).state.stamp, .int (B.slot (LwPool.slotOf t)).state.phase]) (.tuple [.int (LwPool.stampOf t), .int ph]) = B.isAt t ph := by
      rw [eqv2]
      rfl
    rw [e]
    exact k _ s1
end
end Po

namespace Po
open PySem PySem.Spec PyProof.Rows L2
local macro_rules | `(tactic| walk_at "lk") => `(tactic| repeat (first | exact lk_hit | exact lk_nil | refine (lk_miss (by decide +kernel)).trans ?_))
local macro_rules | `(tactic| walk_at "put") => `(tactic| repeat (first | exact put_hit | exact put_nil | (apply put_miss; · decide +kernel)))
theorem ifD {c A B : Prop} [Decidable c] (h1 : c → A) (h2 : ¬ c → B) : if decide c = true then A else B := by
  by_cases h : c
  · rw [decide_eq_true h, if_pos rfl]; exact h1 h
  · rw [decide_eq_false h, if_neg Bool.false_ne_true]; exact h2 h
theorem ifB {b : Bool} {A B : Prop} (h1 : b = true → A) (h2 : b = false → B) : if b = true then A else B := by
  cases b with
  | true => exact iteT (h1 rfl)
  | false => exact iteF (h2 rfl)
theorem ifN {b : Bool} {A B : Prop} (h1 : b = false → A) (h2 : b = true → B) : if (!b) = true then A else B := by
  cases b with
  | true => exact iteF (h2 rfl)
  | false => exact iteT (h1 rfl)
theorem bit1 {b : Bool} : V.int ((PoolCalls.bit b : Nat) : Int) = V.int 1 ↔ b = true := by
  cases b <;> simp [PoolCalls.bit]
theorem bit0 {b : Bool} : V.int ((PoolCalls.bit b : Nat) : Int) = V.int 0 ↔ b = false := by
  cases b <;> simp [PoolCalls.bit]
section
variable {P : Program} {w : World} {K : PySem.W.Frag} {mg : Str → Option Value} {base : Heap} {Γ : Cs}
def spLimit (K : PySem.W.Frag) (Γ : Cs) : Sp := fun vs H Q _ => ∃ (a ws : Addr) (s : LwPool.Slot), vs = [.ref a] ∧ SlotAt K Γ H a ws s ∧ Q (vi s.limit) H
abbrev s_limit_of : Stmt := top 30
theorem sc_limit_of : FnScope ["slot"] ["slot"] (defScope s_limit_of) := ⟨rfl, rfl, rfl, by decide +kernel, rfl, by decide +kernel, by decide +kernel⟩
theorem ok_limit_of {f : Addr} {fd : FuncData} (F : Fun K "limit_of" "limit_of" s_limit_of f fd) (T : Tx K mg Γ) : FnOk P w K mg base CX0 1 f fd ["slot"] (spLimit K Γ) := by
  have sc := sc_limit_of
  refine F.ok sc (fun vs H Q E h => ?_) (fun cdv A outer s H vs Q E hr h => ?_)
  · obtain ⟨_, _, _, rfl, _⟩ := h
    rfl
  · obtain ⟨a, ws, s, rfl, hS, k⟩ := h
    refine ⟨_, (pss_cons (ps_if (pt_cmpR op_eq (pe_ix ix_tup (pe_fld (pv 0) rfl) (pe_gv T.g_STOPPED rfl) (fun _ _ => rfl)) pe_int (nomark _))
        (pss_one (ps_ret (pe_ix ix_tup (pe_fld (pv 0) rfl) (pe_gv T.g_GIVEN rfl) (fun _ _ => rfl))))
        pss_nil)
      (pss_one (ps_ret (pe_fld (pv 0) rfl)))), ?_⟩
    obtain ⟨dx, t, g, j, hs, hp, hn, hj⟩ := hS.ob
    refine ⟨_, rfl, a, Γ.slot, dx, _, _, rfl, hs, T.cl_slot, T.n_slot_giving, (by walk_at "lk"), g, _, _, _, rfl, rfl, hn, at_of (j := 2) rfl rfl, rfl, _, rfl, ifD (fun q => ?_) (fun q => ?_)⟩
    · refine ⟨_, rfl, a, Γ.slot, dx, _, _, rfl, hs, T.cl_slot, T.n_slot_giving, (by walk_at "lk"), g, _, _, _, rfl, rfl, hn, at_of (j := 1) rfl rfl, ?_⟩
      have e : s.limit = s.next.given := if_pos (bit1.mp q)
      rw [e] at k
      exact k
    · refine ⟨_, rfl, a, Γ.slot, dx, _, _, rfl, hs, T.cl_slot, T.n_slot_slices, (by walk_at "lk"), ?_⟩
      have e : s.limit = s.count := if_neg fun z => q (bit1.mpr z)
      rw [e] at k
      exact k
def spGiven (K : PySem.W.Frag) (Γ : Cs) : Sp := fun vs H Q _ => ∃ (a ws : Addr) (s : LwPool.Slot), vs = [.ref a] ∧ SlotAt K Γ H a ws s ∧ Q (vi s.taken) H
abbrev s_given_of : Stmt := top 31
theorem sc_given_of : FnScope ["slot"] ["slot"] (defScope s_given_of) := ⟨rfl, rfl, rfl, by decide +kernel, rfl, by decide +kernel, by decide +kernel⟩
theorem ok_given_of {f : Addr} {fd : FuncData} (F : Fun K "given_of" "given_of" s_given_of f fd) (T : Tx K mg Γ) : FnOk P w K mg base CX0 1 f fd ["slot"] (spGiven K Γ) := by
  have sc := sc_given_of
  refine F.ok sc (fun vs H Q E h => ?_) (fun cdv A outer s H vs Q E hr h => ?_)
  · obtain ⟨_, _, _, rfl, _⟩ := h
    rfl
  · obtain ⟨a, ws, s, rfl, hS, k⟩ := h
    refine ⟨_, (pss_cons (ps_if (pt_cmpR op_eq (pe_ix ix_tup (pe_fld (pv 0) rfl) (pe_gv T.g_STOPPED rfl) (fun _ _ => rfl)) pe_int (nomark _))
        (pss_one (ps_ret (pe_ix ix_tup (pe_fld (pv 0) rfl) (pe_gv T.g_GIVEN rfl) (fun _ _ => rfl))))
        pss_nil)
      (pss_one (ps_ret (pe_callB (call_min2 rfl) (by rfl) T.b_min bo_min (pa_cons (pe_ix ix_tup (pe_fld (pv 0) rfl) (pe_gv T.g_GIVEN rfl) (fun _ _ => rfl)) (pa_cons (pe_fld (pv 0) rfl) pa_nil)))))), ?_⟩
    obtain ⟨dx, t, g, j, hs, hp, hn, hj⟩ := hS.ob
    refine ⟨_, rfl, a, Γ.slot, dx, _, _, rfl, hs, T.cl_slot, T.n_slot_giving, (by walk_at "lk"), g, _, _, _, rfl, rfl, hn, at_of (j := 2) rfl rfl, rfl, _, rfl, ifD (fun q => ?_) (fun q => ?_)⟩
    · refine ⟨_, rfl, a, Γ.slot, dx, _, _, rfl, hs, T.cl_slot, T.n_slot_giving, (by walk_at "lk"), g, _, _, _, rfl, rfl, hn, at_of (j := 1) rfl rfl, ?_⟩
      have e : s.taken = s.next.given := if_pos (bit1.mp q)
      rw [e] at k
      exact k
    · refine ⟨_, rfl, a, Γ.slot, dx, _, _, rfl, hs, T.cl_slot, T.n_slot_giving, (by walk_at "lk"), g, _, _, _, rfl, rfl, hn, at_of (j := 1) rfl rfl, _, rfl, a, Γ.slot, dx, _, _, rfl, hs, T.cl_slot, T.n_slot_slices, (by walk_at "lk"), _, _, rfl, ?_⟩
      have e : s.taken = min s.next.given s.count := if_neg fun z => q (bit1.mpr z)
      rw [e] at k
      have e2 : (if (s.count : Int) < (s.next.given : Int) then (s.count : Int) else (s.next.given : Int)) = ((min s.next.given s.count : Nat) : Int) := by
        split <;> omega
      show Q (V.int (if (s.count : Int) < (s.next.given : Int) then (s.count : Int) else (s.next.given : Int))) H
      rw [e2]
      exact k
def spMarked (K : PySem.W.Frag) : Sp := fun vs H Q _ => ∃ (m : Addr) (l : List Bool) (k : Nat), vs = [.ref m, vi k] ∧ BtT K H m l ∧ l.length = 8 ∧ Q (.bl (l.getD (k % 8) false)) H
theorem bt_at {l : List Bool} {j : Nat} (h : j < l.length) : (l.map fun b => vi (PoolCalls.bit b))[j]? = some (vi (PoolCalls.bit (l.getD j false))) := by
  rw [List.getElem?_map, List.getD_eq_getElem?_getD, List.getElem?_eq_getElem h]
  rfl
abbrev s_is_marked : Stmt := top 32
theorem sc_is_marked : FnScope ["marks", "k"] ["marks", "k"] (defScope s_is_marked) := ⟨rfl, rfl, rfl, by decide +kernel, rfl, by decide +kernel, by decide +kernel⟩
theorem ok_is_marked {f : Addr} {fd : FuncData} (F : Fun K "is_marked" "is_marked" s_is_marked f fd) (T : Tx K mg Γ) : FnOk P w K mg base CX0 1 f fd ["marks", "k"] (spMarked K) := by
  have sc := sc_is_marked
  refine F.ok sc (fun vs H Q E h => ?_) (fun cdv A outer s H vs Q E hr h => ?_)
  · obtain ⟨_, _, _, rfl, _⟩ := h
    rfl
  · obtain ⟨m, l, n, rfl, hb, hl, k⟩ := h
    refine ⟨_, (pss_one (ps_ret (pe_cmpR op_eq (pe_ix ix_tup (pv 0) (pe_op op_mod (pv 1) (pe_gv T.g_MARKS_OF_A_WORD rfl)) (fun _ _ => rfl)) pe_int (nomark _)))), ?_⟩
    refine ⟨_, rfl, _, rfl, _, _, rfl, rfl, (by show (0 : Int) < 8; decide), m, _, _, _, rfl, rfl, hb, at_of (j := n % 8) (by omega) (bt_at (by rw [hl]; exact Nat.mod_lt _ (by decide))), rfl, ?_⟩
    have e : decide (V.int ((PoolCalls.bit (l.getD (n % 8) false) : Nat) : Int) = V.int 1) = l.getD (n % 8) false := by
      cases q : l.getD (n % 8) false with
      | true => exact decide_eq_true (bit1.mpr rfl)
      | false => exact decide_eq_false fun z => nomatch bit1.mp z
    show Q (V.bl (decide (V.int ((PoolCalls.bit (l.getD (n % 8) false) : Nat) : Int) = V.int 1))) H
    rw [e]
    exact k
def spWith (K : PySem.W.Frag) : Sp := fun vs H Q _ => ∃ (m : Addr) (l : List Bool) (k : Nat), vs = [.ref m, vi k] ∧ BtT K H m l ∧ l.length = 8 ∧ ∀ p H', Same H H' → BtT K H' p (l.set (k % 8) true) → Q (.ref p) H'
theorem cut_to (xs : List V) (n : Nat) (h : n ≤ xs.length) : cutV xs none (some (n : Int)) = xs.take n := by
  unfold cutV
  rw [HT.sIx_none, HT.sIx_nat, List.drop_zero, Nat.sub_zero, Nat.min_eq_left h]
theorem cut_from (xs : List V) (n : Nat) (h : n ≤ xs.length) : cutV xs (some (n : Int)) none = xs.drop n := by
  unfold cutV
  rw [HT.sIx_none, HT.sIx_nat, Nat.min_eq_left h]
  exact List.take_of_length_le (by rw [List.length_drop]; exact Nat.le_refl _)
theorem cut_mid (xs : List V) (m n : Nat) (h : m ≤ xs.length) (h2 : n ≤ xs.length) : cutV xs (some (m : Int)) (some (n : Int)) = (xs.drop m).take (n - m) := by
  unfold cutV
  rw [HT.sIx_nat, HT.sIx_nat, Nat.min_eq_left h, Nat.min_eq_left h2]
abbrev s_with_mark : Stmt := top 33
theorem sc_with_mark : FnScope ["marks", "k", "at"] ["marks", "k"] (defScope s_with_mark) := ⟨rfl, rfl, rfl, by decide +kernel, rfl, by decide +kernel, by decide +kernel⟩
theorem ok_with_mark {f : Addr} {fd : FuncData} (F : Fun K "with_mark" "with_mark" s_with_mark f fd) (T : Tx K mg Γ) : FnOk P w K mg base CX0 1 f fd ["marks", "k"] (spWith K) := by
  have sc := sc_with_mark
  refine F.ok sc (fun vs H Q E h => ?_) (fun cdv A outer s H vs Q E hr h => ?_)
  · obtain ⟨_, _, _, rfl, _⟩ := h
    rfl
  · obtain ⟨m, l, n, rfl, hb, hl, k⟩ := h
    refine ⟨_, pss_cons (ps_set (i := 2) sc.nd rfl (Or.inl rfl) (pe_op op_mod (pv 1) (pe_gv T.g_MARKS_OF_A_WORD rfl)))
      (pss_one (ps_ret (pe_op op_catT (pe_alt (pe_op op_catE (pe_slice sl_tup (pv 0) po_none (po_some (pv 2))) (pe_tup (pa_cons pe_int pa_nil))) (pe_op op_catT (pe_slice sl_tup (pv 0) po_none (po_some (pv 2))) (pe_tup (pa_cons pe_int pa_nil)))) (pe_slice sl_tup (pv 0) (po_some (pe_op op_add (pv 2) pe_int)) po_none)))), ?_⟩
    obtain ⟨c, hc⟩ : ∃ c, n % 8 = c := ⟨_, rfl⟩
    have hc8 : c < 8 := by rw [← hc]; exact Nat.mod_lt _ (by decide)
    have e8 : (n : Int) % 8 = (c : Int) := by omega
    refine ⟨_, rfl, _, _, rfl, rfl, (by show (0 : Int) < 8; decide), ?_⟩
    dsimp only
    rw [e8]
    have hxl : (l.map fun b => vi (PoolCalls.bit b)).length = 8 := by rw [List.length_map, hl]
    -- what is glued is the list with its mark
    have fin : (l.map fun b => vi (PoolCalls.bit b)).take c ++ [V.int 1] ++ (l.map fun b => vi (PoolCalls.bit b)).drop (c + 1) = (l.set c true).map fun b => vi (PoolCalls.bit b) := by
      rw [List.map_set, List.set_eq_take_append_cons_drop, if_pos (by rw [hxl]; exact hc8), List.append_assoc]
      rfl
    have nw1 : ¬ (HT.sIx (l.map fun b => vi (PoolCalls.bit b)).length 0 none = 0 ∧ HT.sIx (l.map fun b => vi (PoolCalls.bit b)).length (l.map fun b => vi (PoolCalls.bit b)).length (some (c : Int)) = (l.map fun b => vi (PoolCalls.bit b)).length) := by
      rw [HT.sIx_nat, hxl]
      omega
    have nw2 : ¬ (HT.sIx (l.map fun b => vi (PoolCalls.bit b)).length 0 (some ((c + 1 : Nat) : Int)) = 0 ∧ HT.sIx (l.map fun b => vi (PoolCalls.bit b)).length (l.map fun b => vi (PoolCalls.bit b)).length none = (l.map fun b => vi (PoolCalls.bit b)).length) := by
      rw [HT.sIx_nat, hxl]
      omega
    -- the second slice and the last +
    have tail : ∀ (a : Addr) (H1 : Hp), Same H H1 → SqT K H1 a ((l.map fun b => vi (PoolCalls.bit b)).take c ++ [V.int 1]) →
        tSl (rSlT K) (tVar 0) (tPart (tOp (rI0 fun i j => V.int (i + j)) (tVar 2) (tC (V.int 1)))) tNoPart [some (.ref m), some (.int (n : Int)), some (.int (c : Int))] H1 fun y H2 => rCatT K (.ref a) y H2 Q := by
      intro a H1 s1 ha
      refine ⟨_, rfl, _, rfl, _, _, rfl, rfl, _, rfl, m, _, rfl, tup_same s1 hb, ?_, fun q hq => ?_⟩
      · have := nw2; push_cast at this; exact this
      have ec : cutV (l.map fun b => vi (PoolCalls.bit b)) (some ((c : Int) + 1)) none = (l.map fun b => vi (PoolCalls.bit b)).drop (c + 1) := by
        have := cut_from (l.map fun b => vi (PoolCalls.bit b)) (c + 1) (by rw [hxl]; omega)
        push_cast at this
        exact this
      rw [ec]
      have s2 : Same H1 (upd H1 q (.tup ((l.map fun b => vi (PoolCalls.bit b)).drop (c + 1)))) := Same.new hq
      refine ⟨a, q, _, _, rfl, rfl, tup_same s2 ha, SqT.of upd_same, by simp, ?_, fun z => ?_, fun z p hp => ?_⟩
      · simp [hl]
        have : 16 ≤ sizeLine := by decide
        omega
      · refine k a _ (s1.trans s2) ?_
        rw [hc]
        show SqT K _ a _
        have ef := fin
        rw [z, List.append_nil] at ef
        rw [← ef]
        exact tup_same s2 ha
      · refine k p _ ((s1.trans s2).trans (Same.new hp)) ?_
        rw [hc]
        show SqT K _ p _
        rw [← fin]
        exact SqT.of upd_same
    by_cases h0 : c = 0
    · -- the first slice is empty
      refine Or.inl ?_
      refine ⟨_, rfl, _, rfl, _, rfl, m, _, rfl, hb, nw1, fun p hp => ?_⟩
      rw [cut_to _ c (by rw [hxl]; omega)]
      refine ⟨(by show 1 ≤ sizeLine; decide), fun q hq => ?_⟩
      have s1 : Same H (upd H p (.tup ((l.map fun b => vi (PoolCalls.bit b)).take c))) := Same.new hp
      have s2 : Same (upd H p (.tup ((l.map fun b => vi (PoolCalls.bit b)).take c))) (upd (upd H p (.tup ((l.map fun b => vi (PoolCalls.bit b)).take c))) q (.tup [V.int 1])) := Same.new hq
      refine ⟨p, q, _, rfl, rfl, ?_, SqT.of upd_same, ?_⟩
      · refine tup_same s2 (SqT.of ?_)
        rw [upd_same, h0]
        rfl
      · refine tail q _ (s1.trans s2) ?_
        rw [h0]
        exact SqT.of upd_same
    · refine Or.inr ?_
      refine ⟨_, rfl, _, rfl, _, rfl, m, _, rfl, hb, nw1, fun p hp => ?_⟩
      rw [cut_to _ c (by rw [hxl]; omega)]
      refine ⟨(by show 1 ≤ sizeLine; decide), fun q hq => ?_⟩
      have s1 : Same H (upd H p (.tup ((l.map fun b => vi (PoolCalls.bit b)).take c))) := Same.new hp
      have s2 : Same (upd H p (.tup ((l.map fun b => vi (PoolCalls.bit b)).take c))) (upd (upd H p (.tup ((l.map fun b => vi (PoolCalls.bit b)).take c))) q (.tup [V.int 1])) := Same.new hq
      refine ⟨p, q, _, _, rfl, rfl, tup_same s2 (SqT.of upd_same), SqT.of upd_same, ?_, ?_, fun z => absurd z (by simp), fun _ r hr' => ?_⟩
      · intro z
        have := congrArg List.length z
        simp [hl] at this
        omega
      · simp [hl]
        have : 16 ≤ sizeLine := by decide
        omega
      · exact tail r _ ((s1.trans s2).trans (Same.new hr')) (SqT.of upd_same)
end
end Po

namespace Po
open PySem PySem.Spec PyProof.Rows L2
local macro_rules | `(tactic| walk_at "lk") => `(tactic| repeat (first | exact lk_hit | exact lk_nil | refine (lk_miss (by decide +kernel)).trans ?_))
local macro_rules | `(tactic| walk_at "put") => `(tactic| repeat (first | exact put_hit | exact put_nil | (apply put_miss; · decide +kernel)))
theorem paired_at {α β : Type} {R : α → β → Prop} : ∀ {xs : List α} {ys : List β} {j : Nat} {y : β}, Paired R xs ys → ys[j]? = some y → ∃ x, xs[j]? = some x ∧ R x y
  | _, _, _, _, .nil, e => by simp at e
  | _, _, 0, _, .cons r _, e => by simp at e; subst e; exact ⟨_, rfl, r⟩
  | _, _, j + 1, y, .cons _ t, e => by
    obtain ⟨x, h1, h2⟩ := paired_at (j := j) (y := y) t (by simpa using e)
    exact ⟨x, by simpa using h1, h2⟩
theorem paired_len {α β : Type} {R : α → β → Prop} : ∀ {xs : List α} {ys : List β}, Paired R xs ys → xs.length = ys.length
  | _, _, .nil => rfl
  | _, _, .cons _ t => by rw [List.length_cons, List.length_cons, paired_len t]
theorem paired_snoc {α β : Type} {R : α → β → Prop} {x : α} {y : β} (h : R x y) : ∀ {xs : List α} {ys : List β}, Paired R xs ys → Paired R (xs ++ [x]) (ys ++ [y])
  | _, _, .nil => .cons h .nil
  | _, _, .cons r t => .cons r (paired_snoc h t)
theorem paired_set {α β : Type} {R : α → β → Prop} {x : α} {y : β} (h : R x y) : ∀ {xs : List α} {ys : List β} (j : Nat), Paired R xs ys → Paired R (xs.set j x) (ys.set j y)
  | _, _, _, .nil => .nil
  | _, _, 0, .cons _ t => .cons h t
  | _, _, j + 1, .cons r t => .cons r (paired_set h j t)
/-- the word that has a slice -/
theorem word_at {K : PySem.W.Frag} {H : Hp} {s : LwPool.Slot} {was : List Addr} (hS : SlotOk s) (hp : Paired (WdT K H) was s.words) {n : Nat} (hn : n < 32) :
    ∃ a, was[n / 8]? = some a ∧ WdT K H a (s.word (n / 8)) ∧ s.words[n / 8]? = some (s.word (n / 8)) := by
  have hl : n / 8 < s.words.length := by rw [hS.wds]; omega
  have e : s.words[n / 8]? = some (s.word (n / 8)) := by
    unfold LwPool.Slot.word
    rw [List.getD_eq_getElem?_getD, List.getElem?_eq_getElem hl]
    rfl
  obtain ⟨a, h1, h2⟩ := paired_at hp e
  exact ⟨a, h1, h2, e⟩
theorem ref_at {was : List Addr} {j : Nat} {a : Addr} (h : was[j]? = some a) : (was.map V.ref)[j]? = some (.ref a) := by
  rw [List.getElem?_map, h]
  rfl
section
variable {P : Program} {w : World} {K : PySem.W.Frag} {mg : Str → Option Value} {base : Heap} {Γ : Cs}
def spDone (K : PySem.W.Frag) (Γ : Cs) : Sp := fun vs H Q _ => ∃ (a ws : Addr) (s : LwPool.Slot) (n : Nat), vs = [.ref a, vi n] ∧ SlotAt K Γ H a ws s ∧ SlotOk s ∧ n < 32 ∧ Q (.bl (s.isDone n)) H
abbrev s_is_done : Stmt := top 34
theorem sc_is_done : FnScope ["slot", "k"] ["slot", "k"] (defScope s_is_done) := ⟨rfl, rfl, rfl, by decide +kernel, rfl, by decide +kernel, by decide +kernel⟩
theorem ok_is_done {f : Addr} {fd : FuncData} (F : Fun K "is_done" "is_done" s_is_done f fd) (T : Tx K mg Γ) (g_is_marked : GF P w K mg base "is_marked" 1 ["marks", "k"] (spMarked K)) : FnOk P w K mg base CX0 2 f fd ["slot", "k"] (spDone K Γ) := by
  have sc := sc_is_done
  refine F.ok sc (fun vs H Q E h => ?_) (fun cdv A outer s H vs Q E hr h => ?_)
  · obtain ⟨_, _, _, _, rfl, _⟩ := h
    rfl
  · obtain ⟨a, ws, s, n, rfl, hS, ho, hn, k⟩ := h
    refine ⟨_, (pss_one (ps_ret (pe_gf g_is_marked (hr.mono (by decide)) rfl (pa_cons (pe_ix ix_tup (pe_ix ix_list (pe_fld (pv 0) rfl) (pe_op op_fdiv (pv 1) (pe_gv T.g_MARKS_OF_A_WORD rfl)) (fun _ _ => rfl)) (pe_gv T.g_MARKS rfl) (fun _ _ => rfl)) (pa_cons (pv 1) pa_nil))))), ?_⟩
    obtain ⟨dx, t, g, j, hs, hp, hnx, hj⟩ := hS.ob
    obtain ⟨was, hw, hpr⟩ := hS.wl
    obtain ⟨b, h1, ⟨m, h2, h3⟩, h4⟩ := word_at ho hpr hn
    refine ⟨_, rfl, a, Γ.slot, dx, _, _, rfl, hs, T.cl_slot, T.n_slot_words, (by walk_at "lk"), _, rfl, _, _, rfl, rfl, ⟨by decide, by decide⟩, ws, _, _, _, rfl, rfl, SqL.of hw, at_of (j := n / 8) (by omega) (ref_at h1),
      b, _, _, _, rfl, rfl, h2, at_of (j := 1) rfl rfl, _, rfl, m, _, n, rfl, h3, word_ok ho _, k⟩
def spCount (K : PySem.W.Frag) (Γ : Cs) : Sp := fun vs H Q _ => ∃ (a ws : Addr) (s : LwPool.Slot), vs = [.ref a] ∧ SlotAt K Γ H a ws s ∧ SlotOk s ∧ ∀ H', Same H H' → Q (vi s.doneCount) H'
abbrev s_count_done : Stmt := top 35
theorem sc_count_done : FnScope ["slot", "k"] ["slot"] (defScope s_count_done) := ⟨rfl, rfl, rfl, by decide +kernel, rfl, by decide +kernel, by decide +kernel⟩
theorem ok_count_done {f : Addr} {fd : FuncData} (F : Fun K "count_done" "count_done" s_count_done f fd) (T : Tx K mg Γ) (g_limit_of : GF P w K mg base "limit_of" 1 ["slot"] (spLimit K Γ)) (g_is_done : GF P w K mg base "is_done" 2 ["slot", "k"] (spDone K Γ)) :
    FnOk P w K mg base CX0 3 f fd ["slot"] (spCount K Γ) := by
  have sc := sc_count_done
  refine F.ok sc (fun vs H Q E h => ?_) (fun cdv A outer s H vs Q E hr h => ?_)
  · obtain ⟨_, _, _, rfl, _⟩ := h
    rfl
  · obtain ⟨a, ws, s, rfl, hS, ho, k⟩ := h
    refine ⟨_, (pss_one (ps_ret (pe_callB call_len_seq (by rfl) T.b_len bo_len (pa_cons (pe_lc rfl sc.nd (pi_range1 rfl T.b_range (pa_cons (pe_gf g_limit_of (hr.mono (by decide)) rfl (pa_cons (pv 0) pa_nil)) pa_nil)) (blkOk_by (show blkC ["slot", "k"] (defScope s_count_done) _ [("k", 1)] = true by decide +kernel)) (fun _ _ _ _ _ => pg_name (i := 1) sc.nd rfl (Or.inl rfl)) (fun _ _ _ _ _ => (pts_one (pt_val (pe_gf g_is_done (hr.mono (by decide)) rfl (pa_cons (pv 0) (pa_cons (pv 1) pa_nil)))))) (fun _ _ _ _ _ => (pv 1))) pa_nil)))), ?_⟩
    have hlim := limit_le ho
    refine ⟨_, rfl, a, ws, s, rfl, hS, _, rfl, (by omega), (by omega), fun D hD => lc_range (fun i H' => Same H H' ∧ H' D = some (.lst (((List.range i).filter s.isDone).map vi))) ⟨Same.new hD, upd_same⟩ (fun i H' hi ⟨s1, hD'⟩ => ?_) (fun H' ⟨s1, hD'⟩ => ?_)⟩
    · have hi : i < s.limit := by rw [Int.toNat_natCast] at hi; exact hi
      refine ⟨rfl, _, rfl, _, rfl, a, ws, s, i, ?_, hS.chg (X := fun _ => False) s1.chg (fun z => z) (fun z => z), ho, (by omega), _, rfl, ?_⟩
      · show ([V.ref a, V.int (0 + (i : Int))] : List V) = [V.ref a, vi i]
        rw [Int.zero_add]
      · refine ifB (fun q => ?_) (fun q => ?_)
        · refine ⟨_, rfl, _, hD', ?_, fun b o e => ?_, ?_⟩
          · rw [List.length_map]
            have := List.length_filter_le s.isDone (List.range i)
            rw [List.length_range] at this
            have : 32 < sizeLine := by decide
            omega
          · have nb : b ≠ D := ne_of_none e hD
            rw [upd_ne nb]
            exact s1 b o e
          · rw [upd_same, List.range_succ, List.filter_append, List.filter_cons, if_pos q, List.filter_nil, List.map_append, Int.zero_add]
            rfl
        · refine ⟨s1, ?_⟩
          rw [hD', List.range_succ, List.filter_append, List.filter_cons, if_neg (by rw [q]; exact Bool.false_ne_true), List.filter_nil, List.append_nil]
    · refine ⟨D, _, rfl, .inl (SqL.of hD'), ?_⟩
      rw [Int.toNat_natCast, List.length_map]
      have e := doneCount_eq ho
      rw [← e]
      exact k H' s1
def spComplete (K : PySem.W.Frag) (Γ : Cs) : Sp := fun vs H Q _ => ∃ (a ws : Addr) (s : LwPool.Slot), vs = [.ref a] ∧ SlotAt K Γ H a ws s ∧ SlotOk s ∧ ∀ H', Same H H' → Q (.bl s.complete) H'
abbrev s_is_complete : Stmt := top 36
theorem sc_is_complete : FnScope ["slot"] ["slot"] (defScope s_is_complete) := ⟨rfl, rfl, rfl, by decide +kernel, rfl, by decide +kernel, by decide +kernel⟩
theorem ok_is_complete {f : Addr} {fd : FuncData} (F : Fun K "is_complete" "is_complete" s_is_complete f fd) (T : Tx K mg Γ) (g_limit_of : GF P w K mg base "limit_of" 1 ["slot"] (spLimit K Γ)) (g_count_done : GF P w K mg base "count_done" 3 ["slot"] (spCount K Γ)) :
    FnOk P w K mg base CX0 4 f fd ["slot"] (spComplete K Γ) := by
  have sc := sc_is_complete
  refine F.ok sc (fun vs H Q E h => ?_) (fun cdv A outer s H vs Q E hr h => ?_)
  · obtain ⟨_, _, _, rfl, _⟩ := h
    rfl
  · obtain ⟨a, ws, s, rfl, hS, ho, k⟩ := h
    refine ⟨_, (pss_one (ps_ret (pe_cmpR op_eq (pe_gf g_count_done (hr.mono (by decide)) rfl (pa_cons (pv 0) pa_nil)) (pe_gf g_limit_of (hr.mono (by decide)) rfl (pa_cons (pv 0) pa_nil)) (nomark _)))), ?_⟩
    refine ⟨_, rfl, a, ws, s, rfl, hS, ho, fun H' s1 => ⟨_, rfl, a, ws, s, rfl, hS.chg (X := fun _ => False) s1.chg (fun z => z) (fun z => z), rfl, ?_⟩⟩
    have e : decide (V.int (s.doneCount : Int) = V.int (s.limit : Int)) = s.complete := by
      rw [complete_iff ho]
      apply decide_eq_decide.mpr
      exact ⟨fun q => by injection q, fun q => by rw [q]⟩
    show Q (V.bl (decide (V.int (s.doneCount : Int) = V.int (s.limit : Int)))) H'
    rw [e]
    exact k H' s1
def spUnm (K : PySem.W.Frag) : Sp := fun vs H Q _ => ∃ st : Nat, vs = [vi st] ∧ ∀ (l : Addr) (was : List Addr) (H' : Hp), Same H H' → H l = none → H' l = some (.lst (was.map V.ref)) → Paired (WdT K H') was (List.replicate 4 ⟨st, List.replicate 8 false⟩) → Q (.ref l) H'
abbrev s_unmarked_words : Stmt := top 25
theorem sc_unmarked_words : FnScope ["stamp", "number"] ["stamp"] (defScope s_unmarked_words) := ⟨rfl, rfl, rfl, by decide +kernel, rfl, by decide +kernel, by decide +kernel⟩
theorem ok_unmarked_words {f : Addr} {fd : FuncData} (F : Fun K "unmarked_words" "unmarked_words" s_unmarked_words f fd) (T : Tx K mg Γ) : FnOk P w K mg base CX0 1 f fd ["stamp"] (spUnm K) := by
  have sc := sc_unmarked_words
  refine F.ok sc (fun vs H Q E h => ?_) (fun cdv A outer s H vs Q E hr h => ?_)
  · obtain ⟨_, rfl, _⟩ := h
    rfl
  · obtain ⟨st, rfl, k⟩ := h
    refine ⟨_, (pss_one (ps_ret (pe_lc rfl sc.nd (pi_range1 rfl T.b_range (pa_cons (pe_gv T.g_WORDS rfl) pa_nil)) (blkOk_by (show blkC ["stamp", "number"] (defScope s_unmarked_words) _ [("number", 1)] = true by decide +kernel)) (fun _ _ _ _ _ => pg_name (i := 1) sc.nd rfl (Or.inl rfl)) (fun _ _ _ _ _ => pts_nil) (fun _ _ _ _ _ => (pe_tup (pa_cons (pv 0) (pa_cons (pe_gv T.g_NO_MARKS rfl) pa_nil))))))), ?_⟩
    refine ⟨4, rfl, by decide, by decide, fun D hD => lc_range (n := 4) (fun i H' => Same H H' ∧ ∃ was : List Addr, H' D = some (.lst (was.map V.ref)) ∧ Paired (WdT K H') was (List.replicate i ⟨st, List.replicate 8 false⟩)) ⟨Same.new hD, [], upd_same, .nil⟩ (fun i H' hi ⟨s1, was, hD', hp⟩ => ?_) (fun H' ⟨s1, was, hD', hp⟩ => ?_)⟩
    · refine ⟨rfl, _, rfl, (by show 2 ≤ sizeLine; decide), fun q hq => ?_⟩
      have nD : D ≠ q := ne_of_none hD' hq
      have c1 : Chg K (fun a => a = D) H' (upd H' q (.tup [vi st, .ref Γ.nm])) := chg_new hq
      have hDq : (upd H' q (.tup [vi st, .ref Γ.nm])) D = some (.lst (was.map V.ref)) := by rw [upd_ne nD]; exact hD'
      have hlen := paired_len hp
      rw [List.length_replicate] at hlen
      refine ⟨_, hDq, ?_, fun b o e => ?_, was ++ [q], ?_, ?_⟩
      · rw [List.length_map]
        have : 4 < sizeLine := by decide
        omega
      · have nb : b ≠ D := ne_of_none e hD
        rw [upd_ne nb, upd_ne (ne_of_none (s1 b o e) hq)]
        exact s1 b o e
      · rw [upd_same, List.map_append]
        rfl
      · have c2 : Chg K (fun a => a = D) (upd H' q (.tup [vi st, .ref Γ.nm])) (upd (upd H' q (.tup [vi st, .ref Γ.nm])) D (.lst (was.map V.ref ++ [.ref q]))) := chg_lst hDq rfl
        rw [List.replicate_succ']
        refine paired_snoc ⟨Γ.nm, ?_, T.s_nm _⟩ (paired_imp (fun _ _ q => q.chg (c1.trans c2)) hp)
        exact SqT.of (by rw [upd_ne nD.symm, upd_same])
    · exact k D was H' s1 hD hD' hp
def spLeft (K : PySem.W.Frag) (Γ : Cs) : Sp := fun vs H Q _ => ∃ (a ws : Addr) (s : LwPool.Slot), vs = [.ref a] ∧ SlotAt K Γ H a ws s ∧ Q (.bl (LwPool.mayGive s)) H
abbrev s_has_slice_left : Stmt := top 46
theorem sc_has_slice_left : FnScope ["slot"] ["slot"] (defScope s_has_slice_left) := ⟨rfl, rfl, rfl, by decide +kernel, rfl, by decide +kernel, by decide +kernel⟩
theorem vint_inj {a b : Nat} : V.int (a : Int) = V.int (b : Int) ↔ a = b := ⟨fun q => by injection q with q; omega, fun q => by rw [q]⟩
theorem ok_has_slice_left {f : Addr} {fd : FuncData} (F : Fun K "has_slice_left" "has_slice_left" s_has_slice_left f fd) (T : Tx K mg Γ) : FnOk P w K mg base CX0 1 f fd ["slot"] (spLeft K Γ) := by
  have sc := sc_has_slice_left
  refine F.ok sc (fun vs H Q E h => ?_) (fun cdv A outer s H vs Q E hr h => ?_)
  · obtain ⟨_, _, _, rfl, _⟩ := h
    rfl
  · obtain ⟨a, ws, s, rfl, hS, k⟩ := h
    refine ⟨_, (pss_cons (ps_if (PW.pt (pw_or (pt_cmpR op_ne (pe_ix ix_tup (pe_fld (pv 0) rfl) (pe_gv T.g_PHASE rfl) (fun _ _ => rfl)) (pe_gv T.g_PHASE_OPEN rfl) (nomark _)) (pw_or1 (pt_cmpR op_ne (pe_ix ix_tup (pe_fld (pv 0) rfl) (pe_gv T.g_STAMP rfl) (fun _ _ => rfl)) (pe_ix ix_tup (pe_fld (pv 0) rfl) (pe_gv T.g_STAMP rfl) (fun _ _ => rfl)) (nomark _)))))
        (pss_one (ps_ret pe_bl))
        pss_nil)
      (pss_one (ps_ret (pe_and (pe_cmpR op_eq (pe_ix ix_tup (pe_fld (pv 0) rfl) (pe_gv T.g_STOPPED rfl) (fun _ _ => rfl)) pe_int (nomark _)) (pe_one (pe_cmpR op_lt (pe_ix ix_tup (pe_fld (pv 0) rfl) (pe_gv T.g_GIVEN rfl) (fun _ _ => rfl)) (pe_fld (pv 0) rfl) (nomark _))))))), ?_⟩
    obtain ⟨dx, t, g, j, hs, hp, hn, hj⟩ := hS.ob
    have nope : ¬ (s.state.phase = 2 ∧ s.next.stamp = s.state.stamp ∧ s.next.stopped = false ∧ s.next.given < s.count) → LwPool.mayGive s = false := fun z => by
      cases q : LwPool.mayGive s with
      | false => rfl
      | true => exact absurd (mayGive_iff.mp q) z
    refine ⟨_, rfl, a, Γ.slot, dx, _, _, rfl, hs, T.cl_slot, T.n_slot_state, (by walk_at "lk"), t, _, _, _, rfl, rfl, hp, at_of (j := 1) rfl rfl, rfl, _, rfl, ?_⟩
    refine ifN (fun q => ?_) (fun q => ?_)
    · refine iteT ?_
      have hne : ¬ s.state.phase = 2 := fun z => by
        rw [z] at q
        exact absurd q (by decide)
      rw [nope fun z => hne z.1] at k
      exact k
    · have hph : s.state.phase = 2 := vint_inj.mp (of_decide_eq_true q)
      refine ⟨_, rfl, a, Γ.slot, dx, _, _, rfl, hs, T.cl_slot, T.n_slot_giving, (by walk_at "lk"), g, _, _, _, rfl, rfl, hn, at_of (j := 0) rfl rfl,
        _, rfl, a, Γ.slot, dx, _, _, rfl, hs, T.cl_slot, T.n_slot_state, (by walk_at "lk"), t, _, _, _, rfl, rfl, hp, at_of (j := 0) rfl rfl, rfl, _, rfl, ?_⟩
      refine ifN (fun q2 => ?_) (fun q2 => ?_)
      · have hne : ¬ s.next.stamp = s.state.stamp := fun z => by
          rw [decide_eq_true (vint_inj.mpr z)] at q2
          cases q2
        rw [nope fun z => hne z.2.1] at k
        exact k
      · have hst : s.next.stamp = s.state.stamp := vint_inj.mp (of_decide_eq_true q2)
        refine ⟨_, rfl, a, Γ.slot, dx, _, _, rfl, hs, T.cl_slot, T.n_slot_giving, (by walk_at "lk"), g, _, _, _, rfl, rfl, hn, at_of (j := 2) rfl rfl, rfl, _, rfl, ?_⟩
        refine ifD (fun q3 => ?_) (fun q3 => ?_)
        · have h3 : s.next.stopped = false := bit0.mp q3
          refine ⟨_, rfl, a, Γ.slot, dx, _, _, rfl, hs, T.cl_slot, T.n_slot_giving, (by walk_at "lk"), g, _, _, _, rfl, rfl, hn, at_of (j := 1) rfl rfl,
            _, rfl, a, Γ.slot, dx, _, _, rfl, hs, T.cl_slot, T.n_slot_slices, (by walk_at "lk"), _, _, rfl, rfl, ?_⟩
          have e : decide ((s.next.given : Int) < (s.count : Int)) = LwPool.mayGive s := by
            unfold LwPool.mayGive
            rw [hph, hst, h3]
            simp
          show Q (V.bl (decide ((s.next.given : Int) < (s.count : Int)))) H
          rw [e]
          exact k
        · have h3 : ¬ s.next.stopped = false := fun z => q3 (bit0.mpr z)
          rw [nope fun z => h3 z.2.2.1] at k
          exact k
/-! ### what all calls have -/
def spRunInit (K : PySem.W.Frag) : Sp := fun vs H Q _ => ∃ (p C dx : Addr) (v : V), vs = [.ref p, v] ∧ H p = some (.ins C dx []) ∧ Cls K C ∧ NoAttr K C "place" ∧ NoAttr K C "fails" ∧ Q .non (upd H p (.ins C dx [("place", v), ("fails", .int 0)]))
abbrev s_Running_init : Stmt := inClass (top 7) 0
theorem sc_Running_init : FnScope ["self", "place"] ["self", "place"] (defScope s_Running_init) := ⟨rfl, rfl, rfl, by decide +kernel, rfl, by decide +kernel, by decide +kernel⟩
theorem ok_Running_init {f : Addr} {fd : FuncData} (F : Fun K "__init__" "Running.__init__" s_Running_init f fd) : FnOk P w K mg base CX0 1 f fd ["self", "place"] (spRunInit K) := by
  have sc := sc_Running_init
  refine F.ok sc (fun vs H Q E h => ?_) (fun cdv A outer s H vs Q E hr h => ?_)
  · obtain ⟨_, _, _, _, rfl, _⟩ := h
    rfl
  · obtain ⟨p, C, dx, v, rfl, hp, c, n1, n2, k⟩ := h
    refine ⟨_, (pss_cons (ps_fldP (pv 0) (pv 1) rfl)
      (pss_one (ps_fldP (pv 0) pe_int rfl))), ?_⟩
    refine ⟨_, rfl, _, rfl, p, C, dx, _, rfl, hp, c, n1, (by show 0 < 1000; decide), _, (by walk_at "put"), _, rfl, p, C, dx, _, rfl, upd_same, c, n2, (by show 1 < 1000; decide), _, (by walk_at "put"), ?_⟩
    rw [upd_upd]
    exact k
def spLast (K : PySem.W.Frag) : Sp := fun vs H Q _ => ∃ (p C dx : Addr) (pl : V) (n : Nat) (r : List (Str × V)), vs = [.ref p] ∧ H p = some (.ins C dx (("place", pl) :: ("fails", vi n) :: r)) ∧ r.length < 900 ∧ Cls K C ∧ NoAttr K C "fails" ∧
  Q (.bl (decide (n + 1 = 3))) (upd H p (.ins C dx (("place", pl) :: ("fails", vi (n + 1)) :: r)))
abbrev s_Running_is_last_fail : Stmt := inClass (top 7) 1
theorem sc_Running_is_last_fail : FnScope ["self"] ["self"] (defScope s_Running_is_last_fail) := ⟨rfl, rfl, rfl, by decide +kernel, rfl, by decide +kernel, by decide +kernel⟩
theorem ok_is_last_fail {f : Addr} {fd : FuncData} (F : Fun K "is_last_fail" "Running.is_last_fail" s_Running_is_last_fail f fd) (T : Tx K mg Γ) : FnOk P w K mg base CX0 1 f fd ["self"] (spLast K) := by
  have sc := sc_Running_is_last_fail
  refine F.ok sc (fun vs H Q E h => ?_) (fun cdv A outer s H vs Q E hr h => ?_)
  · obtain ⟨_, _, _, _, _, _, rfl, _⟩ := h
    rfl
  · obtain ⟨p, C, dx, pl, n, r, rfl, hp, hl, c, n1, k⟩ := h
    refine ⟨_, (pss_cons (ps_augP (pv 0) pe_int in_add)
      (pss_one (ps_ret (pe_cmpR op_eq (pe_fld (pv 0) rfl) (pe_gv T.g_TRIES rfl) (nomark _))))), ?_⟩
    have hl2 : (("place", pl) :: ("fails", vi n) :: r : List (Str × V)).length < 1000 := by
      rw [List.length_cons, List.length_cons]; omega
    refine ⟨_, rfl, p, C, dx, _, _, rfl, hp, c, n1, (by walk_at "lk"), _, _, rfl, rfl, dx, _, hp, hl2, _, (by walk_at "put"), _, rfl, p, C, dx, _, _, rfl, upd_same, c, n1, (by walk_at "lk"), rfl, ?_⟩
    have e : decide (V.int ((n : Int) + 1) = V.int 3) = decide (n + 1 = 3) := by
      apply decide_eq_decide.mpr
      exact ⟨fun q => by injection q with q; omega, fun q => by congr 1; omega⟩
    show Q (V.bl (decide (V.int ((n : Int) + 1) = V.int 3))) _
    rw [e]
    exact k
end
end Po

namespace Po
open PySem PySem.Spec PyProof.Rows L2
local macro_rules | `(tactic| walk_at "lk") => `(tactic| repeat (first | exact lk_hit | exact lk_nil | refine (lk_miss (by decide +kernel)).trans ?_))
local macro_rules | `(tactic| walk_at "put") => `(tactic| repeat (first | exact put_hit | exact put_nil | (apply put_miss; · decide +kernel)))
theorem keep_new {H : Hp} {p t : Addr} {o u : HO} (h : H p = some o) (ht : H t = none) : (upd H t u) p = some o := by rw [upd_ne (ne_of_none h ht)]; exact h
/-! ### the calls' attributes -/
def offerF (fl n kd : Nat) (j : Addr) (at_ : Nat) (seen : V) (st : Nat) : List (Str × V) := [("place", .int 0), ("fails", vi fl), ("slices", vi n), ("kind", vi kd), ("job", .ref j), ("at", vi at_), ("seen", seen), ("stage", vi st)]
def takeF (fl at_ : Nat) (seen told : V) : List (Str × V) := [("place", .int 1), ("fails", vi fl), ("at", vi at_), ("seen", seen), ("told", told)]
def tickF (pl : Int) (t : Nat) : List (Str × V) := [("place", .int pl), ("fails", .int 0), ("ticket", vi t)]
def doneF (fl : Nat) (seen : V) (t : Nat) (wr : Bool) (n : Nat) : List (Str × V) := [("place", .int 3), ("fails", vi fl), ("seen", seen), ("ticket", vi t), ("stamp", vi (LwPool.stampOf t)), ("written", .bl wr), ("k", vi n)]
def stopF (fl : Nat) (seen : V) (t : Nat) (wr : Bool) : List (Str × V) := [("place", .int 4), ("fails", vi fl), ("seen", seen), ("ticket", vi t), ("stamp", vi (LwPool.stampOf t)), ("written", .bl wr)]
def clearF (fl : Nat) (seen : V) (t : Nat) : List (Str × V) := [("place", .int 6), ("fails", vi fl), ("seen", seen), ("ticket", vi t), ("stamp", vi (LwPool.stampOf t))]
def keyF : List (Str × V) := [("place", .int 7), ("fails", .int 0)]
def sleepF (x : Nat) : List (Str × V) := [("place", .int 8), ("fails", .int 0), ("number", vi x)]
def wakeF (fl : Nat) (seen : V) : List (Str × V) := [("place", .int 9), ("fails", vi fl), ("seen", seen)]
/-- a call that is new -/
def InitAt (K : PySem.W.Frag) (Γ : Cs) (H : Hp) (p : Addr) : LwPool.Op → Prop
  | .offer n kind job => ∃ dx j, H p = some (.ins Γ.offer dx (offerF 0 n kind j 0 .non 0)) ∧ JbT K H j job
  | .take => ∃ dx, H p = some (.ins Γ.take dx (takeF 0 0 .non .non))
  | .again t => ∃ dx, H p = some (.ins Γ.again dx (tickF 2 t))
  | .done t n => ∃ dx, H p = some (.ins Γ.done dx (doneF 0 .non t false n))
  | .halt_ t => ∃ dx, H p = some (.ins Γ.stop dx (stopF 0 .non t false))
  | .look t => ∃ dx, H p = some (.ins Γ.look dx (tickF 5 t))
  | .clear t => ∃ dx, H p = some (.ins Γ.clear dx (clearF 0 .non t))
  | .key => ∃ dx, H p = some (.ins Γ.key dx keyF)
  | .sleep x => ∃ dx, H p = some (.ins Γ.sleep dx (sleepF x))
  | .wake => ∃ dx, H p = some (.ins Γ.wake dx (wakeF 0 .non))
/-- a call that stands at a gap -/
def GapAt (K : PySem.W.Frag) (Γ : Cs) (H : Hp) (F : Ft) (p : Addr) : LwPool.Op → LwPool.At → Prop
  | .offer n kind job, .offered i k v => ∃ dx j t fl, H p = some (.ins Γ.offer dx (offerF fl n kind j i (.ref t) 0)) ∧ JbT K H j job ∧ PhT K H t v ∧ fl + k = 3
  | .offer n kind job, .laying i v => ∃ dx j t fl, H p = some (.ins Γ.offer dx (offerF fl n kind j i (.ref t) 1)) ∧ JbT K H j job ∧ PhT K H t v
  | .offer n kind job, .opening i v => ∃ dx j t fl, H p = some (.ins Γ.offer dx (offerF fl n kind j i (.ref t) 2)) ∧ PhT K H t v
  | .take, .taking i k v w kind job => ∃ dx t l fl, H p = some (.ins Γ.take dx (takeF fl i (.ref t) (.ref l))) ∧ NxT K H t w ∧ H l = some (.lst ((PoolNeutral.outInts ⟨0, [LwPool.ticketOf v.stamp i, w.given, kind], job⟩).map V.int)) ∧ ¬ F.In l ∧ l ≠ p ∧ fl + k = 3
  | .done t n, .marking k x => ∃ dx a fl, H p = some (.ins Γ.done dx (doneF fl (.ref a) t false n)) ∧ WdT K H a x ∧ fl + k = 3
  | .done t n, .finishing _ => ∃ dx a fl, H p = some (.ins Γ.done dx (doneF fl a t true n))
  | .halt_ t, .stopping k w => ∃ dx a fl, H p = some (.ins Γ.stop dx (stopF fl (.ref a) t false)) ∧ NxT K H a w ∧ fl + k = 3
  | .halt_ t, .finishing l => ∃ dx a fl w, H p = some (.ins Γ.stop dx (stopF fl (.ref a) t true)) ∧ NxT K H a w ∧ l = [w.given]
  | .look t, .looking => ∃ dx, H p = some (.ins Γ.look dx (tickF 5 t))
  | .clear t, .clearing k v => ∃ dx a fl, H p = some (.ins Γ.clear dx (clearF fl (.ref a) t)) ∧ PhT K H a v ∧ fl + k = 3
  | .key, .keying => ∃ dx, H p = some (.ins Γ.key dx keyF)
  | .wake, .waking k x => ∃ dx fl, H p = some (.ins Γ.wake dx (wakeF fl (vi x))) ∧ fl + k = 3
  | _, _ => False
/-- its place can be read -/
def PlAt (K : PySem.W.Frag) (H : Hp) (p : Addr) (o : LwPool.Op) : Prop := ∃ C dx r, H p = some (.ins C dx (("place", .int (PoolNeutral.place o)) :: r)) ∧ Cls K C ∧ NoAttr K C "place"
/-- the outcome of a step -/
def Res (K : PySem.W.Frag) (Γ : Cs) (H : Hp) (F : Ft) (p : Addr) (o : LwPool.Op) (v : V) (H' : Hp) : LwPool.Turn → Prop
  | .gap B' a => v = .non ∧ ∃ F', BdAt K Γ H' F' B' ∧ New H F F' ∧ GapAt K Γ H' F' p o a
  | .ends B' r => ∃ l F', v = .ref l ∧ H' l = some (.lst ((PoolNeutral.outInts r).map V.int)) ∧ BdAt K Γ H' F' B' ∧ New H F F' ∧ PlAt K H' p o
def Own (F : Ft) (p : Addr) (a : Addr) : Prop := F.In a ∨ a = p
theorem Res.back {K : PySem.W.Frag} {Γ : Cs} {H0 H H' : Hp} {F : Ft} {p : Addr} {o : LwPool.Op} {v : V} {x : LwPool.Turn} {X : Addr → Prop} (c : Chg K X H0 H) (h : Res K Γ H F p o v H' x) : Res K Γ H0 F p o v H' x := by
  have key : ∀ {F' : Ft}, New H F F' → New H0 F F' := fun n => ⟨n.1, fun a ha => (n.2 a ha).elim .inl fun z => .inr (c.free z)⟩
  cases x with
  | gap B' a =>
    obtain ⟨h1, F', h2, h3, h4⟩ := h
    exact ⟨h1, F', h2, key h3, h4⟩
  | ends B' r =>
    obtain ⟨l, F', h1, h2, h3, h4, h5⟩ := h
    exact ⟨l, F', h1, h2, h3, key h4, h5⟩
def spBegin (K : PySem.W.Frag) (Γ : Cs) (ok : LwPool.Op → Prop) : Sp := fun vs H Q _ => ∃ (p : Addr) (F : Ft) (B : LwPool.Board) (o : LwPool.Op), vs = [.ref p, .ref F.b] ∧ ok o ∧ BdAt K Γ H F B ∧ BOk B ∧ InitAt K Γ H p o ∧
  ∀ v H', Chg K (Own F p) H H' → Res K Γ H F p o v H' (LwPool.begins o B) → Q v H'
def spGo (K : PySem.W.Frag) (Γ : Cs) (ok : LwPool.Op → Prop) : Sp := fun vs H Q _ => ∃ (p : Addr) (F : Ft) (B : LwPool.Board) (o : LwPool.Op) (a : LwPool.At), vs = [.ref p, .ref F.b] ∧ ok o ∧ BdAt K Γ H F B ∧ BOk B ∧ GapAt K Γ H F p o a ∧ AtOk B o a ∧
  ∀ v H', Chg K (Own F p) H H' → Res K Γ H F p o v H' (LwPool.goesOn o a B) → Q v H'
/-- an end, nothing written but a new list -/
theorem res_end {K : PySem.W.Frag} {Γ : Cs} {H H1 : Hp} {F F' : Ft} {B' : LwPool.Board} {p l : Addr} {o : LwPool.Op} {r : LwPool.Out} {xs : List V} (hB : BdAt K Γ H1 F' B') (n : New H F F') (hl : H1 l = none) (hx : xs = (PoolNeutral.outInts r).map V.int) (pl : PlAt K H1 p o) :
    Res K Γ H F p o (.ref l) (upd H1 l (.lst xs)) (.ends B' r) := by
  subst hx
  refine ⟨l, F', rfl, upd_same, hB.same (Same.new hl), n, ?_⟩
  obtain ⟨C, dx, rr, h1, h2, h3⟩ := pl
  exact ⟨C, dx, rr, keep_new h1 hl, h2, h3⟩
section
variable {P : Program} {w : World} {K : PySem.W.Frag} {mg : Str → Option Value} {base : Heap} {Γ : Cs}
/-! ### new ones -/
def spTickInit (C : Addr) : Sp := fun vs H Q _ => ∃ (p dx : Addr) (pl t : V), vs = [.ref p, pl, t] ∧ H p = some (.ins C dx []) ∧ Q .non (upd H p (.ins C dx [("place", pl), ("fails", .int 0), ("ticket", t)]))
abbrev s_Again_init : Stmt := inClass (top 38) 0
theorem sc_Again_init : FnScope ["self", "place", "ticket"] ["self", "place", "ticket"] (defScope s_Again_init) := ⟨rfl, rfl, rfl, by decide +kernel, rfl, by decide +kernel, by decide +kernel⟩
theorem ok_Again_init {f : Addr} {fd : FuncData} (F : Fun K "__init__" "Again.__init__" s_Again_init f fd) (T : Tx K mg Γ) (b_Running : BF P w K mg base "Running" "__init__" 1 ["self", "place"] (spRunInit K)) : FnOk P w K mg base CX0 2 f fd ["self", "place", "ticket"] (spTickInit Γ.again) := by
  have sc := sc_Again_init
  refine F.ok sc (fun vs H Q E h => ?_) (fun cdv A outer s H vs Q E hr h => ?_)
  · obtain ⟨_, _, _, _, rfl, _⟩ := h
    rfl
  · obtain ⟨p, dx, pl, t, rfl, hp, k⟩ := h
    refine ⟨_, (pss_cons (ps_expr (pe_bf b_Running (hr.mono (by decide)) rfl (pa_cons (pv 0) (pa_cons (pv 1) pa_nil))))
      (pss_one (ps_fldP (pv 0) (pv 2) rfl))), ?_⟩
    refine ⟨_, rfl, _, rfl, p, Γ.again, dx, pl, rfl, hp, T.cl_again, T.n_again_place, T.n_again_fails, _, rfl, _, rfl, p, Γ.again, dx, _, rfl, upd_same, T.cl_again, T.n_again_ticket, (by show 2 < 1000; decide), _, (by walk_at "put"), ?_⟩
    rw [upd_upd]
    exact k
abbrev s_Look_init : Stmt := inClass (top 39) 0
theorem sc_Look_init : FnScope ["self", "place", "ticket"] ["self", "place", "ticket"] (defScope s_Look_init) := ⟨rfl, rfl, rfl, by decide +kernel, rfl, by decide +kernel, by decide +kernel⟩
theorem ok_Look_init {f : Addr} {fd : FuncData} (F : Fun K "__init__" "Look.__init__" s_Look_init f fd) (T : Tx K mg Γ) (b_Running : BF P w K mg base "Running" "__init__" 1 ["self", "place"] (spRunInit K)) : FnOk P w K mg base CX0 2 f fd ["self", "place", "ticket"] (spTickInit Γ.look) := by
  have sc := sc_Look_init
  refine F.ok sc (fun vs H Q E h => ?_) (fun cdv A outer s H vs Q E hr h => ?_)
  · obtain ⟨_, _, _, _, rfl, _⟩ := h
    rfl
  · obtain ⟨p, dx, pl, t, rfl, hp, k⟩ := h
    refine ⟨_, (pss_cons (ps_expr (pe_bf b_Running (hr.mono (by decide)) rfl (pa_cons (pv 0) (pa_cons (pv 1) pa_nil))))
      (pss_one (ps_fldP (pv 0) (pv 2) rfl))), ?_⟩
    refine ⟨_, rfl, _, rfl, p, Γ.look, dx, pl, rfl, hp, T.cl_look, T.n_look_place, T.n_look_fails, _, rfl, _, rfl, p, Γ.look, dx, _, rfl, upd_same, T.cl_look, T.n_look_ticket, (by show 2 < 1000; decide), _, (by walk_at "put"), ?_⟩
    rw [upd_upd]
    exact k
def spSleepInit (C : Addr) : Sp := fun vs H Q _ => ∃ (p dx : Addr) (pl t : V), vs = [.ref p, pl, t] ∧ H p = some (.ins C dx []) ∧ Q .non (upd H p (.ins C dx [("place", pl), ("fails", .int 0), ("number", t)]))
abbrev s_Sleep_init : Stmt := inClass (top 57) 0
theorem sc_Sleep_init : FnScope ["self", "place", "number"] ["self", "place", "number"] (defScope s_Sleep_init) := ⟨rfl, rfl, rfl, by decide +kernel, rfl, by decide +kernel, by decide +kernel⟩
theorem ok_Sleep_init {f : Addr} {fd : FuncData} (F : Fun K "__init__" "Sleep.__init__" s_Sleep_init f fd) (T : Tx K mg Γ) (b_Running : BF P w K mg base "Running" "__init__" 1 ["self", "place"] (spRunInit K)) : FnOk P w K mg base CX0 2 f fd ["self", "place", "number"] (spSleepInit Γ.sleep) := by
  have sc := sc_Sleep_init
  refine F.ok sc (fun vs H Q E h => ?_) (fun cdv A outer s H vs Q E hr h => ?_)
  · obtain ⟨_, _, _, _, rfl, _⟩ := h
    rfl
  · obtain ⟨p, dx, pl, t, rfl, hp, k⟩ := h
    refine ⟨_, (pss_cons (ps_expr (pe_bf b_Running (hr.mono (by decide)) rfl (pa_cons (pv 0) (pa_cons (pv 1) pa_nil))))
      (pss_one (ps_fldP (pv 0) (pv 2) rfl))), ?_⟩
    refine ⟨_, rfl, _, rfl, p, Γ.sleep, dx, pl, rfl, hp, T.cl_sleep, T.n_sleep_place, T.n_sleep_fails, _, rfl, _, rfl, p, Γ.sleep, dx, _, rfl, upd_same, T.cl_sleep, T.n_sleep_number, (by show 2 < 1000; decide), _, (by walk_at "put"), ?_⟩
    rw [upd_upd]
    exact k
def spTakeInit (C : Addr) : Sp := fun vs H Q _ => ∃ (p dx : Addr) (pl : V), vs = [.ref p, pl] ∧ H p = some (.ins C dx []) ∧ Q .non (upd H p (.ins C dx [("place", pl), ("fails", .int 0), ("at", .int 0), ("seen", .non), ("told", .non)]))
abbrev s_Take_init : Stmt := inClass (top 45) 0
theorem sc_Take_init : FnScope ["self", "place"] ["self", "place"] (defScope s_Take_init) := ⟨rfl, rfl, rfl, by decide +kernel, rfl, by decide +kernel, by decide +kernel⟩
theorem ok_Take_init {f : Addr} {fd : FuncData} (F : Fun K "__init__" "Take.__init__" s_Take_init f fd) (T : Tx K mg Γ) (b_Running : BF P w K mg base "Running" "__init__" 1 ["self", "place"] (spRunInit K)) : FnOk P w K mg base CX0 2 f fd ["self", "place"] (spTakeInit Γ.take) := by
  have sc := sc_Take_init
  refine F.ok sc (fun vs H Q E h => ?_) (fun cdv A outer s H vs Q E hr h => ?_)
  · obtain ⟨_, _, _, rfl, _⟩ := h
    rfl
  · obtain ⟨p, dx, pl, rfl, hp, k⟩ := h
    refine ⟨_, (pss_cons (ps_expr (pe_bf b_Running (hr.mono (by decide)) rfl (pa_cons (pv 0) (pa_cons (pv 1) pa_nil))))
      (pss_cons (ps_fldP (pv 0) pe_int rfl)
      (pss_cons (ps_fldP (pv 0) pe_non rfl)
      (pss_one (ps_fldP (pv 0) pe_non rfl))))), ?_⟩
    refine ⟨_, rfl, _, rfl, p, Γ.take, dx, pl, rfl, hp, T.cl_take, T.n_take_place, T.n_take_fails, _, rfl, p, Γ.take, dx, _, rfl, upd_same, T.cl_take, T.n_take_at, (by show 2 < 1000; decide), _, (by walk_at "put"),
      _, rfl, p, Γ.take, dx, _, rfl, upd_same, T.cl_take, T.n_take_seen, (by show 3 < 1000; decide), _, (by walk_at "put"), _, rfl, p, Γ.take, dx, _, rfl, upd_same, T.cl_take, T.n_take_told, (by show 4 < 1000; decide), _, (by walk_at "put"), ?_⟩
    rw [upd_upd, upd_upd, upd_upd]
    exact k
def spOfferInit (C : Addr) : Sp := fun vs H Q _ => ∃ (p dx : Addr) (pl n kd j : V), vs = [.ref p, pl, n, kd, j] ∧ H p = some (.ins C dx []) ∧ Q .non (upd H p (.ins C dx [("place", pl), ("fails", .int 0), ("slices", n), ("kind", kd), ("job", j), ("at", .int 0), ("seen", .non), ("stage", .int 0)]))
abbrev s_Offer_init : Stmt := inClass (top 44) 0
theorem sc_Offer_init : FnScope ["self", "place", "slices", "kind", "job"] ["self", "place", "slices", "kind", "job"] (defScope s_Offer_init) := ⟨rfl, rfl, rfl, by decide +kernel, rfl, by decide +kernel, by decide +kernel⟩
theorem ok_Offer_init {f : Addr} {fd : FuncData} (F : Fun K "__init__" "Offer.__init__" s_Offer_init f fd) (T : Tx K mg Γ) (b_Running : BF P w K mg base "Running" "__init__" 1 ["self", "place"] (spRunInit K)) : FnOk P w K mg base CX0 2 f fd ["self", "place", "slices", "kind", "job"] (spOfferInit Γ.offer) := by
  have sc := sc_Offer_init
  refine F.ok sc (fun vs H Q E h => ?_) (fun cdv A outer s H vs Q E hr h => ?_)
  · obtain ⟨_, _, _, _, _, _, rfl, _⟩ := h
    rfl
  · obtain ⟨p, dx, pl, n, kd, j, rfl, hp, k⟩ := h
    refine ⟨_, (pss_cons (ps_expr (pe_bf b_Running (hr.mono (by decide)) rfl (pa_cons (pv 0) (pa_cons (pv 1) pa_nil))))
      (pss_cons (ps_fldP (pv 0) (pv 2) rfl)
      (pss_cons (ps_fldP (pv 0) (pv 3) rfl)
      (pss_cons (ps_fldP (pv 0) (pv 4) rfl)
      (pss_cons (ps_fldP (pv 0) pe_int rfl)
      (pss_cons (ps_fldP (pv 0) pe_non rfl)
      (pss_one (ps_fldP (pv 0) (pe_gv T.g_CLAIM rfl) rfl)))))))), ?_⟩
    refine ⟨_, rfl, _, rfl, p, Γ.offer, dx, pl, rfl, hp, T.cl_offer, T.n_offer_place, T.n_offer_fails,
      _, rfl, _, rfl, p, Γ.offer, dx, _, rfl, upd_same, T.cl_offer, T.n_offer_slices, (by show 2 < 1000; decide), _, (by walk_at "put"),
      _, rfl, _, rfl, p, Γ.offer, dx, _, rfl, upd_same, T.cl_offer, T.n_offer_kind, (by show 3 < 1000; decide), _, (by walk_at "put"),
      _, rfl, _, rfl, p, Γ.offer, dx, _, rfl, upd_same, T.cl_offer, T.n_offer_job, (by show 4 < 1000; decide), _, (by walk_at "put"),
      _, rfl, p, Γ.offer, dx, _, rfl, upd_same, T.cl_offer, T.n_offer_at, (by show 5 < 1000; decide), _, (by walk_at "put"),
      _, rfl, p, Γ.offer, dx, _, rfl, upd_same, T.cl_offer, T.n_offer_seen, (by show 6 < 1000; decide), _, (by walk_at "put"),
      _, rfl, p, Γ.offer, dx, _, rfl, upd_same, T.cl_offer, T.n_offer_stage, (by show 7 < 1000; decide), _, (by walk_at "put"), ?_⟩
    rw [upd_upd, upd_upd, upd_upd, upd_upd, upd_upd, upd_upd]
    exact k
def spTryInit (K : PySem.W.Frag) : Sp := fun vs H Q _ => ∃ (p C dx : Addr) (v : V), vs = [.ref p, v] ∧ H p = some (.ins C dx []) ∧ Cls K C ∧ NoAttr K C "place" ∧ NoAttr K C "fails" ∧ NoAttr K C "seen" ∧ Q .non (upd H p (.ins C dx [("place", v), ("fails", .int 0), ("seen", .non)]))
abbrev s_Trying_init : Stmt := inClass (top 49) 0
theorem sc_Trying_init : FnScope ["self", "place"] ["self", "place"] (defScope s_Trying_init) := ⟨rfl, rfl, rfl, by decide +kernel, rfl, by decide +kernel, by decide +kernel⟩
theorem ok_Trying_init {f : Addr} {fd : FuncData} (F : Fun K "__init__" "Trying.__init__" s_Trying_init f fd) (b_Running : BF P w K mg base "Running" "__init__" 1 ["self", "place"] (spRunInit K)) : FnOk P w K mg base CX0 2 f fd ["self", "place"] (spTryInit K) := by
  have sc := sc_Trying_init
  refine F.ok sc (fun vs H Q E h => ?_) (fun cdv A outer s H vs Q E hr h => ?_)
  · obtain ⟨_, _, _, _, rfl, _⟩ := h
    rfl
  · obtain ⟨p, C, dx, v, rfl, hp, c, n1, n2, n3, k⟩ := h
    refine ⟨_, (pss_cons (ps_expr (pe_bf b_Running (hr.mono (by decide)) rfl (pa_cons (pv 0) (pa_cons (pv 1) pa_nil))))
      (pss_one (ps_fldP (pv 0) pe_non rfl))), ?_⟩
    refine ⟨_, rfl, _, rfl, p, C, dx, v, rfl, hp, c, n1, n2, _, rfl, p, C, dx, _, rfl, upd_same, c, n3, (by show 2 < 1000; decide), _, (by walk_at "put"), ?_⟩
    rw [upd_upd]
    exact k
def spFinInit (K : PySem.W.Frag) : Sp := fun vs H Q _ => ∃ (p C dx : Addr) (v : V) (t : Nat), vs = [.ref p, v, vi t] ∧ H p = some (.ins C dx []) ∧ Cls K C ∧ NoAttr K C "place" ∧ NoAttr K C "fails" ∧ NoAttr K C "seen" ∧ NoAttr K C "ticket" ∧ NoAttr K C "stamp" ∧ NoAttr K C "written" ∧
  Q .non (upd H p (.ins C dx [("place", v), ("fails", .int 0), ("seen", .non), ("ticket", vi t), ("stamp", vi (LwPool.stampOf t)), ("written", .bl false)]))
abbrev s_Finishing_init : Stmt := inClass (top 50) 0
theorem sc_Finishing_init : FnScope ["self", "place", "ticket"] ["self", "place", "ticket"] (defScope s_Finishing_init) := ⟨rfl, rfl, rfl, by decide +kernel, rfl, by decide +kernel, by decide +kernel⟩
theorem ok_Finishing_init {f : Addr} {fd : FuncData} (F : Fun K "__init__" "Finishing.__init__" s_Finishing_init f fd) (b_Trying : BF P w K mg base "Trying" "__init__" 2 ["self", "place"] (spTryInit K)) (g_stamp_of : GF P w K mg base "stamp_of" 1 ["ticket"] spStamp) :
    FnOk P w K mg base CX0 3 f fd ["self", "place", "ticket"] (spFinInit K) := by
  have sc := sc_Finishing_init
  refine F.ok sc (fun vs H Q E h => ?_) (fun cdv A outer s H vs Q E hr h => ?_)
  · obtain ⟨_, _, _, _, _, rfl, _⟩ := h
    rfl
  · obtain ⟨p, C, dx, v, t, rfl, hp, c, n1, n2, n3, n4, n5, n6, k⟩ := h
    refine ⟨_, (pss_cons (ps_expr (pe_bf b_Trying (hr.mono (by decide)) rfl (pa_cons (pv 0) (pa_cons (pv 1) pa_nil))))
      (pss_cons (ps_fldP (pv 0) (pv 2) rfl)
      (pss_cons (ps_fldP (pv 0) (pe_gf g_stamp_of (hr.mono (by decide)) rfl (pa_cons (pv 2) pa_nil)) rfl)
      (pss_one (ps_fldP (pv 0) pe_bl rfl))))), ?_⟩
    refine ⟨_, rfl, _, rfl, p, C, dx, v, rfl, hp, c, n1, n2, n3, _, rfl, _, rfl, p, C, dx, _, rfl, upd_same, c, n4, (by show 3 < 1000; decide), _, (by walk_at "put"),
      _, rfl, t, rfl, _, rfl, p, C, dx, _, rfl, upd_same, c, n5, (by show 4 < 1000; decide), _, (by walk_at "put"),
      _, rfl, p, C, dx, _, rfl, upd_same, c, n6, (by show 5 < 1000; decide), _, (by walk_at "put"), ?_⟩
    rw [upd_upd, upd_upd, upd_upd]
    exact k
def spDoneInit (C : Addr) : Sp := fun vs H Q _ => ∃ (p dx : Addr) (v n : V) (t : Nat), vs = [.ref p, v, vi t, n] ∧ H p = some (.ins C dx []) ∧
  Q .non (upd H p (.ins C dx [("place", v), ("fails", .int 0), ("seen", .non), ("ticket", vi t), ("stamp", vi (LwPool.stampOf t)), ("written", .bl false), ("k", n)]))
abbrev s_Done_init : Stmt := inClass (top 51) 0
theorem sc_Done_init : FnScope ["self", "place", "ticket", "k"] ["self", "place", "ticket", "k"] (defScope s_Done_init) := ⟨rfl, rfl, rfl, by decide +kernel, rfl, by decide +kernel, by decide +kernel⟩
theorem ok_Done_init {f : Addr} {fd : FuncData} (F : Fun K "__init__" "Done.__init__" s_Done_init f fd) (T : Tx K mg Γ) (b_Finishing : BF P w K mg base "Finishing" "__init__" 3 ["self", "place", "ticket"] (spFinInit K)) :
    FnOk P w K mg base CX0 4 f fd ["self", "place", "ticket", "k"] (spDoneInit Γ.done) := by
  have sc := sc_Done_init
  refine F.ok sc (fun vs H Q E h => ?_) (fun cdv A outer s H vs Q E hr h => ?_)
  · obtain ⟨_, _, _, _, _, rfl, _⟩ := h
    rfl
  · obtain ⟨p, dx, v, n, t, rfl, hp, k⟩ := h
    refine ⟨_, (pss_cons (ps_expr (pe_bf b_Finishing (hr.mono (by decide)) rfl (pa_cons (pv 0) (pa_cons (pv 1) (pa_cons (pv 2) pa_nil)))))
      (pss_one (ps_fldP (pv 0) (pv 3) rfl))), ?_⟩
    refine ⟨_, rfl, _, rfl, _, rfl, p, Γ.done, dx, v, t, rfl, hp, T.cl_done, T.n_done_place, T.n_done_fails, T.n_done_seen, T.n_done_ticket, T.n_done_stamp, T.n_done_written,
      _, rfl, _, rfl, p, Γ.done, dx, _, rfl, upd_same, T.cl_done, T.n_done_k, (by show 6 < 1000; decide), _, (by walk_at "put"), ?_⟩
    rw [upd_upd]
    exact k
def spClearInit (C : Addr) : Sp := fun vs H Q _ => ∃ (p dx : Addr) (v : V) (t : Nat), vs = [.ref p, v, vi t] ∧ H p = some (.ins C dx []) ∧
  Q .non (upd H p (.ins C dx [("place", v), ("fails", .int 0), ("seen", .non), ("ticket", vi t), ("stamp", vi (LwPool.stampOf t))]))
abbrev s_Clear_init : Stmt := inClass (top 53) 0
theorem sc_Clear_init : FnScope ["self", "place", "ticket"] ["self", "place", "ticket"] (defScope s_Clear_init) := ⟨rfl, rfl, rfl, by decide +kernel, rfl, by decide +kernel, by decide +kernel⟩
theorem ok_Clear_init {f : Addr} {fd : FuncData} (F : Fun K "__init__" "Clear.__init__" s_Clear_init f fd) (T : Tx K mg Γ) (b_Trying : BF P w K mg base "Trying" "__init__" 2 ["self", "place"] (spTryInit K)) (g_stamp_of : GF P w K mg base "stamp_of" 1 ["ticket"] spStamp) :
    FnOk P w K mg base CX0 3 f fd ["self", "place", "ticket"] (spClearInit Γ.clear) := by
  have sc := sc_Clear_init
  refine F.ok sc (fun vs H Q E h => ?_) (fun cdv A outer s H vs Q E hr h => ?_)
  · obtain ⟨_, _, _, _, rfl, _⟩ := h
    rfl
  · obtain ⟨p, dx, v, t, rfl, hp, k⟩ := h
    refine ⟨_, (pss_cons (ps_expr (pe_bf b_Trying (hr.mono (by decide)) rfl (pa_cons (pv 0) (pa_cons (pv 1) pa_nil))))
      (pss_cons (ps_fldP (pv 0) (pv 2) rfl)
      (pss_one (ps_fldP (pv 0) (pe_gf g_stamp_of (hr.mono (by decide)) rfl (pa_cons (pv 2) pa_nil)) rfl)))), ?_⟩
    refine ⟨_, rfl, _, rfl, p, Γ.clear, dx, v, rfl, hp, T.cl_clear, T.n_clear_place, T.n_clear_fails, T.n_clear_seen, _, rfl, _, rfl, p, Γ.clear, dx, _, rfl, upd_same, T.cl_clear, T.n_clear_ticket, (by show 3 < 1000; decide), _, (by walk_at "put"),
      _, rfl, t, rfl, _, rfl, p, Γ.clear, dx, _, rfl, upd_same, T.cl_clear, T.n_clear_stamp, (by show 4 < 1000; decide), _, (by walk_at "put"), ?_⟩
    rw [upd_upd, upd_upd]
    exact k
end
end Po

namespace Po
open PySem PySem.Spec PyProof.Rows L2
local macro_rules | `(tactic| walk_at "lk") => `(tactic| repeat (first | exact lk_hit | exact lk_nil | refine (lk_miss (by decide +kernel)).trans ?_))
local macro_rules | `(tactic| walk_at "put") => `(tactic| repeat (first | exact put_hit | exact put_nil | (apply put_miss; · decide +kernel)))
theorem own_ins {K : PySem.W.Frag} {Γ : Cs} {H : Hp} {F : Ft} {B : LwPool.Board} (hB : BdAt K Γ H F B) {p C dx : Addr} {v : V} {r : List (Str × V)} (e : H p = some (.ins C dx (("place", v) :: r))) : ¬ F.In p :=
  hB.notIns e (by decide +kernel) (by decide +kernel)
section
variable {P : Program} {w : World} {K : PySem.W.Frag} {mg : Str → Option Value} {base : Heap} {Γ : Cs}
/-! ### key, sleep -/
abbrev s_Key_begin : Stmt := inClass (top 56) 0
theorem sc_Key_begin : FnScope ["self", "board"] ["self", "board"] (defScope s_Key_begin) := ⟨rfl, rfl, rfl, by decide +kernel, rfl, by decide +kernel, by decide +kernel⟩
theorem ok_Key_begin {f : Addr} {fd : FuncData} (F : Fun K "begin" "Key.begin" s_Key_begin f fd) (T : Tx K mg Γ) : FnOk P w K mg base CX0 1 f fd ["self", "board"] (spBegin K Γ fun o => o = .key) := by
  have sc := sc_Key_begin
  refine F.ok sc (fun vs H Q E h => ?_) (fun cdv A outer s H vs Q E hr h => ?_)
  · obtain ⟨_, _, _, _, rfl, _⟩ := h
    rfl
  · obtain ⟨p, F, B, o, rfl, rfl, hB, hO, hI, k⟩ := h
    refine ⟨_, (pss_one (ps_ret (pe_gv T.g_GAP rfl))), ?_⟩
    exact k _ _ Chg.refl ⟨rfl, F, hB, New.refl, hI⟩
/-- the event is written -/
theorem BdAt.event {H : Hp} {F : Ft} {B : LwPool.Board} (h : BdAt K Γ H F B) {dx : Addr} {e : Nat} (hb : H F.b = some (.ins Γ.board dx (boardF B.event F.ls))) :
    BdAt K Γ (upd H F.b (.ins Γ.board dx (boardF e F.ls))) F { B with event := e } := by
  have nI : ∀ {a : Addr} {o : HO}, H a = some o → (∀ dx', o ≠ .ins Γ.board dx' (boardF B.event F.ls)) → a ≠ F.b := fun q z => ne_of q hb (z dx)
  have c : Chg K (fun a => a = F.b) H (upd H F.b (.ins Γ.board dx (boardF e F.ls))) := chg_ins hb rfl
  refine ⟨⟨dx, upd_same⟩, ?_, fun j hj => ?_, h.sd, h.wd, h.lw⟩
  · rw [upd_ne (nI h.ls fun _ z => nomatch z)]
    exact h.ls
  · obtain ⟨dxj, tj, gj, jj, hsj, _⟩ := (h.at_ j hj).ob
    obtain ⟨was, hwj, _⟩ := (h.at_ j hj).wl
    refine (h.at_ j hj).chg c (nI hsj fun _ z => ?_) (nI hwj fun _ z => nomatch z)
    injection z with _ _ z
    injection z with z _
    injection z with z _
    exact absurd z (by decide +kernel)
theorem plAt_of {H : Hp} {p C dx : Addr} {o : LwPool.Op} {r : List (Str × V)} (e : H p = some (.ins C dx (("place", .int (PoolNeutral.place o)) :: r))) (c : Cls K C) (n : NoAttr K C "place") : PlAt K H p o := ⟨C, dx, r, e, c, n⟩
abbrev s_Key_go_on : Stmt := inClass (top 56) 1
theorem sc_Key_go_on : FnScope ["self", "board"] ["self", "board"] (defScope s_Key_go_on) := ⟨rfl, rfl, rfl, by decide +kernel, rfl, by decide +kernel, by decide +kernel⟩
theorem ok_Key_go_on {f : Addr} {fd : FuncData} (F : Fun K "go_on" "Key.go_on" s_Key_go_on f fd) (T : Tx K mg Γ) (g_is_even : GF P w K mg base "is_even" 1 ["event"] spEven) : FnOk P w K mg base CX0 2 f fd ["self", "board"] (spGo K Γ fun o => o = .key) := by
  have sc := sc_Key_go_on
  refine F.ok sc (fun vs H Q E h => ?_) (fun cdv A outer s H vs Q E hr h => ?_)
  · obtain ⟨_, _, _, _, _, rfl, _⟩ := h
    rfl
  · obtain ⟨p, F, B, o, a, rfl, rfl, hB, hO, hG, hA, k⟩ := h
    cases a with
    | keying =>
      obtain ⟨dxp, hp⟩ := hG
      obtain ⟨dx, hb⟩ := id hB.bd
      refine ⟨_, (pss_cons (ps_if (pt_val (pe_gf g_is_even (hr.mono (by decide)) rfl (pa_cons (pe_fld (pv 1) rfl) pa_nil)))
        (pss_one (ps_augP (pv 1) pe_int in_add))
        pss_nil)
      (pss_one (ps_ret (pe_lst (pa_cons pe_int (pa_cons (pe_fld (pv 1) rfl) pa_nil)))))), ?_⟩
      refine ⟨_, rfl, F.b, Γ.board, dx, _, _, rfl, hb, T.cl_board, T.n_board_event, (by walk_at "lk"), B.event, rfl, _, rfl, ifD (fun q => ?_) (fun q => ?_)⟩
      · refine ⟨_, rfl, F.b, Γ.board, dx, _, _, rfl, hb, T.cl_board, T.n_board_event, (by walk_at "lk"), _, _, rfl, rfl, dx, _, hb, (by show 2 < 1000; decide), _, (by walk_at "put"), ?_⟩
        refine ⟨_, rfl, F.b, Γ.board, dx, _, _, rfl, upd_same, T.cl_board, T.n_board_event, (by walk_at "lk"), (by show 2 ≤ sizeLine; decide), fun l hl => ?_⟩
        have hB2 := hB.event (e := B.event + 1) hb
        have npb : p ≠ F.b := fun z => own_ins hB hp (.inl z)
        refine k _ _ ((chg_ins hb (.inl (.inl rfl))).trans (chg_new hl)) ?_
        have eG : LwPool.goesOn .key .keying B = .ends { B with event := B.event + 1 } (LwPool.nums 0 [B.event + 1]) := by
          show LwPool.Turn.ends { B with event := if B.event % 2 = 0 then B.event + 1 else B.event } (LwPool.nums 0 [if B.event % 2 = 0 then B.event + 1 else B.event]) = _
          rw [if_pos q]
        rw [eG]
        exact res_end (F' := F) hB2 New.refl hl rfl (plAt_of (o := .key) (by rw [upd_ne npb]; exact hp) T.cl_key T.n_key_place)
      · refine ⟨_, rfl, F.b, Γ.board, dx, _, _, rfl, hb, T.cl_board, T.n_board_event, (by walk_at "lk"), (by show 2 ≤ sizeLine; decide), fun l hl => ?_⟩
        refine k _ _ (chg_new hl) ?_
        have eG : LwPool.goesOn .key .keying B = .ends B (LwPool.nums 0 [B.event]) := by
          show LwPool.Turn.ends { B with event := if B.event % 2 = 0 then B.event + 1 else B.event } (LwPool.nums 0 [if B.event % 2 = 0 then B.event + 1 else B.event]) = _
          rw [if_neg q]
        rw [eG]
        exact res_end (F' := F) hB New.refl hl rfl (plAt_of (o := .key) hp T.cl_key T.n_key_place)
    | _ => exact hA.elim
abbrev s_Sleep_begin : Stmt := inClass (top 57) 1
theorem sc_Sleep_begin : FnScope ["self", "board"] ["self", "board"] (defScope s_Sleep_begin) := ⟨rfl, rfl, rfl, by decide +kernel, rfl, by decide +kernel, by decide +kernel⟩
theorem ok_Sleep_begin {f : Addr} {fd : FuncData} (F : Fun K "begin" "Sleep.begin" s_Sleep_begin f fd) (T : Tx K mg Γ) : FnOk P w K mg base CX0 1 f fd ["self", "board"] (spBegin K Γ fun o => ∃ x, o = .sleep x) := by
  have sc := sc_Sleep_begin
  refine F.ok sc (fun vs H Q E h => ?_) (fun cdv A outer s H vs Q E hr h => ?_)
  · obtain ⟨_, _, _, _, rfl, _⟩ := h
    rfl
  · obtain ⟨p, F, B, o, rfl, ⟨x, rfl⟩, hB, hO, hI, k⟩ := h
    obtain ⟨dxp, hp⟩ := hI
    obtain ⟨dx, hb⟩ := id hB.bd
    refine ⟨_, (pss_one (ps_ret (pe_ifExp (pt_cmpR op_eq (pe_fld (pv 1) rfl) (pe_fld (pv 0) rfl) (nomark _)) (pe_lst (pa_cons pe_int pa_nil)) (pe_lst (pa_cons pe_int pa_nil))))), ?_⟩
    refine ⟨_, rfl, F.b, Γ.board, dx, _, _, rfl, hb, T.cl_board, T.n_board_event, (by walk_at "lk"), _, rfl, p, Γ.sleep, dxp, _, _, rfl, hp, T.cl_sleep, T.n_sleep_number, (by walk_at "lk"), rfl, _, rfl, ifD (fun q => ?_) (fun q => ?_)⟩
    · refine ⟨(by show 1 ≤ sizeLine; decide), fun l hl => k _ _ (chg_new hl) ?_⟩
      have e : LwPool.begins (.sleep x) B = .ends B (LwPool.num 1) := by
        show LwPool.Turn.ends B (LwPool.num (if B.event = x then 1 else 0)) = _
        rw [if_pos (vint_inj.mp q)]
      rw [e]
      exact res_end (F' := F) hB New.refl hl rfl (plAt_of (o := .sleep x) hp T.cl_sleep T.n_sleep_place)
    · refine ⟨(by show 1 ≤ sizeLine; decide), fun l hl => k _ _ (chg_new hl) ?_⟩
      have e : LwPool.begins (.sleep x) B = .ends B (LwPool.num 0) := by
        show LwPool.Turn.ends B (LwPool.num (if B.event = x then 1 else 0)) = _
        rw [if_neg fun z => q (vint_inj.mpr z)]
      rw [e]
      exact res_end (F' := F) hB New.refl hl rfl (plAt_of (o := .sleep x) hp T.cl_sleep T.n_sleep_place)
/-! ### the tries -/
/-- what is looked up, nothing changed -/
def spPure (L : List V → Hp → V → Prop) : Sp := fun vs H Q _ => vs.length = 2 ∧ ∃ v, L vs H v ∧ Q v H
/-- attempt: what is looked up is kept, then the rule -/
def spAtt (C : Addr) (L : List V → Hp → V → Prop) (spJ : Sp) : Sp := fun vs H Q _ => ∃ (p dx : Addr) (b v : V) (fs fs2 : List (Str × V)), vs = [.ref p, b] ∧ H p = some (.ins C dx fs) ∧ fs.lookup ("look_up" : Str) = none ∧
  L [.ref p, b] H v ∧ fs.length < 1000 ∧ putF "seen" v fs = fs2 ∧ fs2.lookup ("judge" : Str) = none ∧ spJ [.ref p] (upd H p (.ins C dx fs2)) Q E0
abbrev s_Trying_attempt : Stmt := inClass (top 49) 1
theorem sc_Trying_attempt : FnScope ["self", "board"] ["self", "board"] (defScope s_Trying_attempt) := ⟨rfl, rfl, rfl, by decide +kernel, rfl, by decide +kernel, by decide +kernel⟩
theorem ok_attempt {f C : Addr} {fd : FuncData} {L : List V → Hp → V → Prop} {spJ : Sp} (F : Fun K "attempt" "Trying.attempt" s_Trying_attempt f fd) (hC : Cls K C) (n_seen : NoAttr K C "seen")
    (m_look_up : MF P w K mg base C "look_up" 3 ["self", "board"] (spPure L)) (m_judge : MF P w K mg base C "judge" 3 ["self"] spJ) : FnOk P w K mg base CX0 4 f fd ["self", "board"] (spAtt C L spJ) := by
  have sc := sc_Trying_attempt
  refine F.ok sc (fun vs H Q E h => ?_) (fun cdv A outer s H vs Q E hr h => ?_)
  · obtain ⟨_, _, _, _, _, _, rfl, _⟩ := h
    rfl
  · obtain ⟨p, dx, b, v, fs, fs2, rfl, hp, h1, h2, h3, h4, h5, h6⟩ := h
    refine ⟨_, (pss_cons (ps_fldP (pv 0) (pe_mf m_look_up (hr.mono (by decide)) (pv 0) (pa_cons (pv 1) pa_nil)) rfl)
      (pss_one (ps_ret (pe_mf0 m_judge (hr.mono (by decide)) (pv 0))))), ?_⟩
    exact ⟨_, rfl, p, dx, fs, rfl, hp, h1, _, rfl, rfl, v, h2, _, rfl, p, C, dx, fs, rfl, hp, hC, n_seen, h3, fs2, h4, _, rfl, p, dx, fs2, rfl, upd_same, h5, h6⟩
/-- compare: is it still what was seen -/
def spCmp (K : PySem.W.Frag) (C : Addr) (L : List V → Hp → V → Prop) (spW spA : Sp) : Sp := fun vs H Q _ => ∃ (p dx : Addr) (b v sv pl : V) (n : Nat) (r : List (Str × V)) (d e : PyData), vs = [.ref p, b] ∧
  H p = some (.ins C dx (("place", pl) :: ("fails", vi n) :: r)) ∧ r.length < 900 ∧ r.lookup ("look_up" : Str) = none ∧ r.lookup ("write" : Str) = none ∧ r.lookup ("is_last_fail" : Str) = none ∧ r.lookup ("attempt" : Str) = none ∧ r.lookup ("seen" : Str) = some sv ∧
  L [.ref p, b] H v ∧ Dp K H v d ∧ Dp K H sv e ∧ SeqAt.shaped d = true ∧ SeqAt.shaped e = true ∧ (PyData.eqv d e = true → spW [.ref p, b] H Q E0) ∧
  (PyData.eqv d e = false → n + 1 = 3 → ∀ l, (upd H p (.ins C dx (("place", pl) :: ("fails", vi (n + 1)) :: r))) l = none → Q (.ref l) (upd (upd H p (.ins C dx (("place", pl) :: ("fails", vi (n + 1)) :: r))) l (.lst [.int (-2)]))) ∧
  (PyData.eqv d e = false → ¬ n + 1 = 3 → spA [.ref p, b] (upd H p (.ins C dx (("place", pl) :: ("fails", vi (n + 1)) :: r))) Q E0)
abbrev s_Trying_compare : Stmt := inClass (top 49) 2
theorem sc_Trying_compare : FnScope ["self", "board"] ["self", "board"] (defScope s_Trying_compare) := ⟨rfl, rfl, rfl, by decide +kernel, rfl, by decide +kernel, by decide +kernel⟩
theorem ok_compare {f C : Addr} {fd : FuncData} {L : List V → Hp → V → Prop} {spW spA : Sp} (F : Fun K "compare" "Trying.compare" s_Trying_compare f fd) (T : Tx K mg Γ) (hC : Cls K C) (n_seen : NoAttr K C "seen") (n_fails : NoAttr K C "fails")
    (m_look_up : MF P w K mg base C "look_up" 3 ["self", "board"] (spPure L)) (m_write : MF P w K mg base C "write" 6 ["self", "board"] spW) (m_is_last_fail : MF P w K mg base C "is_last_fail" 1 ["self"] (spLast K)) (m_attempt : MF P w K mg base C "attempt" 4 ["self", "board"] spA) :
    FnOk P w K mg base CX0 7 f fd ["self", "board"] (spCmp K C L spW spA) := by
  have sc := sc_Trying_compare
  refine F.ok sc (fun vs H Q E h => ?_) (fun cdv A outer s H vs Q E hr h => ?_)
  · obtain ⟨_, _, _, _, _, _, _, _, _, _, rfl, _⟩ := h
    rfl
  · obtain ⟨p, dx, b, v, sv, pl, n, r, d, e, rfl, hp, hl, l1, l2, l3, l4, l5, hL, hd, he, sd, se, k1, k2, k3⟩ := h
    refine ⟨_, (pss_cons (ps_if (pt_cmpR (op_eqD hr.units) (pe_mf m_look_up (hr.mono (by decide)) (pv 0) (pa_cons (pv 1) pa_nil)) (pe_fld (pv 0) rfl) (nomark _))
        (pss_one (ps_ret (pe_mf m_write (hr.mono (by decide)) (pv 0) (pa_cons (pv 1) pa_nil))))
        pss_nil)
      (pss_cons (ps_if (pt_val (pe_mf0 m_is_last_fail (hr.mono (by decide)) (pv 0)))
        (pss_one (ps_ret (pe_lst (pa_cons (pe_gv T.g_DISTURBED rfl) pa_nil))))
        pss_nil)
      (pss_one (ps_ret (pe_mf m_attempt (hr.mono (by decide)) (pv 0) (pa_cons (pv 1) pa_nil)))))), ?_⟩
    have up : ∀ {m : Str} {x : V} {o : Option V}, ¬ m = "place" → ¬ m = "fails" → r.lookup m = o → List.lookup m (("place", pl) :: ("fails", x) :: r) = o := fun h1 h2 h3 => (lk_miss h1).trans ((lk_miss h2).trans h3)
    refine ⟨_, rfl, p, dx, _, rfl, hp, up (by decide +kernel) (by decide +kernel) l1, _, rfl, rfl, v, hL, _, rfl, p, C, dx, _, _, rfl, hp, hC, n_seen, up (by decide +kernel) (by decide +kernel) l5, d, e, hd, he, sd, se, _, rfl, ifB (fun q => ?_) (fun q => ?_)⟩
    · exact ⟨_, rfl, p, dx, _, rfl, hp, up (by decide +kernel) (by decide +kernel) l2, _, rfl, k1 q⟩
    · refine ⟨_, rfl, p, dx, _, rfl, hp, up (by decide +kernel) (by decide +kernel) l3, p, C, dx, pl, n, r, rfl, hp, hl, hC, n_fails, _, rfl, ifD (fun q2 => ?_) (fun q2 => ?_)⟩
      · exact ⟨(by show 1 ≤ sizeLine; decide), fun l hl' => k2 q q2 l hl'⟩
      · exact ⟨_, rfl, p, dx, _, rfl, upd_same, up (by decide +kernel) (by decide +kernel) l4, _, rfl, k3 q q2⟩
end
end Po

namespace Po
open PySem PySem.Spec PyProof.Rows L2
local macro_rules | `(tactic| walk_at "lk") => `(tactic| repeat (first | exact lk_hit | exact lk_nil | refine (lk_miss (by decide +kernel)).trans ?_))
local macro_rules | `(tactic| walk_at "put") => `(tactic| repeat (first | exact put_hit | exact put_nil | (apply put_miss; · decide +kernel)))
section
variable {P : Program} {w : World} {K : PySem.W.Frag} {mg : Str → Option Value} {base : Heap} {Γ : Cs} {H : Hp} {F : Ft} {B : LwPool.Board}
/-- a call's own attributes are written -/
theorem BdAt.other (hB : BdAt K Γ H F B) {p C dx : Addr} {v : V} {r : List (Str × V)} {u : HO} (hp : H p = some (.ins C dx (("place", v) :: r))) : BdAt K Γ (upd H p u) F B :=
  hB.chg (X := fun a => a = p) (chg_ins hp rfl) fun a ha e => own_ins hB hp (e ▸ ha)
/-- the slot's state is written, a new tuple -/
theorem BdAt.setState (hB : BdAt K Γ H F B) (hO : BOk B) {i : Nat} (hi : i < 2) {q dx t g j : Addr} {v : LwPool.Phase} (hs : H (F.s i) = some (.ins Γ.slot dx (slotF t g (B.slot i).count (B.slot i).kind j (F.w i)))) (hn : NxT K H g (B.slot i).next) (hj : JbT K H j (B.slot i).job)
    (hq : H q = none) : ∃ F', BdAt K Γ (upd (upd H q (.tup [vi v.stamp, vi v.phase])) (F.s i) (.ins Γ.slot dx (slotF q g (B.slot i).count (B.slot i).kind j (F.w i)))) F' (B.with_ i { B.slot i with state := v }) ∧ New H F F' := by
  have hs1 : (upd H q (.tup [vi v.stamp, vi v.phase])) (F.s i) = some (.ins Γ.slot dx (slotF t g (B.slot i).count (B.slot i).kind j (F.w i))) := keep_new hs hq
  have c1 : Chg K (fun a => a = F.s i ∨ a = F.w i) H (upd H q (.tup [vi v.stamp, vi v.phase])) := chg_new hq
  have c2 : Chg K (fun a => a = F.s i ∨ a = F.w i) (upd H q (.tup [vi v.stamp, vi v.phase])) (upd (upd H q (.tup [vi v.stamp, vi v.phase])) (F.s i) (.ins Γ.slot dx (slotF q g (B.slot i).count (B.slot i).kind j (F.w i)))) := chg_ins hs1 (.inl rfl)
  obtain ⟨was, hw, hp⟩ := (hB.at_ i hi).wl
  have nws : F.w i ≠ F.s i := ne_of hw hs (fun z => nomatch z)
  refine hB.slot hO hi (c1.trans c2) (ws := F.w i) ⟨⟨dx, q, g, j, upd_same, ?_, hn.chg (c1.trans c2), hj.chg (c1.trans c2)⟩, was, ?_, paired_imp (fun _ _ z => z.chg (c1.trans c2)) hp⟩ (.inl rfl)
  · exact c2.tup _ _ (SqT.of upd_same)
  · rw [upd_ne nws]
    exact keep_new hw hq
/-- the slot's next is written, a new tuple -/
theorem BdAt.setNext (hB : BdAt K Γ H F B) (hO : BOk B) {i : Nat} (hi : i < 2) {q dx t g j : Addr} {v : LwPool.Next} (hs : H (F.s i) = some (.ins Γ.slot dx (slotF t g (B.slot i).count (B.slot i).kind j (F.w i)))) (ht : PhT K H t (B.slot i).state) (hj : JbT K H j (B.slot i).job)
    (hq : H q = none) : SlotAt K Γ (upd (upd H q (.tup [vi v.stamp, vi v.given, vi (PoolCalls.bit v.stopped)])) (F.s i) (.ins Γ.slot dx (slotF t q (B.slot i).count (B.slot i).kind j (F.w i)))) (F.s i) (F.w i) { B.slot i with next := v } ∧
    ∃ F', BdAt K Γ (upd (upd H q (.tup [vi v.stamp, vi v.given, vi (PoolCalls.bit v.stopped)])) (F.s i) (.ins Γ.slot dx (slotF t q (B.slot i).count (B.slot i).kind j (F.w i)))) F' (B.with_ i { B.slot i with next := v }) ∧ New H F F' := by
  have hs1 : (upd H q (.tup [vi v.stamp, vi v.given, vi (PoolCalls.bit v.stopped)])) (F.s i) = some (.ins Γ.slot dx (slotF t g (B.slot i).count (B.slot i).kind j (F.w i))) := keep_new hs hq
  have c1 : Chg K (fun a => a = F.s i ∨ a = F.w i) H (upd H q (.tup [vi v.stamp, vi v.given, vi (PoolCalls.bit v.stopped)])) := chg_new hq
  have c2 : Chg K (fun a => a = F.s i ∨ a = F.w i) (upd H q (.tup [vi v.stamp, vi v.given, vi (PoolCalls.bit v.stopped)])) (upd (upd H q (.tup [vi v.stamp, vi v.given, vi (PoolCalls.bit v.stopped)])) (F.s i) (.ins Γ.slot dx (slotF t q (B.slot i).count (B.slot i).kind j (F.w i)))) := chg_ins hs1 (.inl rfl)
  obtain ⟨was, hw, hp⟩ := (hB.at_ i hi).wl
  have nws : F.w i ≠ F.s i := ne_of hw hs (fun z => nomatch z)
  have hS : SlotAt K Γ (upd (upd H q (.tup [vi v.stamp, vi v.given, vi (PoolCalls.bit v.stopped)])) (F.s i) (.ins Γ.slot dx (slotF t q (B.slot i).count (B.slot i).kind j (F.w i)))) (F.s i) (F.w i) { B.slot i with next := v } := by
    refine ⟨⟨dx, t, q, j, upd_same, ht.chg (c1.trans c2), ?_, hj.chg (c1.trans c2)⟩, was, ?_, paired_imp (fun _ _ z => z.chg (c1.trans c2)) hp⟩
    · exact c2.tup _ _ (SqT.of upd_same)
    · rw [upd_ne nws]
      exact keep_new hw hq
  exact ⟨hS, hB.slot hO hi (c1.trans c2) hS (.inl rfl)⟩
theorem own_s {p : Addr} {i : Nat} (hi : i < 2) : Own F p (F.s i) := .inl (.inr (.inr (.inl ⟨i, hi, rfl⟩)))
theorem own_w {p : Addr} {i : Nat} (hi : i < 2) : Own F p (F.w i) := .inl (.inr (.inr (.inr ⟨i, hi, rfl⟩)))

/-! ### wake -/
def LWake (K : PySem.W.Frag) (Γ : Cs) : List V → Hp → V → Prop := fun vs H v => ∃ (p : Addr) (F : Ft) (B : LwPool.Board), vs = [.ref p, .ref F.b] ∧ BdAt K Γ H F B ∧ v = vi B.event
abbrev s_Wake_look_up : Stmt := inClass (top 58) 2
theorem sc_Wake_look_up : FnScope ["self", "board"] ["self", "board"] (defScope s_Wake_look_up) := ⟨rfl, rfl, rfl, by decide +kernel, rfl, by decide +kernel, by decide +kernel⟩
theorem ok_Wake_look_up {f : Addr} {fd : FuncData} (F : Fun K "look_up" "Wake.look_up" s_Wake_look_up f fd) (T : Tx K mg Γ) : FnOk P w K mg base CX0 1 f fd ["self", "board"] (spPure (LWake K Γ)) := by
  have sc := sc_Wake_look_up
  refine F.ok sc (fun vs H Q E h => h.1) (fun cdv A outer s H vs Q E hr h => ?_)
  obtain ⟨_, v, ⟨p, F, B, rfl, hB, rfl⟩, k⟩ := h
  obtain ⟨dx, hb⟩ := id hB.bd
  refine ⟨_, (pss_one (ps_ret (pe_fld (pv 1) rfl))), ?_⟩
  exact ⟨_, rfl, F.b, Γ.board, dx, _, _, rfl, hb, T.cl_board, T.n_board_event, (by walk_at "lk"), k⟩
def spJWake : Sp := fun vs H Q _ => ∃ p : Addr, vs = [.ref p] ∧ Q .non H
abbrev s_Wake_judge : Stmt := inClass (top 58) 3
theorem sc_Wake_judge : FnScope ["self"] ["self"] (defScope s_Wake_judge) := ⟨rfl, rfl, rfl, by decide +kernel, rfl, by decide +kernel, by decide +kernel⟩
theorem ok_Wake_judge {f : Addr} {fd : FuncData} (F : Fun K "judge" "Wake.judge" s_Wake_judge f fd) (T : Tx K mg Γ) : FnOk P w K mg base CX0 1 f fd ["self"] spJWake := by
  have sc := sc_Wake_judge
  refine F.ok sc (fun vs H Q E h => ?_) (fun cdv A outer s H vs Q E hr h => ?_)
  · obtain ⟨_, rfl, _⟩ := h
    rfl
  · obtain ⟨p, rfl, k⟩ := h
    exact ⟨_, (pss_one (ps_ret (pe_gv T.g_GAP rfl))), k⟩
def spWWake (K : PySem.W.Frag) (Γ : Cs) : Sp := fun vs H Q _ => ∃ (p dx : Addr) (F : Ft) (B : LwPool.Board) (x fl : Nat), vs = [.ref p, .ref F.b] ∧ BdAt K Γ H F B ∧ H p = some (.ins Γ.wake dx (wakeF fl (vi x))) ∧
  ∀ v H', Chg K (Own F p) H H' → Res K Γ H F p .wake v H' (if x % 2 = 0 then .ends { B with event := x + 2 } (LwPool.num 0) else .ends { B with event := x + 1 } (LwPool.num 1)) → Q v H'
abbrev s_Wake_write : Stmt := inClass (top 58) 4
theorem sc_Wake_write : FnScope ["self", "board"] ["self", "board"] (defScope s_Wake_write) := ⟨rfl, rfl, rfl, by decide +kernel, rfl, by decide +kernel, by decide +kernel⟩
theorem ok_Wake_write {f : Addr} {fd : FuncData} (F : Fun K "write" "Wake.write" s_Wake_write f fd) (T : Tx K mg Γ) (g_is_even : GF P w K mg base "is_even" 1 ["event"] spEven) : FnOk P w K mg base CX0 2 f fd ["self", "board"] (spWWake K Γ) := by
  have sc := sc_Wake_write
  refine F.ok sc (fun vs H Q E h => ?_) (fun cdv A outer s H vs Q E hr h => ?_)
  · obtain ⟨_, _, _, _, _, _, rfl, _⟩ := h
    rfl
  · obtain ⟨p, dxp, F, B, x, fl, rfl, hB, hp, k⟩ := h
    obtain ⟨dx, hb⟩ := id hB.bd
    have npb : p ≠ F.b := fun z => own_ins hB hp (.inl z)
    refine ⟨_, (pss_cons (ps_if (pt_val (pe_gf g_is_even (hr.mono (by decide)) rfl (pa_cons (pe_fld (pv 0) rfl) pa_nil)))
        (pss_cons (ps_fldP (pv 1) (pe_op op_add (pe_fld (pv 0) rfl) pe_int) rfl)
      (pss_one (ps_ret (pe_lst (pa_cons pe_int pa_nil)))))
        pss_nil)
      (pss_cons (ps_fldP (pv 1) (pe_op op_add (pe_fld (pv 0) rfl) pe_int) rfl)
      (pss_one (ps_ret (pe_lst (pa_cons pe_int pa_nil)))))), ?_⟩
    refine ⟨_, rfl, p, Γ.wake, dxp, _, _, rfl, hp, T.cl_wake, T.n_wake_seen, (by walk_at "lk"), x, rfl, _, rfl, ifD (fun q => ?_) (fun q => ?_)⟩
    · refine ⟨_, rfl, p, Γ.wake, dxp, _, _, rfl, hp, T.cl_wake, T.n_wake_seen, (by walk_at "lk"), _, _, rfl, rfl, _, rfl, F.b, Γ.board, dx, _, rfl, hb, T.cl_board, T.n_board_event, (by show 2 < 1000; decide), _, (by walk_at "put"), (by show 1 ≤ sizeLine; decide), fun l hl => ?_⟩
      refine k _ _ ((chg_ins hb (.inl (.inl rfl))).trans (chg_new hl)) ?_
      rw [if_pos q]
      exact res_end (F' := F) (hB.event (e := x + 2) hb) New.refl hl rfl (plAt_of (o := .wake) (by rw [upd_ne npb]; exact hp) T.cl_wake T.n_wake_place)
    · refine ⟨_, rfl, p, Γ.wake, dxp, _, _, rfl, hp, T.cl_wake, T.n_wake_seen, (by walk_at "lk"), _, _, rfl, rfl, _, rfl, F.b, Γ.board, dx, _, rfl, hb, T.cl_board, T.n_board_event, (by show 2 < 1000; decide), _, (by walk_at "put"), (by show 1 ≤ sizeLine; decide), fun l hl => ?_⟩
      refine k _ _ ((chg_ins hb (.inl (.inl rfl))).trans (chg_new hl)) ?_
      rw [if_neg q]
      exact res_end (F' := F) (hB.event (e := x + 1) hb) New.refl hl rfl (plAt_of (o := .wake) (by rw [upd_ne npb]; exact hp) T.cl_wake T.n_wake_place)
theorem att_wake {p dx : Addr} {sv : V} {fl k : Nat} {Q : VK} (hB : BdAt K Γ H F B) (hp : H p = some (.ins Γ.wake dx (wakeF fl sv))) (hk : fl + k = 3) (h : ∀ v H', Chg K (Own F p) H H' → Res K Γ H F p .wake v H' (LwPool.wakeTry k B) → Q v H') :
    spAtt Γ.wake (LWake K Γ) spJWake [.ref p, .ref F.b] H Q E0 :=
  ⟨p, dx, .ref F.b, vi B.event, _, _, rfl, hp, (by walk_at "lk"), ⟨p, F, B, rfl, hB, rfl⟩, (by show 3 < 1000; decide), (by walk_at "put"), (by walk_at "lk"), p, rfl, h _ _ (chg_ins hp (.inr rfl)) ⟨rfl, F, hB.other hp, New.refl, dx, fl, upd_same, hk⟩⟩
abbrev s_Wake_begin : Stmt := inClass (top 58) 0
theorem sc_Wake_begin : FnScope ["self", "board"] ["self", "board"] (defScope s_Wake_begin) := ⟨rfl, rfl, rfl, by decide +kernel, rfl, by decide +kernel, by decide +kernel⟩
theorem ok_Wake_begin {f : Addr} {fd : FuncData} (F : Fun K "begin" "Wake.begin" s_Wake_begin f fd) (m_attempt : MF P w K mg base Γ.wake "attempt" 4 ["self", "board"] (spAtt Γ.wake (LWake K Γ) spJWake)) : FnOk P w K mg base CX0 5 f fd ["self", "board"] (spBegin K Γ fun o => o = .wake) := by
  have sc := sc_Wake_begin
  refine F.ok sc (fun vs H Q E h => ?_) (fun cdv A outer s H vs Q E hr h => ?_)
  · obtain ⟨_, _, _, _, rfl, _⟩ := h
    rfl
  · obtain ⟨p, F, B, o, rfl, rfl, hB, hO, ⟨dx, hp⟩, k⟩ := h
    refine ⟨_, (pss_one (ps_ret (pe_mf m_attempt (hr.mono (by decide)) (pv 0) (pa_cons (pv 1) pa_nil)))), ?_⟩
    exact ⟨_, rfl, p, dx, _, rfl, hp, (by walk_at "lk"), _, rfl, att_wake hB hp rfl k⟩
theorem eqv1 (a b : Nat) : PyData.eqv (.int a) (.int b) = decide (a = b) := by
  simp only [PyData.eqv, ieq]
abbrev s_Wake_go_on : Stmt := inClass (top 58) 1
theorem sc_Wake_go_on : FnScope ["self", "board"] ["self", "board"] (defScope s_Wake_go_on) := ⟨rfl, rfl, rfl, by decide +kernel, rfl, by decide +kernel, by decide +kernel⟩
theorem ok_Wake_go_on {f : Addr} {fd : FuncData} (F : Fun K "go_on" "Wake.go_on" s_Wake_go_on f fd) (T : Tx K mg Γ) (m_compare : MF P w K mg base Γ.wake "compare" 7 ["self", "board"] (spCmp K Γ.wake (LWake K Γ) (spWWake K Γ) (spAtt Γ.wake (LWake K Γ) spJWake))) :
    FnOk P w K mg base CX0 8 f fd ["self", "board"] (spGo K Γ fun o => o = .wake) := by
  have sc := sc_Wake_go_on
  refine F.ok sc (fun vs H Q E h => ?_) (fun cdv A outer s H vs Q E hr h => ?_)
  · obtain ⟨_, _, _, _, _, rfl, _⟩ := h
    rfl
  · obtain ⟨p, F, B, o, a, rfl, rfl, hB, hO, hG, hA, k⟩ := h
    cases a with
    | waking m x =>
      obtain ⟨dx, fl, hp, hk⟩ := hG
      obtain ⟨hm1, hm3⟩ := hA
      have eG : LwPool.goesOn .wake (.waking m x) B = if B.event = x then (if x % 2 = 0 then .ends { B with event := x + 2 } (LwPool.num 0) else .ends { B with event := x + 1 } (LwPool.num 1)) else if m ≤ 1 then .ends B (LwPool.num (-2)) else LwPool.wakeTry (m - 1) B := rfl
      rw [eG] at k
      refine ⟨_, (pss_one (ps_ret (pe_mf m_compare (hr.mono (by decide)) (pv 0) (pa_cons (pv 1) pa_nil)))), ?_⟩
      refine ⟨_, rfl, p, dx, _, rfl, hp, (by walk_at "lk"), _, rfl, ?_⟩
      have c1 : Chg K (Own F p) H (upd H p (.ins Γ.wake dx (wakeF (fl + 1) (vi x)))) := chg_ins hp (.inr rfl)
      refine ⟨p, dx, .ref F.b, vi B.event, vi x, _, fl, _, .int B.event, .int x, rfl, hp, (by show 1 < 900; decide), (by walk_at "lk"), (by walk_at "lk"), (by walk_at "lk"), (by walk_at "lk"), (by walk_at "lk"), ⟨p, F, B, rfl, hB, rfl⟩, .int _, .int _, rfl, rfl, fun q => ?_, fun q q2 l hl => ?_, fun q q2 => ?_⟩
      · rw [eqv1] at q
        rw [if_pos (of_decide_eq_true q)] at k
        exact ⟨p, dx, F, B, x, fl, rfl, hB, hp, k⟩
      · rw [eqv1] at q
        rw [if_neg (of_decide_eq_false q), if_pos (by omega)] at k
        exact k _ _ (c1.trans (chg_new hl)) (Res.back c1 (res_end (F' := F) (hB.other hp) New.refl hl rfl (plAt_of (o := .wake) upd_same T.cl_wake T.n_wake_place)))
      · rw [eqv1] at q
        rw [if_neg (of_decide_eq_false q), if_neg (by omega)] at k
        exact att_wake (k := m - 1) (fl := fl + 1) (hB.other hp) upd_same (by omega) fun v H' c r => k v H' (c1.trans c) (Res.back c1 r)
    | _ => exact hA.elim
end
end Po

namespace Po
open PySem PySem.Spec PyProof.Rows L2
local macro_rules | `(tactic| walk_at "lk") => `(tactic| repeat (first | exact lk_hit | exact lk_nil | refine (lk_miss (by decide +kernel)).trans ?_))
local macro_rules | `(tactic| walk_at "put") => `(tactic| repeat (first | exact put_hit | exact put_nil | (apply put_miss; · decide +kernel)))
section
variable {P : Program} {w : World} {K : PySem.W.Frag} {mg : Str → Option Value} {base : Heap} {Γ : Cs} {H : Hp} {F : Ft} {B : LwPool.Board}
/-! ### clear -/
def LClear (K : PySem.W.Frag) (Γ : Cs) : List V → Hp → V → Prop := fun vs H v => ∃ (p : Addr) (F : Ft) (B : LwPool.Board) (t : Nat) (dx : Addr) (fl : Nat) (sv : V) (ds ta g j : Addr), vs = [.ref p, .ref F.b] ∧ BdAt K Γ H F B ∧ H p = some (.ins Γ.clear dx (clearF fl sv t)) ∧
  H (F.s (LwPool.slotOf t)) = some (.ins Γ.slot ds (slotF ta g (B.slot (LwPool.slotOf t)).count (B.slot (LwPool.slotOf t)).kind j (F.w (LwPool.slotOf t)))) ∧ v = .ref ta
abbrev s_Clear_look_up : Stmt := inClass (top 53) 3
theorem sc_Clear_look_up : FnScope ["self", "board"] ["self", "board"] (defScope s_Clear_look_up) := ⟨rfl, rfl, rfl, by decide +kernel, rfl, by decide +kernel, by decide +kernel⟩
theorem ok_Clear_look_up {f : Addr} {fd : FuncData} (F : Fun K "look_up" "Clear.look_up" s_Clear_look_up f fd) (T : Tx K mg Γ) (g_slot_of : GF P w K mg base "slot_of" 1 ["board", "ticket"] (spSlotOf K Γ)) : FnOk P w K mg base CX0 2 f fd ["self", "board"] (spPure (LClear K Γ)) := by
  have sc := sc_Clear_look_up
  refine F.ok sc (fun vs H Q E h => h.1) (fun cdv A outer s H vs Q E hr h => ?_)
  obtain ⟨_, v, ⟨p, F, B, t, dx, fl, sv, ds, ta, g, j, rfl, hB, hp, hs, rfl⟩, k⟩ := h
  refine ⟨_, (pss_one (ps_ret (pe_fld (pe_gf g_slot_of (hr.mono (by decide)) rfl (pa_cons (pv 1) (pa_cons (pe_fld (pv 0) rfl) pa_nil))) rfl))), ?_⟩
  exact ⟨_, rfl, _, rfl, p, Γ.clear, dx, _, _, rfl, hp, T.cl_clear, T.n_clear_ticket, (by walk_at "lk"), F, B, t, rfl, hB, _, Γ.slot, ds, _, _, rfl, hs, T.cl_slot, T.n_slot_state, (by walk_at "lk"), k⟩
def spJClear (K : PySem.W.Frag) (Γ : Cs) : Sp := fun vs H Q _ => ∃ (p dx a : Addr) (fl t : Nat) (v : LwPool.Phase), vs = [.ref p] ∧ H p = some (.ins Γ.clear dx (clearF fl (.ref a) t)) ∧ PhT K H a v ∧
  (v = ⟨LwPool.stampOf t, 4⟩ → ∀ H', Same H H' → Q .non H') ∧ (v ≠ ⟨LwPool.stampOf t, 4⟩ → ∀ H1 l, Same H H1 → H1 l = none → Q (.ref l) (upd H1 l (.lst [.int (-1)])))
theorem eqvPh (v : LwPool.Phase) (c d : Nat) : PyData.eqv (.tuple [.int v.stamp, .int v.phase]) (.tuple [.int c, .int d]) = true ↔ v = ⟨c, d⟩ := by
  rw [eqv2]
  cases v
  simp
abbrev s_Clear_judge : Stmt := inClass (top 53) 4
theorem sc_Clear_judge : FnScope ["self"] ["self"] (defScope s_Clear_judge) := ⟨rfl, rfl, rfl, by decide +kernel, rfl, by decide +kernel, by decide +kernel⟩
theorem ok_Clear_judge {f : Addr} {fd : FuncData} (F : Fun K "judge" "Clear.judge" s_Clear_judge f fd) (T : Tx K mg Γ) : FnOk P w K mg base CX0 1 f fd ["self"] (spJClear K Γ) := by
  have sc := sc_Clear_judge
  refine F.ok sc (fun vs H Q E h => ?_) (fun cdv A outer s H vs Q E hr h => ?_)
  · obtain ⟨_, _, _, _, _, _, rfl, _⟩ := h
    rfl
  · obtain ⟨p, dx, a, fl, t, v, rfl, hp, ha, k1, k2⟩ := h
    refine ⟨_, (pss_cons (ps_if (pt_cmpR (op_eqD hr.units) (pe_fld (pv 0) rfl) (pe_tup (pa_cons (pe_fld (pv 0) rfl) (pa_cons (pe_gv T.g_PHASE_FINISHED rfl) pa_nil))) (nomark _))
        (pss_one (ps_ret (pe_gv T.g_GAP rfl)))
        pss_nil)
      (pss_one (ps_ret (pe_lst (pa_cons (pe_gv T.g_NOT_THERE rfl) pa_nil))))), ?_⟩
    refine ⟨_, rfl, p, Γ.clear, dx, _, _, rfl, hp, T.cl_clear, T.n_clear_seen, (by walk_at "lk"), _, rfl, p, Γ.clear, dx, _, _, rfl, hp, T.cl_clear, T.n_clear_stamp, (by walk_at "lk"), (by show 2 ≤ sizeLine; decide), fun q hq => ?_⟩
    have s1 : Same H (upd H q (.tup [vi (LwPool.stampOf t), .int 4])) := Same.new hq
    refine ⟨.tuple [.int v.stamp, .int v.phase], .tuple [.int (LwPool.stampOf t), .int (4 : Nat)], .tup (tup_same s1 ha) (.cons (.int _) (.cons (.int _) .nil)), .tup (SqT.of upd_same) (.cons (.int _) (.cons (.int _) .nil)), rfl, rfl, _, rfl, ifB (fun z => ?_) (fun z => ?_)⟩
    · exact k1 ((eqvPh _ _ _).mp z) _ s1
    · exact ⟨(by show 1 ≤ sizeLine; decide), fun l hl => k2 (fun e => by rw [(eqvPh _ _ _).mpr e] at z; cases z) _ l s1 hl⟩
def spWClear (K : PySem.W.Frag) (Γ : Cs) : Sp := fun vs H Q _ => ∃ (p dx : Addr) (F : Ft) (B : LwPool.Board) (t fl : Nat) (sv : V), vs = [.ref p, .ref F.b] ∧ BdAt K Γ H F B ∧ BOk B ∧ H p = some (.ins Γ.clear dx (clearF fl sv t)) ∧
  ∀ v H', Chg K (Own F p) H H' → Res K Γ H F p (.clear t) v H' (.ends (B.with_ (LwPool.slotOf t) { B.slot (LwPool.slotOf t) with state := ⟨LwPool.stampOf t + 1, 0⟩ }) (LwPool.num 0)) → Q v H'
abbrev s_Clear_write : Stmt := inClass (top 53) 5
theorem sc_Clear_write : FnScope ["self", "board", "slot"] ["self", "board"] (defScope s_Clear_write) := ⟨rfl, rfl, rfl, by decide +kernel, rfl, by decide +kernel, by decide +kernel⟩
theorem ok_Clear_write {f : Addr} {fd : FuncData} (F : Fun K "write" "Clear.write" s_Clear_write f fd) (T : Tx K mg Γ) (g_slot_of : GF P w K mg base "slot_of" 1 ["board", "ticket"] (spSlotOf K Γ)) : FnOk P w K mg base CX0 2 f fd ["self", "board"] (spWClear K Γ) := by
  have sc := sc_Clear_write
  refine F.ok sc (fun vs H Q E h => ?_) (fun cdv A outer s H vs Q E hr h => ?_)
  · obtain ⟨_, _, _, _, _, _, _, rfl, _⟩ := h
    rfl
  · obtain ⟨p, dx, F, B, t, fl, sv, rfl, hB, hO, hp, k⟩ := h
    have hi := slotOf_lt t
    obtain ⟨ds, ta, g, j, hs, ht, hn, hj⟩ := (hB.at_ _ hi).ob
    refine ⟨_, (pss_cons (ps_set (i := 2) sc.nd rfl (Or.inl rfl) (pe_gf g_slot_of (hr.mono (by decide)) rfl (pa_cons (pv 1) (pa_cons (pe_fld (pv 0) rfl) pa_nil))))
      (pss_cons (ps_fldP (pv 2) (pe_tup (pa_cons (pe_op op_add (pe_fld (pv 0) rfl) pe_int) (pa_cons (pe_gv T.g_PHASE_FREE rfl) pa_nil))) rfl)
      (pss_one (ps_ret (pe_lst (pa_cons pe_int pa_nil)))))), ?_⟩
    refine ⟨_, rfl, _, rfl, p, Γ.clear, dx, _, _, rfl, hp, T.cl_clear, T.n_clear_ticket, (by walk_at "lk"), F, B, t, rfl, hB, _, rfl, p, Γ.clear, dx, _, _, rfl, hp, T.cl_clear, T.n_clear_stamp, (by walk_at "lk"), _, _, rfl, rfl, (by show 2 ≤ sizeLine; decide), fun q hq => ?_⟩
    obtain ⟨F', hB', hN⟩ := hB.setState hO hi (q := q) (v := ⟨LwPool.stampOf t + 1, 0⟩) hs hn hj hq
    have nps : p ≠ F.s (LwPool.slotOf t) := fun z => own_ins hB hp (.inr (.inr (.inl ⟨_, hi, z⟩)))
    refine ⟨_, rfl, F.s (LwPool.slotOf t), Γ.slot, ds, _, rfl, keep_new hs hq, T.cl_slot, T.n_slot_state, (by show 6 < 1000; decide), _, (by walk_at "put"), (by show 1 ≤ sizeLine; decide), fun l hl => ?_⟩
    exact k _ _ (((chg_new hq).trans (chg_ins (keep_new hs hq) (own_s hi))).trans (chg_new hl)) (res_end hB' hN hl rfl (plAt_of (o := .clear t) (by rw [upd_ne nps]; exact keep_new hp hq) T.cl_clear T.n_clear_place))
theorem att_clear (T : Tx K mg Γ) {p dx : Addr} {sv : V} {fl k t : Nat} {Q : VK} (hB : BdAt K Γ H F B) (hp : H p = some (.ins Γ.clear dx (clearF fl sv t))) (hk : fl + k = 3) (h : ∀ v H', Chg K (Own F p) H H' → Res K Γ H F p (.clear t) v H' (LwPool.clearTry t k B) → Q v H') :
    spAtt Γ.clear (LClear K Γ) (spJClear K Γ) [.ref p, .ref F.b] H Q E0 := by
  have hi := slotOf_lt t
  obtain ⟨ds, ta, g, j, hs, ht, hn, hj⟩ := (hB.at_ _ hi).ob
  have c1 : Chg K (Own F p) H (upd H p (.ins Γ.clear dx (clearF fl (.ref ta) t))) := chg_ins hp (.inr rfl)
  refine ⟨p, dx, .ref F.b, .ref ta, _, _, rfl, hp, (by walk_at "lk"), ⟨p, F, B, t, dx, fl, sv, ds, ta, g, j, rfl, hB, hp, hs, rfl⟩, (by show 5 < 1000; decide), (by walk_at "put"), (by walk_at "lk"), p, dx, ta, fl, t, (B.slot (LwPool.slotOf t)).state, rfl, upd_same, ht.chg c1, fun e H' s1 => ?_, fun e H1 l s1 hl => ?_⟩
  · refine h _ _ (c1.trans s1.chg) ?_
    have eT : LwPool.clearTry t k B = .gap B (.clearing k (B.slot (LwPool.slotOf t)).state) := if_pos (isAt_iff.mpr e)
    rw [eT]
    exact ⟨rfl, F, (hB.other hp).same s1, New.refl, dx, ta, fl, s1 _ _ upd_same, (ht.chg c1).chg (X := Own F p) s1.chg, hk⟩
  · refine h _ _ ((c1.trans s1.chg).trans (chg_new hl)) ?_
    have eT : LwPool.clearTry t k B = .ends B (LwPool.num (-1)) := if_neg fun z => e (isAt_iff.mp z)
    rw [eT]
    exact res_end (F' := F) ((hB.other hp).same s1) New.refl hl rfl (plAt_of (o := .clear t) (s1 _ _ upd_same) T.cl_clear T.n_clear_place)
abbrev s_Clear_begin : Stmt := inClass (top 53) 1
theorem sc_Clear_begin : FnScope ["self", "board"] ["self", "board"] (defScope s_Clear_begin) := ⟨rfl, rfl, rfl, by decide +kernel, rfl, by decide +kernel, by decide +kernel⟩
theorem ok_Clear_begin {f : Addr} {fd : FuncData} (F : Fun K "begin" "Clear.begin" s_Clear_begin f fd) (T : Tx K mg Γ) (m_attempt : MF P w K mg base Γ.clear "attempt" 4 ["self", "board"] (spAtt Γ.clear (LClear K Γ) (spJClear K Γ))) : FnOk P w K mg base CX0 5 f fd ["self", "board"] (spBegin K Γ fun o => ∃ t, o = .clear t) := by
  have sc := sc_Clear_begin
  refine F.ok sc (fun vs H Q E h => ?_) (fun cdv A outer s H vs Q E hr h => ?_)
  · obtain ⟨_, _, _, _, rfl, _⟩ := h
    rfl
  · obtain ⟨p, F, B, o, rfl, ⟨t, rfl⟩, hB, hO, ⟨dx, hp⟩, k⟩ := h
    refine ⟨_, (pss_one (ps_ret (pe_mf m_attempt (hr.mono (by decide)) (pv 0) (pa_cons (pv 1) pa_nil)))), ?_⟩
    exact ⟨_, rfl, p, dx, _, rfl, hp, (by walk_at "lk"), _, rfl, att_clear T hB hp rfl k⟩
theorem eqvPP (v u : LwPool.Phase) : PyData.eqv (.tuple [.int v.stamp, .int v.phase]) (.tuple [.int u.stamp, .int u.phase]) = LwPool.samePhase v u := by
  rw [eqv2]
  rfl
abbrev s_Clear_go_on : Stmt := inClass (top 53) 2
theorem sc_Clear_go_on : FnScope ["self", "board"] ["self", "board"] (defScope s_Clear_go_on) := ⟨rfl, rfl, rfl, by decide +kernel, rfl, by decide +kernel, by decide +kernel⟩
theorem ok_Clear_go_on {f : Addr} {fd : FuncData} (F : Fun K "go_on" "Clear.go_on" s_Clear_go_on f fd) (T : Tx K mg Γ) (m_compare : MF P w K mg base Γ.clear "compare" 7 ["self", "board"] (spCmp K Γ.clear (LClear K Γ) (spWClear K Γ) (spAtt Γ.clear (LClear K Γ) (spJClear K Γ)))) :
    FnOk P w K mg base CX0 8 f fd ["self", "board"] (spGo K Γ fun o => ∃ t, o = .clear t) := by
  have sc := sc_Clear_go_on
  refine F.ok sc (fun vs H Q E h => ?_) (fun cdv A outer s H vs Q E hr h => ?_)
  · obtain ⟨_, _, _, _, _, rfl, _⟩ := h
    rfl
  · obtain ⟨p, F, B, o, a, rfl, ⟨t, rfl⟩, hB, hO, hG, hA, k⟩ := h
    cases a with
    | clearing m v =>
      obtain ⟨dx, sa, fl, hp, hv, hk⟩ := hG
      obtain ⟨hm1, hm3, hvv⟩ := hA
      have hi := slotOf_lt t
      obtain ⟨ds, ta, g, j, hs, ht, hn, hj⟩ := (hB.at_ _ hi).ob
      have eG : LwPool.goesOn (.clear t) (.clearing m v) B = if LwPool.samePhase (B.slot (LwPool.slotOf t)).state v = true then .ends (B.with_ (LwPool.slotOf t) { B.slot (LwPool.slotOf t) with state := ⟨LwPool.stampOf t + 1, 0⟩ }) (LwPool.num 0) else if m ≤ 1 then .ends B (LwPool.num (-2)) else LwPool.clearTry t (m - 1) B := rfl
      rw [eG] at k
      refine ⟨_, (pss_one (ps_ret (pe_mf m_compare (hr.mono (by decide)) (pv 0) (pa_cons (pv 1) pa_nil)))), ?_⟩
      refine ⟨_, rfl, p, dx, _, rfl, hp, (by walk_at "lk"), _, rfl, ?_⟩
      have c1 : Chg K (Own F p) H (upd H p (.ins Γ.clear dx (clearF (fl + 1) (.ref sa) t))) := chg_ins hp (.inr rfl)
      refine ⟨p, dx, .ref F.b, .ref ta, .ref sa, _, fl, _, .tuple [.int (B.slot (LwPool.slotOf t)).state.stamp, .int (B.slot (LwPool.slotOf t)).state.phase], .tuple [.int v.stamp, .int v.phase], rfl, hp, (by show 3 < 900; decide), (by walk_at "lk"), (by walk_at "lk"), (by walk_at "lk"), (by walk_at "lk"), (by walk_at "lk"),
        ⟨p, F, B, t, dx, fl, .ref sa, ds, ta, g, j, rfl, hB, hp, hs, rfl⟩, .tup ht (.cons (.int _) (.cons (.int _) .nil)), .tup hv (.cons (.int _) (.cons (.int _) .nil)), rfl, rfl, fun q => ?_, fun q q2 l hl => ?_, fun q q2 => ?_⟩
      · rw [eqvPP] at q
        rw [if_pos q] at k
        exact ⟨p, dx, F, B, t, fl, .ref sa, rfl, hB, hO, hp, k⟩
      · rw [eqvPP] at q
        rw [if_neg (by rw [q]; exact Bool.false_ne_true), if_pos (by omega)] at k
        exact k _ _ (c1.trans (chg_new hl)) (Res.back c1 (res_end (F' := F) (hB.other hp) New.refl hl rfl (plAt_of (o := .clear t) upd_same T.cl_clear T.n_clear_place)))
      · rw [eqvPP] at q
        rw [if_neg (by rw [q]; exact Bool.false_ne_true), if_neg (by omega)] at k
        exact att_clear T (k := m - 1) (fl := fl + 1) (hB.other hp) upd_same (by omega) fun v H' c r => k v H' (c1.trans c) (Res.back c1 r)
    | _ => exact hA.elim
/-! ### again -/
theorem isAt2 {t : Nat} : (B.isAt t 2 = false) ↔ ¬ (B.isAt t 2 = true) := by cases B.isAt t 2 <;> simp
theorem find_none_snoc {p : Nat → Bool} {i : Nat} (h : (List.range i).find? p = none) (hp : p i = false) : (List.range (i + 1)).find? p = none := by
  rw [List.range_succ, List.find?_append, h]
  simp [hp]
theorem find_some {p : Nat → Bool} {n i : Nat} (h : (List.range i).find? p = none) (hp : p i = true) (hi : i < n) : (List.range n).find? p = some i := by
  have e : List.range n = List.range i ++ (List.range (n - i)).map (i + ·) := by
    have := List.range_add (n := i) (m := n - i)
    rw [← this]
    congr 1
    omega
  rw [e, List.find?_append, h]
  have : n - i = (n - i - 1) + 1 := by omega
  rw [this, List.range_succ_eq_map]
  simp [hp]
abbrev s_Again_begin : Stmt := inClass (top 38) 1
theorem sc_Again_begin : FnScope ["self", "board", "slot", "k"] ["self", "board"] (defScope s_Again_begin) := ⟨rfl, rfl, rfl, by decide +kernel, rfl, by decide +kernel, by decide +kernel⟩
theorem ok_Again_begin {f : Addr} {fd : FuncData} (F : Fun K "begin" "Again.begin" s_Again_begin f fd) (T : Tx K mg Γ) (g_has_phase : GF P w K mg base "has_phase" 2 ["board", "ticket", "phase"] (spHas K Γ)) (g_slot_of : GF P w K mg base "slot_of" 1 ["board", "ticket"] (spSlotOf K Γ))
    (g_given_of : GF P w K mg base "given_of" 1 ["slot"] (spGiven K Γ)) (g_is_done : GF P w K mg base "is_done" 2 ["slot", "k"] (spDone K Γ)) : FnOk P w K mg base CX0 3 f fd ["self", "board"] (spBegin K Γ fun o => ∃ t, o = .again t) := by
  have sc := sc_Again_begin
  refine F.ok sc (fun vs H Q E h => ?_) (fun cdv A outer s H vs Q E hr h => ?_)
  · obtain ⟨_, _, _, _, rfl, _⟩ := h
    rfl
  · obtain ⟨p, F, B, o, rfl, ⟨t, rfl⟩, hB, hO, ⟨dx, hp⟩, k⟩ := h
    refine ⟨_, (pss_cons (ps_if (pt_not (pt_val (pe_gf g_has_phase (hr.mono (by decide)) rfl (pa_cons (pv 1) (pa_cons (pe_fld (pv 0) rfl) (pa_cons (pe_gv T.g_PHASE_OPEN rfl) pa_nil))))))
        (pss_one (ps_ret (pe_lst (pa_cons (pe_gv T.g_NOT_THERE rfl) pa_nil))))
        pss_nil)
      (pss_cons (ps_set (i := 2) sc.nd rfl (Or.inl rfl) (pe_gf g_slot_of (hr.mono (by decide)) rfl (pa_cons (pv 1) (pa_cons (pe_fld (pv 0) rfl) pa_nil))))
      (pss_cons (ps_for PassesOwn.never rfl (pi_range1 rfl T.b_range (pa_cons (pe_gf g_given_of (hr.mono (by decide)) rfl (pa_cons (pv 2) pa_nil)) pa_nil)) (pg_name (i := 3) sc.nd rfl (Or.inl rfl))
        (pss_one (ps_if (pt_not (pt_val (pe_gf g_is_done (hr.mono (by decide)) rfl (pa_cons (pv 2) (pa_cons (pv 3) pa_nil)))))
        (pss_one (ps_ret (pe_lst (pa_cons pe_int (pa_cons (pv 3) pa_nil)))))
        pss_nil)))
      (pss_one (ps_ret (pe_lst (pa_cons pe_int (pa_cons pe_int pa_nil)))))))), ?_⟩
    have hi := slotOf_lt t
    have eB : LwPool.begins (.again t) B = .ends B (if B.isAt t 2 = false then LwPool.num (-1) else match (List.range (min LwPool.MOST (B.slot (LwPool.slotOf t)).taken)).find? fun (k : Nat) => !(B.slot (LwPool.slotOf t)).isDone k with
      | some k => LwPool.nums 1 [k]
      | none => LwPool.nums 0 [0]) := rfl
    rw [eB] at k
    have hmin : min LwPool.MOST (B.slot (LwPool.slotOf t)).taken = (B.slot (LwPool.slotOf t)).taken := by
      have := taken_le (hO.sl _ hi)
      unfold LwPool.MOST
      omega
    rw [hmin] at k
    have htk := taken_le (hO.sl _ hi)
    refine ⟨_, rfl, _, rfl, p, Γ.again, dx, _, _, rfl, hp, T.cl_again, T.n_again_ticket, (by walk_at "lk"), F, B, t, 2, rfl, hB, fun H1 s1 => ⟨_, rfl, ifN (fun q => ?_) (fun q => ?_)⟩⟩
    · rw [if_pos q] at k
      refine ⟨(by show 1 ≤ sizeLine; decide), fun l hl => k _ _ (s1.chg.trans (chg_new hl)) (res_end (F' := F) (hB.same s1) New.refl hl rfl (plAt_of (o := .again t) (s1 _ _ hp) T.cl_again T.n_again_place))⟩
    · rw [if_neg (by rw [q]; exact fun z => nomatch z)] at k
      have hB1 := hB.same s1
      have hp1 := s1 _ _ hp
      refine ⟨_, rfl, _, rfl, p, Γ.again, dx, _, _, rfl, hp1, T.cl_again, T.n_again_ticket, (by walk_at "lk"), F, B, t, rfl, hB1, _, rfl, _, _, _, rfl, hB1.at_ _ hi, _, rfl, (by omega), (by omega), ?_⟩
      refine for_range (n := ((B.slot (LwPool.slotOf t)).taken : Int).toNat) (fun i σ H2 => ∃ v : Option V, σ = [some (.ref p), some (.ref F.b), some (.ref (F.s (LwPool.slotOf t))), v] ∧ H2 = H1 ∧ (List.range i).find? (fun (k : Nat) => !(B.slot (LwPool.slotOf t)).isDone k) = none) ⟨none, rfl, rfl, rfl⟩ ?_ ?_
      · rintro i σ H2 hi2 ⟨v, rfl, rfl, hf⟩
        rw [Int.toNat_natCast] at hi2
        refine ⟨_, rfl, _, rfl, _, _, _, i, ?_, hB1.at_ _ hi, hO.sl _ hi, (by omega), _, rfl, ifN (fun q2 => ?_) (fun q2 => ?_)⟩
        · show ([V.ref (F.s (LwPool.slotOf t)), V.int (0 + (i : Int))] : List V) = [V.ref (F.s (LwPool.slotOf t)), vi i]
          rw [Int.zero_add]
        · rw [find_some hf (by rw [q2]; rfl) hi2] at k
          refine ⟨_, rfl, (by show 2 ≤ sizeLine; decide), fun l hl => k _ _ (s1.chg.trans (chg_new hl)) (res_end (F' := F) hB1 New.refl hl ?_ (plAt_of (o := .again t) hp1 T.cl_again T.n_again_place))⟩
          rw [Int.zero_add]
          rfl
        · exact ⟨_, rfl, rfl, find_none_snoc hf (by rw [q2]; rfl)⟩
      · rintro σ H2 ⟨v, rfl, rfl, hf⟩
        rw [Int.toNat_natCast] at hf
        rw [hf] at k
        exact ⟨(by show 2 ≤ sizeLine; decide), fun l hl => k _ _ (s1.chg.trans (chg_new hl)) (res_end (F' := F) hB1 New.refl hl rfl (plAt_of (o := .again t) hp1 T.cl_again T.n_again_place))⟩
end
end Po

namespace Po
open PySem PySem.Spec PyProof.Rows L2
local macro_rules | `(tactic| walk_at "lk") => `(tactic| repeat (first | exact lk_hit | exact lk_nil | refine (lk_miss (by decide +kernel)).trans ?_))
local macro_rules | `(tactic| walk_at "put") => `(tactic| repeat (first | exact put_hit | exact put_nil | (apply put_miss; · decide +kernel)))
section
variable {P : Program} {w : World} {K : PySem.W.Frag} {mg : Str → Option Value} {base : Heap} {Γ : Cs} {H : Hp} {F : Ft} {B : LwPool.Board}
/-! ### look -/
def spLookEnd (K : PySem.W.Frag) (Γ : Cs) : Sp := fun vs H Q _ => ∃ (p dx : Addr) (F : Ft) (B : LwPool.Board) (t : Nat) (n : Int), vs = [.ref p, .ref F.b, .int n] ∧ BdAt K Γ H F B ∧ BOk B ∧ H p = some (.ins Γ.look dx (tickF 5 t)) ∧
  ∀ H1 l, Same H H1 → H1 l = none → Q (.ref l) (upd H1 l (.lst [.int n, vi (B.slot (LwPool.slotOf t)).taken, vi (B.slot (LwPool.slotOf t)).doneCount]))
abbrev s_Look_ended : Stmt := inClass (top 39) 3
theorem sc_Look_ended : FnScope ["self", "board", "number", "slot"] ["self", "board", "number"] (defScope s_Look_ended) := ⟨rfl, rfl, rfl, by decide +kernel, rfl, by decide +kernel, by decide +kernel⟩
theorem ok_Look_ended {f : Addr} {fd : FuncData} (F : Fun K "ended" "Look.ended" s_Look_ended f fd) (T : Tx K mg Γ) (g_slot_of : GF P w K mg base "slot_of" 1 ["board", "ticket"] (spSlotOf K Γ)) (g_given_of : GF P w K mg base "given_of" 1 ["slot"] (spGiven K Γ))
    (g_count_done : GF P w K mg base "count_done" 3 ["slot"] (spCount K Γ)) : FnOk P w K mg base CX0 4 f fd ["self", "board", "number"] (spLookEnd K Γ) := by
  have sc := sc_Look_ended
  refine F.ok sc (fun vs H Q E h => ?_) (fun cdv A outer s H vs Q E hr h => ?_)
  · obtain ⟨_, _, _, _, _, _, rfl, _⟩ := h
    rfl
  · obtain ⟨p, dx, F, B, t, n, rfl, hB, hO, hp, k⟩ := h
    have hi := slotOf_lt t
    refine ⟨_, (pss_cons (ps_set (i := 3) sc.nd rfl (Or.inl rfl) (pe_gf g_slot_of (hr.mono (by decide)) rfl (pa_cons (pv 1) (pa_cons (pe_fld (pv 0) rfl) pa_nil))))
      (pss_one (ps_ret (pe_lst (pa_cons (pv 2) (pa_cons (pe_gf g_given_of (hr.mono (by decide)) rfl (pa_cons (pv 3) pa_nil)) (pa_cons (pe_gf g_count_done (hr.mono (by decide)) rfl (pa_cons (pv 3) pa_nil)) pa_nil))))))), ?_⟩
    exact ⟨_, rfl, _, rfl, p, Γ.look, dx, _, _, rfl, hp, T.cl_look, T.n_look_ticket, (by walk_at "lk"), F, B, t, rfl, hB, _, rfl, _, rfl, _, _, _, rfl, hB.at_ _ hi, _, rfl, _, _, _, rfl, hB.at_ _ hi, hO.sl _ hi, fun H1 s1 => ⟨(by show 3 ≤ sizeLine; decide), fun l hl => k H1 l s1 hl⟩⟩
abbrev s_Look_begin : Stmt := inClass (top 39) 1
theorem sc_Look_begin : FnScope ["self", "board"] ["self", "board"] (defScope s_Look_begin) := ⟨rfl, rfl, rfl, by decide +kernel, rfl, by decide +kernel, by decide +kernel⟩
theorem ok_Look_begin {f : Addr} {fd : FuncData} (F : Fun K "begin" "Look.begin" s_Look_begin f fd) (T : Tx K mg Γ) (g_has_phase : GF P w K mg base "has_phase" 2 ["board", "ticket", "phase"] (spHas K Γ)) (g_slot_of : GF P w K mg base "slot_of" 1 ["board", "ticket"] (spSlotOf K Γ))
    (g_is_complete : GF P w K mg base "is_complete" 4 ["slot"] (spComplete K Γ)) (m_ended : MF P w K mg base Γ.look "ended" 4 ["self", "board", "number"] (spLookEnd K Γ)) : FnOk P w K mg base CX0 5 f fd ["self", "board"] (spBegin K Γ fun o => ∃ t, o = .look t) := by
  have sc := sc_Look_begin
  refine F.ok sc (fun vs H Q E h => ?_) (fun cdv A outer s H vs Q E hr h => ?_)
  · obtain ⟨_, _, _, _, rfl, _⟩ := h
    rfl
  · obtain ⟨p, F, B, o, rfl, ⟨t, rfl⟩, hB, hO, ⟨dx, hp⟩, k⟩ := h
    have hi := slotOf_lt t
    have eB : LwPool.begins (.look t) B = if B.isAt t 4 = true then .ends B (LwPool.nums 1 (LwPool.seen (B.slot (LwPool.slotOf t)))) else if B.isAt t 2 = false then .ends B (LwPool.num (-1)) else if (B.slot (LwPool.slotOf t)).complete = true then .gap B .looking else .ends B (LwPool.nums 0 (LwPool.seen (B.slot (LwPool.slotOf t)))) := rfl
    rw [eB] at k
    refine ⟨_, (pss_cons (ps_if (pt_val (pe_gf g_has_phase (hr.mono (by decide)) rfl (pa_cons (pv 1) (pa_cons (pe_fld (pv 0) rfl) (pa_cons (pe_gv T.g_PHASE_FINISHED rfl) pa_nil)))))
        (pss_one (ps_ret (pe_mf m_ended (hr.mono (by decide)) (pv 0) (pa_cons (pv 1) (pa_cons pe_int pa_nil)))))
        pss_nil)
      (pss_cons (ps_if (pt_not (pt_val (pe_gf g_has_phase (hr.mono (by decide)) rfl (pa_cons (pv 1) (pa_cons (pe_fld (pv 0) rfl) (pa_cons (pe_gv T.g_PHASE_OPEN rfl) pa_nil))))))
        (pss_one (ps_ret (pe_lst (pa_cons (pe_gv T.g_NOT_THERE rfl) pa_nil))))
        pss_nil)
      (pss_cons (ps_if (pt_val (pe_gf g_is_complete (hr.mono (by decide)) rfl (pa_cons (pe_gf g_slot_of (hr.mono (by decide)) rfl (pa_cons (pv 1) (pa_cons (pe_fld (pv 0) rfl) pa_nil))) pa_nil)))
        (pss_one (ps_ret (pe_gv T.g_GAP rfl)))
        pss_nil)
      (pss_one (ps_ret (pe_mf m_ended (hr.mono (by decide)) (pv 0) (pa_cons (pv 1) (pa_cons pe_int pa_nil)))))))), ?_⟩
    refine ⟨_, rfl, _, rfl, p, Γ.look, dx, _, _, rfl, hp, T.cl_look, T.n_look_ticket, (by walk_at "lk"), F, B, t, 4, rfl, hB, fun H1 s1 => ⟨_, rfl, ifB (fun q => ?_) (fun q => ?_)⟩⟩
    · rw [if_pos q] at k
      exact ⟨_, rfl, p, dx, _, rfl, s1 _ _ hp, (by walk_at "lk"), _, rfl, p, dx, F, B, t, 1, rfl, hB.same s1, hO, s1 _ _ hp, fun H2 l s2 hl => k _ _ ((s1.trans s2).chg.trans (chg_new hl)) (res_end (F' := F) (hB.same (s1.trans s2)) New.refl hl rfl (plAt_of (o := .look t) ((s1.trans s2) _ _ hp) T.cl_look T.n_look_place))⟩
    · rw [if_neg (by rw [q]; exact Bool.false_ne_true)] at k
      refine ⟨_, rfl, _, rfl, p, Γ.look, dx, _, _, rfl, s1 _ _ hp, T.cl_look, T.n_look_ticket, (by walk_at "lk"), F, B, t, 2, rfl, hB.same s1, fun H2 s2 => ⟨_, rfl, ifN (fun q2 => ?_) (fun q2 => ?_)⟩⟩
      · rw [if_pos q2] at k
        exact ⟨(by show 1 ≤ sizeLine; decide), fun l hl => k _ _ ((s1.trans s2).chg.trans (chg_new hl)) (res_end (F' := F) (hB.same (s1.trans s2)) New.refl hl rfl (plAt_of (o := .look t) ((s1.trans s2) _ _ hp) T.cl_look T.n_look_place))⟩
      · rw [if_neg (by rw [q2]; exact fun z => nomatch z)] at k
        have s12 := s1.trans s2
        refine ⟨_, rfl, _, rfl, p, Γ.look, dx, _, _, rfl, s12 _ _ hp, T.cl_look, T.n_look_ticket, (by walk_at "lk"), F, B, t, rfl, hB.same s12, _, _, _, rfl, (hB.same s12).at_ _ hi, hO.sl _ hi, fun H3 s3 => ⟨_, rfl, ifB (fun q3 => ?_) (fun q3 => ?_)⟩⟩
        · rw [if_pos q3] at k
          exact k _ _ (s12.trans s3).chg ⟨rfl, F, hB.same (s12.trans s3), New.refl, dx, (s12.trans s3) _ _ hp⟩
        · rw [if_neg (by rw [q3]; exact Bool.false_ne_true)] at k
          have s13 := s12.trans s3
          exact ⟨_, rfl, p, dx, _, rfl, s13 _ _ hp, (by walk_at "lk"), _, rfl, p, dx, F, B, t, 0, rfl, hB.same s13, hO, s13 _ _ hp, fun H4 l s4 hl => k _ _ ((s13.trans s4).chg.trans (chg_new hl)) (res_end (F' := F) (hB.same (s13.trans s4)) New.refl hl rfl (plAt_of (o := .look t) ((s13.trans s4) _ _ hp) T.cl_look T.n_look_place))⟩
theorem bok_with {i : Nat} {s : LwPool.Slot} (hO : BOk B) (hi : i < 2) (hs : SlotOk s) : BOk (B.with_ i s) := by
  have hl : i < B.slots.length := by rw [hO.len]; exact hi
  refine ⟨by rw [len_with]; exact hO.len, fun j hj => ?_⟩
  rw [slot_with B i j s hl]
  split
  · exact hs
  · exact hO.sl j hj
theorem slot_at {i : Nat} {s : LwPool.Slot} (hO : BOk B) (hi : i < 2) : (B.with_ i s).slot i = s := by
  rw [slot_with B i i s (by rw [hO.len]; exact hi), if_pos rfl]
abbrev s_Look_go_on : Stmt := inClass (top 39) 2
theorem sc_Look_go_on : FnScope ["self", "board", "slot"] ["self", "board"] (defScope s_Look_go_on) := ⟨rfl, rfl, rfl, by decide +kernel, rfl, by decide +kernel, by decide +kernel⟩
theorem ok_Look_go_on {f : Addr} {fd : FuncData} (F : Fun K "go_on" "Look.go_on" s_Look_go_on f fd) (T : Tx K mg Γ) (g_has_phase : GF P w K mg base "has_phase" 2 ["board", "ticket", "phase"] (spHas K Γ)) (g_slot_of : GF P w K mg base "slot_of" 1 ["board", "ticket"] (spSlotOf K Γ))
    (g_stamp_of : GF P w K mg base "stamp_of" 1 ["ticket"] spStamp) (m_ended : MF P w K mg base Γ.look "ended" 4 ["self", "board", "number"] (spLookEnd K Γ)) : FnOk P w K mg base CX0 5 f fd ["self", "board"] (spGo K Γ fun o => ∃ t, o = .look t) := by
  have sc := sc_Look_go_on
  refine F.ok sc (fun vs H Q E h => ?_) (fun cdv A outer s H vs Q E hr h => ?_)
  · obtain ⟨_, _, _, _, _, rfl, _⟩ := h
    rfl
  · obtain ⟨p, F, B, o, a, rfl, ⟨t, rfl⟩, hB, hO, hG, hA, k⟩ := h
    cases a with
    | looking =>
      obtain ⟨dx, hp⟩ := hG
      have hi := slotOf_lt t
      have eG : LwPool.goesOn (.look t) .looking B = if B.isAt t 2 = true then .ends (B.with_ (LwPool.slotOf t) { B.slot (LwPool.slotOf t) with state := ⟨LwPool.stampOf t, 4⟩ }) (LwPool.nums 1 (LwPool.seen (B.slot (LwPool.slotOf t)))) else if B.isAt t 4 = true then .ends B (LwPool.nums 1 (LwPool.seen (B.slot (LwPool.slotOf t)))) else .ends B (LwPool.num (-1)) := rfl
      rw [eG] at k
      refine ⟨_, (pss_cons (ps_set (i := 2) sc.nd rfl (Or.inl rfl) (pe_gf g_slot_of (hr.mono (by decide)) rfl (pa_cons (pv 1) (pa_cons (pe_fld (pv 0) rfl) pa_nil))))
      (pss_cons (ps_if (pt_val (pe_gf g_has_phase (hr.mono (by decide)) rfl (pa_cons (pv 1) (pa_cons (pe_fld (pv 0) rfl) (pa_cons (pe_gv T.g_PHASE_OPEN rfl) pa_nil)))))
        (pss_one (ps_fldP (pv 2) (pe_tup (pa_cons (pe_gf g_stamp_of (hr.mono (by decide)) rfl (pa_cons (pe_fld (pv 0) rfl) pa_nil)) (pa_cons (pe_gv T.g_PHASE_FINISHED rfl) pa_nil))) rfl))
        pss_nil)
      (pss_cons (ps_if (pt_val (pe_gf g_has_phase (hr.mono (by decide)) rfl (pa_cons (pv 1) (pa_cons (pe_fld (pv 0) rfl) (pa_cons (pe_gv T.g_PHASE_FINISHED rfl) pa_nil)))))
        (pss_one (ps_ret (pe_mf m_ended (hr.mono (by decide)) (pv 0) (pa_cons (pv 1) (pa_cons pe_int pa_nil)))))
        pss_nil)
      (pss_one (ps_ret (pe_lst (pa_cons (pe_gv T.g_NOT_THERE rfl) pa_nil))))))), ?_⟩
      refine ⟨_, rfl, _, rfl, p, Γ.look, dx, _, _, rfl, hp, T.cl_look, T.n_look_ticket, (by walk_at "lk"), F, B, t, rfl, hB, _, rfl, _, rfl, p, Γ.look, dx, _, _, rfl, hp, T.cl_look, T.n_look_ticket, (by walk_at "lk"), F, B, t, 2, rfl, hB, fun H1 s1 => ⟨_, rfl, ifB (fun q => ?_) (fun q => ?_)⟩⟩
      · rw [if_pos q] at k
        have hB1 := hB.same s1
        have hp1 := s1 _ _ hp
        obtain ⟨ds, ta, g, j, hs, ht, hn, hj⟩ := (hB1.at_ _ hi).ob
        refine ⟨_, rfl, p, Γ.look, dx, _, _, rfl, hp1, T.cl_look, T.n_look_ticket, (by walk_at "lk"), t, rfl, (by show 2 ≤ sizeLine; decide), fun q1 hq1 => ?_⟩
        obtain ⟨F', hB', hN⟩ := hB1.setState hO hi (q := q1) (v := ⟨LwPool.stampOf t, 4⟩) hs hn hj hq1
        have nps : p ≠ F.s (LwPool.slotOf t) := fun z => own_ins hB1 hp1 (.inr (.inr (.inl ⟨_, hi, z⟩)))
        have c2 : Chg K (Own F p) H1 _ := (chg_new (o := HO.tup [vi (LwPool.stampOf t), V.int 4]) hq1).trans (chg_ins (u := .ins Γ.slot ds (slotF q1 g (B.slot (LwPool.slotOf t)).count (B.slot (LwPool.slotOf t)).kind j (F.w (LwPool.slotOf t)))) (keep_new hs hq1) (own_s hi))
        have hO' : BOk (B.with_ (LwPool.slotOf t) { B.slot (LwPool.slotOf t) with state := ⟨LwPool.stampOf t, 4⟩ }) := bok_with hO hi (setState_ok (hO.sl _ hi) _)
        refine ⟨_, rfl, F.s (LwPool.slotOf t), Γ.slot, ds, _, rfl, keep_new hs hq1, T.cl_slot, T.n_slot_state, (by show 6 < 1000; decide), _, (by walk_at "put"), ?_⟩
        have hp2 : (upd (upd H1 q1 (.tup [vi (LwPool.stampOf t), .int 4])) (F.s (LwPool.slotOf t)) (.ins Γ.slot ds (slotF q1 g (B.slot (LwPool.slotOf t)).count (B.slot (LwPool.slotOf t)).kind j (F.w (LwPool.slotOf t))))) p = some (.ins Γ.look dx (tickF 5 t)) := by
          rw [upd_ne nps]; exact keep_new hp1 hq1
        have e4 : (B.with_ (LwPool.slotOf t) { B.slot (LwPool.slotOf t) with state := ⟨LwPool.stampOf t, 4⟩ }).isAt t 4 = true := isAt_iff.mpr (by rw [slot_at hO hi])
        refine ⟨_, rfl, _, rfl, p, Γ.look, dx, _, _, rfl, hp2, T.cl_look, T.n_look_ticket, (by walk_at "lk"), F', _, t, 4, (by rw [hN.1]; rfl), hB', fun H2 s2 => ⟨_, rfl, ifB (fun _ => ?_) (fun z => nomatch (e4.symm.trans z))⟩⟩
        refine ⟨_, rfl, p, dx, _, rfl, s2 _ _ hp2, (by walk_at "lk"), _, rfl, p, dx, F', _, t, 1, (by rw [hN.1]; rfl), hB'.same s2, hO', s2 _ _ hp2, fun H3 l s3 hl => ?_⟩
        refine k _ _ (((s1.chg.trans c2).trans (s2.trans s3).chg).trans (chg_new hl)) ?_
        refine Res.back (X := Own F p) s1.chg ?_
        refine res_end (F' := F') ((hB'.same s2).same s3) hN hl ?_ (plAt_of (o := .look t) (s3 _ _ (s2 _ _ hp2)) T.cl_look T.n_look_place)
        rw [slot_at hO hi]
        rfl
      · rw [if_neg (by rw [q]; exact Bool.false_ne_true)] at k
        have hB1 := hB.same s1
        have hp1 := s1 _ _ hp
        refine ⟨_, rfl, _, rfl, p, Γ.look, dx, _, _, rfl, hp1, T.cl_look, T.n_look_ticket, (by walk_at "lk"), F, B, t, 4, rfl, hB1, fun H2 s2 => ⟨_, rfl, ifB (fun q2 => ?_) (fun q2 => ?_)⟩⟩
        · rw [if_pos q2] at k
          have s12 := s1.trans s2
          exact ⟨_, rfl, p, dx, _, rfl, s12 _ _ hp, (by walk_at "lk"), _, rfl, p, dx, F, B, t, 1, rfl, hB.same s12, hO, s12 _ _ hp, fun H3 l s3 hl => k _ _ ((s12.trans s3).chg.trans (chg_new hl)) (res_end (F' := F) (hB.same (s12.trans s3)) New.refl hl rfl (plAt_of (o := .look t) ((s12.trans s3) _ _ hp) T.cl_look T.n_look_place))⟩
        · rw [if_neg (by rw [q2]; exact Bool.false_ne_true)] at k
          exact ⟨(by show 1 ≤ sizeLine; decide), fun l hl => k _ _ ((s1.trans s2).chg.trans (chg_new hl)) (res_end (F' := F) (hB.same (s1.trans s2)) New.refl hl rfl (plAt_of (o := .look t) ((s1.trans s2) _ _ hp) T.cl_look T.n_look_place))⟩
    | _ => exact hA.elim
/-! ### the finishing -/
def spBegFin (K : PySem.W.Frag) (Γ : Cs) (C : Addr) (spE : Sp) : Sp := fun vs H Q _ => ∃ (p dx a ws : Addr) (s : LwPool.Slot) (fs fs2 : List (Str × V)), vs = [.ref p, .ref a] ∧ H p = some (.ins C dx fs) ∧ fs.length < 1000 ∧ putF "written" (.bl true) fs = fs2 ∧ fs2.lookup ("ended" : Str) = none ∧
  SlotAt K Γ (upd H p (.ins C dx fs2)) a ws s ∧ SlotOk s ∧ (s.complete = true → ∀ H', Same (upd H p (.ins C dx fs2)) H' → Q .non H') ∧ (s.complete = false → ∀ H', Same (upd H p (.ins C dx fs2)) H' → spE [.ref p, .int 0] H' Q E0)
abbrev s_Finishing_begin_finish : Stmt := inClass (top 50) 2
theorem sc_Finishing_begin_finish : FnScope ["self", "slot"] ["self", "slot"] (defScope s_Finishing_begin_finish) := ⟨rfl, rfl, rfl, by decide +kernel, rfl, by decide +kernel, by decide +kernel⟩
theorem ok_begin_finish {f C : Addr} {fd : FuncData} {spE : Sp} (F : Fun K "begin_finish" "Finishing.begin_finish" s_Finishing_begin_finish f fd) (T : Tx K mg Γ) (hC : Cls K C) (n_written : NoAttr K C "written") (g_is_complete : GF P w K mg base "is_complete" 4 ["slot"] (spComplete K Γ))
    (m_ended : MF P w K mg base C "ended" 1 ["self", "number"] spE) : FnOk P w K mg base CX0 5 f fd ["self", "slot"] (spBegFin K Γ C spE) := by
  have sc := sc_Finishing_begin_finish
  refine F.ok sc (fun vs H Q E h => ?_) (fun cdv A outer s H vs Q E hr h => ?_)
  · obtain ⟨_, _, _, _, _, _, _, rfl, _⟩ := h
    rfl
  · obtain ⟨p, dx, a, ws, s, fs, fs2, rfl, hp, h1, h2, h3, hS, ho, k1, k2⟩ := h
    refine ⟨_, (pss_cons (ps_fldP (pv 0) pe_bl rfl)
      (pss_cons (ps_if (pt_val (pe_gf g_is_complete (hr.mono (by decide)) rfl (pa_cons (pv 1) pa_nil)))
        (pss_one (ps_ret (pe_gv T.g_GAP rfl)))
        pss_nil)
      (pss_one (ps_ret (pe_mf m_ended (hr.mono (by decide)) (pv 0) (pa_cons pe_int pa_nil)))))), ?_⟩
    refine ⟨_, rfl, p, C, dx, fs, rfl, hp, hC, n_written, h1, fs2, h2, _, rfl, a, ws, s, rfl, hS, ho, fun H1 s1 => ⟨_, rfl, ifB (fun q => ?_) (fun q => ?_)⟩⟩
    · exact k1 q H1 s1
    · exact ⟨_, rfl, p, dx, fs2, rfl, s1 _ _ upd_same, h3, k2 q H1 s1⟩
def spFin (K : PySem.W.Frag) (Γ : Cs) (C : Addr) (spE : Sp) : Sp := fun vs H Q _ => ∃ (p dx : Addr) (F : Ft) (B : LwPool.Board) (t : Nat) (pl : V) (r : List (Str × V)), vs = [.ref p, .ref F.b] ∧ BdAt K Γ H F B ∧ BOk B ∧ H p = some (.ins C dx (("place", pl) :: r)) ∧
  r.lookup ("ticket" : Str) = some (vi t) ∧ r.lookup ("stamp" : Str) = some (vi (LwPool.stampOf t)) ∧ r.lookup ("ended" : Str) = none ∧ (B.isAt t 2 = false → ∀ H', Same H H' → spE [.ref p, .int 0] H' Q E0) ∧
  (B.isAt t 2 = true → ∀ H' F', Chg K (Own F p) H H' → H' p = some (.ins C dx (("place", pl) :: r)) → BdAt K Γ H' F' (B.with_ (LwPool.slotOf t) { B.slot (LwPool.slotOf t) with state := ⟨LwPool.stampOf t, 4⟩ }) → New H F F' → spE [.ref p, .int 1] H' Q E0)
abbrev s_Finishing_finish : Stmt := inClass (top 50) 3
theorem sc_Finishing_finish : FnScope ["self", "board", "slot"] ["self", "board"] (defScope s_Finishing_finish) := ⟨rfl, rfl, rfl, by decide +kernel, rfl, by decide +kernel, by decide +kernel⟩
theorem ok_finish {f C : Addr} {fd : FuncData} {spE : Sp} (F : Fun K "finish" "Finishing.finish" s_Finishing_finish f fd) (T : Tx K mg Γ) (hC : Cls K C) (n_ticket : NoAttr K C "ticket") (n_stamp : NoAttr K C "stamp") (g_has_phase : GF P w K mg base "has_phase" 2 ["board", "ticket", "phase"] (spHas K Γ))
    (g_slot_of : GF P w K mg base "slot_of" 1 ["board", "ticket"] (spSlotOf K Γ)) (m_ended : MF P w K mg base C "ended" 1 ["self", "number"] spE) : FnOk P w K mg base CX0 3 f fd ["self", "board"] (spFin K Γ C spE) := by
  have sc := sc_Finishing_finish
  refine F.ok sc (fun vs H Q E h => ?_) (fun cdv A outer s H vs Q E hr h => ?_)
  · obtain ⟨_, _, _, _, _, _, _, rfl, _⟩ := h
    rfl
  · obtain ⟨p, dx, F, B, t, pl, r, rfl, hB, hO, hp, l1, l2, l3, k1, k2⟩ := h
    have hi := slotOf_lt t
    have up : ∀ {m : Str} {o : Option V}, ¬ m = "place" → r.lookup m = o → List.lookup m (("place", pl) :: r) = o := fun h1 h3 => (lk_miss h1).trans h3
    refine ⟨_, (pss_cons (ps_if (pt_not (pt_val (pe_gf g_has_phase (hr.mono (by decide)) rfl (pa_cons (pv 1) (pa_cons (pe_fld (pv 0) rfl) (pa_cons (pe_gv T.g_PHASE_OPEN rfl) pa_nil))))))
        (pss_one (ps_ret (pe_mf m_ended (hr.mono (by decide)) (pv 0) (pa_cons pe_int pa_nil))))
        pss_nil)
      (pss_cons (ps_set (i := 2) sc.nd rfl (Or.inl rfl) (pe_gf g_slot_of (hr.mono (by decide)) rfl (pa_cons (pv 1) (pa_cons (pe_fld (pv 0) rfl) pa_nil))))
      (pss_cons (ps_fldP (pv 2) (pe_tup (pa_cons (pe_fld (pv 0) rfl) (pa_cons (pe_gv T.g_PHASE_FINISHED rfl) pa_nil))) rfl)
      (pss_one (ps_ret (pe_mf m_ended (hr.mono (by decide)) (pv 0) (pa_cons pe_int pa_nil))))))), ?_⟩
    refine ⟨_, rfl, _, rfl, p, C, dx, _, _, rfl, hp, hC, n_ticket, up (by decide +kernel) l1, F, B, t, 2, rfl, hB, fun H1 s1 => ⟨_, rfl, ifN (fun q => ?_) (fun q => ?_)⟩⟩
    · exact ⟨_, rfl, p, dx, _, rfl, s1 _ _ hp, up (by decide +kernel) l3, k1 q H1 s1⟩
    · have hB1 := hB.same s1
      have hp1 := s1 _ _ hp
      obtain ⟨ds, ta, g, j, hs, ht, hn, hj⟩ := (hB1.at_ _ hi).ob
      refine ⟨_, rfl, _, rfl, p, C, dx, _, _, rfl, hp1, hC, n_ticket, up (by decide +kernel) l1, F, B, t, rfl, hB1, _, rfl, p, C, dx, _, _, rfl, hp1, hC, n_stamp, up (by decide +kernel) l2, (by show 2 ≤ sizeLine; decide), fun q1 hq1 => ?_⟩
      obtain ⟨F', hB', hN⟩ := hB1.setState hO hi (q := q1) (v := ⟨LwPool.stampOf t, 4⟩) hs hn hj hq1
      have nps : p ≠ F.s (LwPool.slotOf t) := fun z => own_ins hB1 hp1 (.inr (.inr (.inl ⟨_, hi, z⟩)))
      have c2 : Chg K (Own F p) H1 _ := (chg_new (o := HO.tup [vi (LwPool.stampOf t), V.int 4]) hq1).trans (chg_ins (u := .ins Γ.slot ds (slotF q1 g (B.slot (LwPool.slotOf t)).count (B.slot (LwPool.slotOf t)).kind j (F.w (LwPool.slotOf t)))) (keep_new hs hq1) (own_s hi))
      have hp2 : (upd (upd H1 q1 (.tup [vi (LwPool.stampOf t), .int 4])) (F.s (LwPool.slotOf t)) (.ins Γ.slot ds (slotF q1 g (B.slot (LwPool.slotOf t)).count (B.slot (LwPool.slotOf t)).kind j (F.w (LwPool.slotOf t))))) p = some (.ins C dx (("place", pl) :: r)) := by
        rw [upd_ne nps]; exact keep_new hp1 hq1
      refine ⟨_, rfl, F.s (LwPool.slotOf t), Γ.slot, ds, _, rfl, keep_new hs hq1, T.cl_slot, T.n_slot_state, (by show 6 < 1000; decide), _, (by walk_at "put"), _, rfl, p, dx, _, rfl, hp2, up (by decide +kernel) l3, ?_⟩
      exact k2 q _ F' (s1.chg.trans c2) hp2 hB' ⟨hN.1, fun a ha => (hN.2 a ha).elim .inl fun z => .inr (s1.free z)⟩
def spFinGo (C : Addr) (spF spC : Sp) : Sp := fun vs H Q _ => ∃ (p dx : Addr) (b : V) (wr : Bool) (fs : List (Str × V)), vs = [.ref p, b] ∧ H p = some (.ins C dx fs) ∧ fs.lookup ("written" : Str) = some (.bl wr) ∧ fs.lookup ("finish" : Str) = none ∧ fs.lookup ("compare" : Str) = none ∧
  (wr = true → spF [.ref p, b] H Q E0) ∧ (wr = false → spC [.ref p, b] H Q E0)
abbrev s_Finishing_go_on : Stmt := inClass (top 50) 1
theorem sc_Finishing_go_on : FnScope ["self", "board"] ["self", "board"] (defScope s_Finishing_go_on) := ⟨rfl, rfl, rfl, by decide +kernel, rfl, by decide +kernel, by decide +kernel⟩
theorem ok_fin_go {f C : Addr} {fd : FuncData} {spF spC : Sp} (F : Fun K "go_on" "Finishing.go_on" s_Finishing_go_on f fd) (hC : Cls K C) (n_written : NoAttr K C "written") (m_finish : MF P w K mg base C "finish" 3 ["self", "board"] spF) (m_compare : MF P w K mg base C "compare" 7 ["self", "board"] spC) :
    FnOk P w K mg base CX0 8 f fd ["self", "board"] (spFinGo C spF spC) := by
  have sc := sc_Finishing_go_on
  refine F.ok sc (fun vs H Q E h => ?_) (fun cdv A outer s H vs Q E hr h => ?_)
  · obtain ⟨_, _, _, _, _, rfl, _⟩ := h
    rfl
  · obtain ⟨p, dx, b, wr, fs, rfl, hp, l1, l2, l3, k1, k2⟩ := h
    refine ⟨_, (pss_cons (ps_if (pt_val (pe_fld (pv 0) rfl))
        (pss_one (ps_ret (pe_mf m_finish (hr.mono (by decide)) (pv 0) (pa_cons (pv 1) pa_nil))))
        pss_nil)
      (pss_one (ps_ret (pe_mf m_compare (hr.mono (by decide)) (pv 0) (pa_cons (pv 1) pa_nil))))), ?_⟩
    refine ⟨_, rfl, p, C, dx, fs, _, rfl, hp, hC, n_written, l1, _, rfl, ifB (fun q => ?_) (fun q => ?_)⟩
    · exact ⟨_, rfl, p, dx, fs, rfl, hp, l2, _, rfl, k1 q⟩
    · exact ⟨_, rfl, p, dx, fs, rfl, hp, l3, _, rfl, k2 q⟩
end
end Po

namespace Po
open PySem PySem.Spec PyProof.Rows L2
local macro_rules | `(tactic| walk_at "lk") => `(tactic| repeat (first | exact lk_hit | exact lk_nil | refine (lk_miss (by decide +kernel)).trans ?_))
local macro_rules | `(tactic| walk_at "put") => `(tactic| repeat (first | exact put_hit | exact put_nil | (apply put_miss; · decide +kernel)))
section
variable {P : Program} {w : World} {K : PySem.W.Frag} {mg : Str → Option Value} {base : Heap} {Γ : Cs} {H : Hp} {F : Ft} {B : LwPool.Board}
theorem MF.imp {C : Addr} {m : Str} {k : Nat} {ps : List Str} {sp sp' : Sp} (h : MF P w K mg base C m k ps sp) (i : ∀ vs H Q E, sp' vs H Q E → sp vs H Q E) : MF P w K mg base C m k ps sp' := by
  obtain ⟨f, fd, h1, h2, h3, h4⟩ := h
  exact ⟨f, fd, h1, h2, h3, h4.imp i⟩
theorem no_s {p C dx : Addr} {v : V} {r : List (Str × V)} (hB : BdAt K Γ H F B) (hp : H p = some (.ins C dx (("place", v) :: r))) {i : Nat} (hi : i < 2) : F.s i ≠ p := fun z => own_ins hB hp (z ▸ .inr (.inr (.inl ⟨i, hi, rfl⟩)))
theorem no_w {p C dx : Addr} {v : V} {r : List (Str × V)} (hB : BdAt K Γ H F B) (hp : H p = some (.ins C dx (("place", v) :: r))) {i : Nat} (hi : i < 2) : F.w i ≠ p := fun z => own_ins hB hp (z ▸ .inr (.inr (.inr ⟨i, hi, rfl⟩)))
/-! ### stop -/
def LStop (K : PySem.W.Frag) (Γ : Cs) : List V → Hp → V → Prop := fun vs H v => ∃ (p : Addr) (F : Ft) (B : LwPool.Board) (t : Nat) (dx : Addr) (fl : Nat) (sv : V) (wr : Bool) (ds ta g j : Addr), vs = [.ref p, .ref F.b] ∧ BdAt K Γ H F B ∧ H p = some (.ins Γ.stop dx (stopF fl sv t wr)) ∧
  H (F.s (LwPool.slotOf t)) = some (.ins Γ.slot ds (slotF ta g (B.slot (LwPool.slotOf t)).count (B.slot (LwPool.slotOf t)).kind j (F.w (LwPool.slotOf t)))) ∧ v = .ref g
abbrev s_Stop_look_up : Stmt := inClass (top 52) 1
theorem sc_Stop_look_up : FnScope ["self", "board"] ["self", "board"] (defScope s_Stop_look_up) := ⟨rfl, rfl, rfl, by decide +kernel, rfl, by decide +kernel, by decide +kernel⟩
theorem ok_Stop_look_up {f : Addr} {fd : FuncData} (F : Fun K "look_up" "Stop.look_up" s_Stop_look_up f fd) (T : Tx K mg Γ) (g_slot_of : GF P w K mg base "slot_of" 1 ["board", "ticket"] (spSlotOf K Γ)) : FnOk P w K mg base CX0 2 f fd ["self", "board"] (spPure (LStop K Γ)) := by
  have sc := sc_Stop_look_up
  refine F.ok sc (fun vs H Q E h => h.1) (fun cdv A outer s H vs Q E hr h => ?_)
  obtain ⟨_, v, ⟨p, F, B, t, dx, fl, sv, wr, ds, ta, g, j, rfl, hB, hp, hs, rfl⟩, k⟩ := h
  refine ⟨_, (pss_one (ps_ret (pe_fld (pe_gf g_slot_of (hr.mono (by decide)) rfl (pa_cons (pv 1) (pa_cons (pe_fld (pv 0) rfl) pa_nil))) rfl))), ?_⟩
  exact ⟨_, rfl, _, rfl, p, Γ.stop, dx, _, _, rfl, hp, T.cl_stop, T.n_stop_ticket, (by walk_at "lk"), F, B, t, rfl, hB, _, Γ.slot, ds, _, _, rfl, hs, T.cl_slot, T.n_slot_giving, (by walk_at "lk"), k⟩
def spEStop (K : PySem.W.Frag) (Γ : Cs) : Sp := fun vs H Q _ => ∃ (p dx a : Addr) (v : V) (fl t : Nat) (wr : Bool) (wn : LwPool.Next), vs = [.ref p, v] ∧ H p = some (.ins Γ.stop dx (stopF fl (.ref a) t wr)) ∧ NxT K H a wn ∧ ∀ l, H l = none → Q (.ref l) (upd H l (.lst [v, vi wn.given]))
abbrev s_Stop_ended : Stmt := inClass (top 52) 4
theorem sc_Stop_ended : FnScope ["self", "number"] ["self", "number"] (defScope s_Stop_ended) := ⟨rfl, rfl, rfl, by decide +kernel, rfl, by decide +kernel, by decide +kernel⟩
theorem ok_Stop_ended {f : Addr} {fd : FuncData} (F : Fun K "ended" "Stop.ended" s_Stop_ended f fd) (T : Tx K mg Γ) : FnOk P w K mg base CX0 1 f fd ["self", "number"] (spEStop K Γ) := by
  have sc := sc_Stop_ended
  refine F.ok sc (fun vs H Q E h => ?_) (fun cdv A outer s H vs Q E hr h => ?_)
  · obtain ⟨_, _, _, _, _, _, _, _, rfl, _⟩ := h
    rfl
  · obtain ⟨p, dx, a, v, fl, t, wr, wn, rfl, hp, ha, k⟩ := h
    refine ⟨_, (pss_one (ps_ret (pe_lst (pa_cons (pv 1) (pa_cons (pe_ix ix_tup (pe_fld (pv 0) rfl) (pe_gv T.g_GIVEN rfl) (fun _ _ => rfl)) pa_nil))))), ?_⟩
    exact ⟨_, rfl, _, rfl, p, Γ.stop, dx, _, _, rfl, hp, T.cl_stop, T.n_stop_seen, (by walk_at "lk"), a, _, _, _, rfl, rfl, ha, at_of (j := 1) rfl rfl, (by show 2 ≤ sizeLine; decide), k⟩
def spJStop (K : PySem.W.Frag) (Γ : Cs) : Sp := fun vs H Q _ => ∃ (p dx a : Addr) (fl t : Nat) (wr : Bool) (wn : LwPool.Next), vs = [.ref p] ∧ H p = some (.ins Γ.stop dx (stopF fl (.ref a) t wr)) ∧ NxT K H a wn ∧
  (wn.stamp ≠ LwPool.stampOf t → ∀ l, H l = none → Q (.ref l) (upd H l (.lst [.int (-1)]))) ∧ (wn.stamp = LwPool.stampOf t → wn.stopped = true → ∀ l, H l = none → Q (.ref l) (upd H l (.lst [.int 2, vi wn.given]))) ∧ (wn.stamp = LwPool.stampOf t → wn.stopped = false → Q .non H)
abbrev s_Stop_judge : Stmt := inClass (top 52) 2
theorem sc_Stop_judge : FnScope ["self"] ["self"] (defScope s_Stop_judge) := ⟨rfl, rfl, rfl, by decide +kernel, rfl, by decide +kernel, by decide +kernel⟩
theorem ok_Stop_judge {f : Addr} {fd : FuncData} (F : Fun K "judge" "Stop.judge" s_Stop_judge f fd) (T : Tx K mg Γ) (m_ended : MF P w K mg base Γ.stop "ended" 1 ["self", "number"] (spEStop K Γ)) : FnOk P w K mg base CX0 2 f fd ["self"] (spJStop K Γ) := by
  have sc := sc_Stop_judge
  refine F.ok sc (fun vs H Q E h => ?_) (fun cdv A outer s H vs Q E hr h => ?_)
  · obtain ⟨_, _, _, _, _, _, _, rfl, _⟩ := h
    rfl
  · obtain ⟨p, dx, a, fl, t, wr, wn, rfl, hp, ha, k1, k2, k3⟩ := h
    refine ⟨_, (pss_cons (ps_if (pt_cmpR op_ne (pe_ix ix_tup (pe_fld (pv 0) rfl) (pe_gv T.g_STAMP rfl) (fun _ _ => rfl)) (pe_fld (pv 0) rfl) (nomark _))
        (pss_one (ps_ret (pe_lst (pa_cons (pe_gv T.g_NOT_THERE rfl) pa_nil))))
        pss_nil)
      (pss_cons (ps_if (pt_cmpR op_eq (pe_ix ix_tup (pe_fld (pv 0) rfl) (pe_gv T.g_STOPPED rfl) (fun _ _ => rfl)) pe_int (nomark _))
        (pss_one (ps_ret (pe_mf m_ended (hr.mono (by decide)) (pv 0) (pa_cons (pe_gv T.g_ALREADY rfl) pa_nil))))
        pss_nil)
      (pss_one (ps_ret (pe_gv T.g_GAP rfl))))), ?_⟩
    refine ⟨_, rfl, p, Γ.stop, dx, _, _, rfl, hp, T.cl_stop, T.n_stop_seen, (by walk_at "lk"), a, _, _, _, rfl, rfl, ha, at_of (j := 0) rfl rfl, _, rfl, p, Γ.stop, dx, _, _, rfl, hp, T.cl_stop, T.n_stop_stamp, (by walk_at "lk"), rfl, _, rfl, ifN (fun q => ?_) (fun q => ?_)⟩
    · exact ⟨(by show 1 ≤ sizeLine; decide), k1 fun z => (of_decide_eq_false q) (vint_inj.mpr z)⟩
    · have e := vint_inj.mp (of_decide_eq_true q)
      refine ⟨_, rfl, p, Γ.stop, dx, _, _, rfl, hp, T.cl_stop, T.n_stop_seen, (by walk_at "lk"), a, _, _, _, rfl, rfl, ha, at_of (j := 2) rfl rfl, rfl, _, rfl, ifD (fun q2 => ?_) (fun q2 => ?_)⟩
      · exact ⟨_, rfl, p, dx, _, rfl, hp, (by walk_at "lk"), p, dx, a, _, fl, t, wr, wn, rfl, hp, ha, k2 e (bit1.mp q2)⟩
      · refine k3 e ?_
        cases z : wn.stopped with
        | false => rfl
        | true => exact absurd (bit1.mpr z) q2
theorem att_stop (T : Tx K mg Γ) {p dx : Addr} {sv : V} {fl k t : Nat} {Q : VK} (hB : BdAt K Γ H F B) (hp : H p = some (.ins Γ.stop dx (stopF fl sv t false))) (hk : fl + k = 3) (h : ∀ v H', Chg K (Own F p) H H' → Res K Γ H F p (.halt_ t) v H' (LwPool.stopTry t k B) → Q v H') :
    spAtt Γ.stop (LStop K Γ) (spJStop K Γ) [.ref p, .ref F.b] H Q E0 := by
  have hi := slotOf_lt t
  obtain ⟨ds, ta, g, j, hs, ht, hn, hj⟩ := (hB.at_ _ hi).ob
  have c1 : Chg K (Own F p) H (upd H p (.ins Γ.stop dx (stopF fl (.ref g) t false))) := chg_ins hp (.inr rfl)
  have eT : LwPool.stopTry t k B = if (B.slot (LwPool.slotOf t)).next.stamp ≠ LwPool.stampOf t then .ends B (LwPool.num (-1)) else if (B.slot (LwPool.slotOf t)).next.stopped = true then .ends B (LwPool.nums 2 [(B.slot (LwPool.slotOf t)).next.given]) else .gap B (.stopping k (B.slot (LwPool.slotOf t)).next) := rfl
  rw [eT] at h
  refine ⟨p, dx, .ref F.b, .ref g, _, _, rfl, hp, (by walk_at "lk"), ⟨p, F, B, t, dx, fl, sv, false, ds, ta, g, j, rfl, hB, hp, hs, rfl⟩, (by show 6 < 1000; decide), (by walk_at "put"), (by walk_at "lk"), p, dx, g, fl, t, false, (B.slot (LwPool.slotOf t)).next, rfl, upd_same, hn.chg c1, fun e l hl => ?_, fun e e2 l hl => ?_, fun e e2 => ?_⟩
  · rw [if_pos e] at h
    exact h _ _ (c1.trans (chg_new hl)) (Res.back c1 (res_end (F' := F) (hB.other hp) New.refl hl rfl (plAt_of (o := .halt_ t) upd_same T.cl_stop T.n_stop_place)))
  · rw [if_neg (fun z => z e), if_pos e2] at h
    exact h _ _ (c1.trans (chg_new hl)) (Res.back c1 (res_end (F' := F) (hB.other hp) New.refl hl rfl (plAt_of (o := .halt_ t) upd_same T.cl_stop T.n_stop_place)))
  · rw [if_neg (fun z => z e), if_neg (by rw [e2]; exact Bool.false_ne_true)] at h
    exact h _ _ c1 ⟨rfl, F, hB.other hp, New.refl, dx, g, fl, upd_same, hn.chg c1, hk⟩
abbrev s_Stop_begin : Stmt := inClass (top 52) 0
theorem sc_Stop_begin : FnScope ["self", "board"] ["self", "board"] (defScope s_Stop_begin) := ⟨rfl, rfl, rfl, by decide +kernel, rfl, by decide +kernel, by decide +kernel⟩
theorem ok_Stop_begin {f : Addr} {fd : FuncData} (F : Fun K "begin" "Stop.begin" s_Stop_begin f fd) (T : Tx K mg Γ) (g_has_phase : GF P w K mg base "has_phase" 2 ["board", "ticket", "phase"] (spHas K Γ)) (m_attempt : MF P w K mg base Γ.stop "attempt" 4 ["self", "board"] (spAtt Γ.stop (LStop K Γ) (spJStop K Γ))) :
    FnOk P w K mg base CX0 5 f fd ["self", "board"] (spBegin K Γ fun o => ∃ t, o = .halt_ t) := by
  have sc := sc_Stop_begin
  refine F.ok sc (fun vs H Q E h => ?_) (fun cdv A outer s H vs Q E hr h => ?_)
  · obtain ⟨_, _, _, _, rfl, _⟩ := h
    rfl
  · obtain ⟨p, F, B, o, rfl, ⟨t, rfl⟩, hB, hO, ⟨dx, hp⟩, k⟩ := h
    have eB : LwPool.begins (.halt_ t) B = if B.isAt t 2 = false then .ends B (LwPool.num (-1)) else LwPool.stopTry t LwPool.TRIES B := rfl
    rw [eB] at k
    refine ⟨_, (pss_cons (ps_if (pt_not (pt_val (pe_gf g_has_phase (hr.mono (by decide)) rfl (pa_cons (pv 1) (pa_cons (pe_fld (pv 0) rfl) (pa_cons (pe_gv T.g_PHASE_OPEN rfl) pa_nil))))))
        (pss_one (ps_ret (pe_lst (pa_cons (pe_gv T.g_NOT_THERE rfl) pa_nil))))
        pss_nil)
      (pss_one (ps_ret (pe_mf m_attempt (hr.mono (by decide)) (pv 0) (pa_cons (pv 1) pa_nil))))), ?_⟩
    refine ⟨_, rfl, _, rfl, p, Γ.stop, dx, _, _, rfl, hp, T.cl_stop, T.n_stop_ticket, (by walk_at "lk"), F, B, t, 2, rfl, hB, fun H1 s1 => ⟨_, rfl, ifN (fun q => ?_) (fun q => ?_)⟩⟩
    · rw [if_pos q] at k
      exact ⟨(by show 1 ≤ sizeLine; decide), fun l hl => k _ _ (s1.chg.trans (chg_new hl)) (res_end (F' := F) (hB.same s1) New.refl hl rfl (plAt_of (o := .halt_ t) (s1 _ _ hp) T.cl_stop T.n_stop_place))⟩
    · rw [if_neg (by rw [q]; exact fun z => nomatch z)] at k
      exact ⟨_, rfl, p, dx, _, rfl, s1 _ _ hp, (by walk_at "lk"), _, rfl, att_stop T (hB.same s1) (s1 _ _ hp) rfl fun v H' c r => k v H' (s1.chg.trans c) (Res.back (X := Own F p) s1.chg r)⟩
def spWStop (K : PySem.W.Frag) (Γ : Cs) : Sp := fun vs H Q _ => ∃ (p dx a : Addr) (F : Ft) (B : LwPool.Board) (t fl : Nat) (wn : LwPool.Next), vs = [.ref p, .ref F.b] ∧ BdAt K Γ H F B ∧ BOk B ∧ H p = some (.ins Γ.stop dx (stopF fl (.ref a) t false)) ∧ NxT K H a wn ∧ wn.stamp = LwPool.stampOf t ∧ wn.given ≤ (B.slot (LwPool.slotOf t)).count ∧
  ∀ v H', Chg K (Own F p) H H' → Res K Γ H F p (.halt_ t) v H' (LwPool.finish t [wn.given] (B.with_ (LwPool.slotOf t) { B.slot (LwPool.slotOf t) with next := { wn with stopped := true } })) → Q v H'
abbrev s_Stop_write : Stmt := inClass (top 52) 3
theorem sc_Stop_write : FnScope ["self", "board", "slot"] ["self", "board"] (defScope s_Stop_write) := ⟨rfl, rfl, rfl, by decide +kernel, rfl, by decide +kernel, by decide +kernel⟩
theorem ok_Stop_write {f : Addr} {fd : FuncData} (F : Fun K "write" "Stop.write" s_Stop_write f fd) (T : Tx K mg Γ) (g_slot_of : GF P w K mg base "slot_of" 1 ["board", "ticket"] (spSlotOf K Γ)) (m_begin_finish : MF P w K mg base Γ.stop "begin_finish" 5 ["self", "slot"] (spBegFin K Γ Γ.stop (spEStop K Γ))) :
    FnOk P w K mg base CX0 6 f fd ["self", "board"] (spWStop K Γ) := by
  have sc := sc_Stop_write
  refine F.ok sc (fun vs H Q E h => ?_) (fun cdv A outer s H vs Q E hr h => ?_)
  · obtain ⟨_, _, _, _, _, _, _, _, rfl, _⟩ := h
    rfl
  · obtain ⟨p, dx, a, F, B, t, fl, wn, rfl, hB, hO, hp, ha, hst, hgv, k⟩ := h
    have hi := slotOf_lt t
    obtain ⟨ds, ta, g, j, hs, ht, hn, hj⟩ := (hB.at_ _ hi).ob
    refine ⟨_, (pss_cons (ps_set (i := 2) sc.nd rfl (Or.inl rfl) (pe_gf g_slot_of (hr.mono (by decide)) rfl (pa_cons (pv 1) (pa_cons (pe_fld (pv 0) rfl) pa_nil))))
      (pss_cons (ps_fldP (pv 2) (pe_tup (pa_cons (pe_fld (pv 0) rfl) (pa_cons (pe_ix ix_tup (pe_fld (pv 0) rfl) (pe_gv T.g_GIVEN rfl) (fun _ _ => rfl)) (pa_cons pe_int pa_nil)))) rfl)
      (pss_one (ps_ret (pe_mf m_begin_finish (hr.mono (by decide)) (pv 0) (pa_cons (pv 2) pa_nil)))))), ?_⟩
    refine ⟨_, rfl, _, rfl, p, Γ.stop, dx, _, _, rfl, hp, T.cl_stop, T.n_stop_ticket, (by walk_at "lk"), F, B, t, rfl, hB, _, rfl, p, Γ.stop, dx, _, _, rfl, hp, T.cl_stop, T.n_stop_stamp, (by walk_at "lk"),
      _, rfl, p, Γ.stop, dx, _, _, rfl, hp, T.cl_stop, T.n_stop_seen, (by walk_at "lk"), a, _, _, _, rfl, rfl, ha, at_of (j := 1) rfl rfl, (by show 3 ≤ sizeLine; decide), fun q hq => ?_⟩
    rw [← hst]
    obtain ⟨hS, F', hB', hN⟩ := hB.setNext hO hi (q := q) (v := { wn with stopped := true }) hs ht hj hq
    have hok : SlotOk { B.slot (LwPool.slotOf t) with next := { wn with stopped := true } } := by
      have z := hO.sl _ hi
      exact ⟨z.cnt, hgv, z.job, z.wds, z.bts⟩
    have c2 : Chg K (Own F p) H _ := (chg_new (o := HO.tup [vi wn.stamp, vi wn.given, V.int 1]) hq).trans (chg_ins (u := .ins Γ.slot ds (slotF ta q (B.slot (LwPool.slotOf t)).count (B.slot (LwPool.slotOf t)).kind j (F.w (LwPool.slotOf t)))) (keep_new hs hq) (own_s hi))
    have hp2 : (upd (upd H q (.tup [vi wn.stamp, vi wn.given, .int 1])) (F.s (LwPool.slotOf t)) (.ins Γ.slot ds (slotF ta q (B.slot (LwPool.slotOf t)).count (B.slot (LwPool.slotOf t)).kind j (F.w (LwPool.slotOf t))))) p = some (.ins Γ.stop dx (stopF fl (.ref a) t false)) := by
      rw [upd_ne (no_s hB hp hi).symm]; exact keep_new hp hq
    refine ⟨_, rfl, F.s (LwPool.slotOf t), Γ.slot, ds, _, rfl, keep_new hs hq, T.cl_slot, T.n_slot_giving, (by show 6 < 1000; decide), _, (by walk_at "put"), _, rfl, p, dx, _, rfl, hp2, (by walk_at "lk"), _, rfl, ?_⟩
    have c3 : Chg K (Own F p) _ (upd (upd (upd H q (.tup [vi wn.stamp, vi wn.given, .int 1])) (F.s (LwPool.slotOf t)) (.ins Γ.slot ds (slotF ta q (B.slot (LwPool.slotOf t)).count (B.slot (LwPool.slotOf t)).kind j (F.w (LwPool.slotOf t))))) p (.ins Γ.stop dx (stopF fl (.ref a) t true))) := chg_ins hp2 (.inr rfl)
    have hB3 := hB'.other (u := .ins Γ.stop dx (stopF fl (.ref a) t true)) hp2
    have eF : ∀ B', B'.slot (LwPool.slotOf t) = { B.slot (LwPool.slotOf t) with next := { wn with stopped := true } } → LwPool.finish t [wn.given] B' = if ({ B.slot (LwPool.slotOf t) with next := { wn with stopped := true } } : LwPool.Slot).complete = true then .gap B' (.finishing [wn.given]) else .ends B' (LwPool.nums 0 [wn.given]) := fun B' e => by
      unfold LwPool.finish
      rw [e]
    rw [eF _ (slot_at hO hi)] at k
    refine ⟨p, dx, F.s (LwPool.slotOf t), F.w (LwPool.slotOf t), _, _, _, rfl, hp2, (by show 6 < 1000; decide), (by walk_at "put"), (by walk_at "lk"), hS.chg (X := fun a => a = p) (chg_ins hp2 rfl) (no_s hB hp hi) (no_w hB hp hi), hok, fun e H' s1 => ?_, fun e H' s1 => ?_⟩
    · rw [if_pos e] at k
      refine k _ _ ((c2.trans c3).trans s1.chg) ⟨rfl, F', hB3.same s1, hN, dx, a, fl, wn, s1 _ _ upd_same, ?_, rfl⟩
      exact ((ha.chg c2).chg c3).chg (X := Own F p) s1.chg
    · rw [if_neg (by rw [e]; exact Bool.false_ne_true)] at k
      refine ⟨p, dx, a, _, fl, t, true, wn, rfl, s1 _ _ upd_same, ((ha.chg c2).chg c3).chg (X := Own F p) s1.chg, fun l hl => ?_⟩
      exact k _ _ (((c2.trans c3).trans s1.chg).trans (chg_new hl)) (res_end (hB3.same s1) hN hl rfl (plAt_of (o := .halt_ t) (s1 _ _ upd_same) T.cl_stop T.n_stop_place))
theorem eqv3 (a b c d e f : Nat) : PyData.eqv (.tuple [.int a, .int b, .int c]) (.tuple [.int d, .int e, .int f]) = (decide (a = d) && (decide (b = e) && decide (c = f))) := by
  simp only [PyData.eqv, PyData.eqvAll, ieq, Bool.and_true]
theorem eqvNN (v u : LwPool.Next) : PyData.eqv (.tuple [.int v.stamp, .int v.given, .int (PoolCalls.bit v.stopped)]) (.tuple [.int u.stamp, .int u.given, .int (PoolCalls.bit u.stopped)]) = LwPool.sameNext v u := by
  rw [eqv3]
  obtain ⟨a, b, c⟩ := v
  obtain ⟨d, e, f⟩ := u
  unfold LwPool.sameNext
  cases c <;> cases f <;> simp [PoolCalls.bit] <;> rfl
theorem go_stop (T : Tx K mg Γ) : ∀ (vs : List V) (H : Hp) (Q : VK) (E : XK), spGo K Γ (fun o => ∃ t, o = .halt_ t) vs H Q E → spFinGo Γ.stop (spFin K Γ Γ.stop (spEStop K Γ)) (spCmp K Γ.stop (LStop K Γ) (spWStop K Γ) (spAtt Γ.stop (LStop K Γ) (spJStop K Γ))) vs H Q E := by
  intro vs H Q E h
  obtain ⟨p, F, B, o, a, rfl, ⟨t, rfl⟩, hB, hO, hG, hA, k⟩ := h
  have hi := slotOf_lt t
  cases a with
  | stopping m wn =>
    obtain ⟨dx, sa, fl, hp, hv, hk⟩ := hG
    obtain ⟨hm1, hm3, hst, hstp⟩ := hA
    obtain ⟨ds, ta, g, j, hs, ht, hn, hj⟩ := (hB.at_ _ hi).ob
    have eG : LwPool.goesOn (.halt_ t) (.stopping m wn) B = if LwPool.sameNext (B.slot (LwPool.slotOf t)).next wn = true then LwPool.finish t [wn.given] (B.with_ (LwPool.slotOf t) { B.slot (LwPool.slotOf t) with next := { wn with stopped := true } }) else if m ≤ 1 then .ends B (LwPool.num (-2)) else LwPool.stopTry t (m - 1) B := rfl
    rw [eG] at k
    refine ⟨p, dx, .ref F.b, false, _, rfl, hp, (by walk_at "lk"), (by walk_at "lk"), (by walk_at "lk"), (fun z => nomatch z), fun _ => ?_⟩
    have c1 : Chg K (Own F p) H (upd H p (.ins Γ.stop dx (stopF (fl + 1) (.ref sa) t false))) := chg_ins hp (.inr rfl)
    refine ⟨p, dx, .ref F.b, .ref g, .ref sa, _, fl, _, .tuple [.int (B.slot (LwPool.slotOf t)).next.stamp, .int (B.slot (LwPool.slotOf t)).next.given, .int (PoolCalls.bit (B.slot (LwPool.slotOf t)).next.stopped)], .tuple [.int wn.stamp, .int wn.given, .int (PoolCalls.bit wn.stopped)], rfl, hp, (by show 4 < 900; decide), (by walk_at "lk"), (by walk_at "lk"), (by walk_at "lk"), (by walk_at "lk"), (by walk_at "lk"),
      ⟨p, F, B, t, dx, fl, .ref sa, false, ds, ta, g, j, rfl, hB, hp, hs, rfl⟩, .tup hn (.cons (.int _) (.cons (.int _) (.cons (.int _) .nil))), .tup hv (.cons (.int _) (.cons (.int _) (.cons (.int _) .nil))), rfl, rfl, fun q => ?_, fun q q2 l hl => ?_, fun q q2 => ?_⟩
    · rw [eqvNN] at q
      rw [if_pos q] at k
      refine ⟨p, dx, sa, F, B, t, fl, wn, rfl, hB, hO, hp, hv, hst, ?_, k⟩
      rw [← sameNext_iff.mp q]
      exact (hO.sl _ hi).giv
    · rw [eqvNN] at q
      rw [if_neg (by rw [q]; exact Bool.false_ne_true), if_pos (by omega)] at k
      exact k _ _ (c1.trans (chg_new hl)) (Res.back c1 (res_end (F' := F) (hB.other hp) New.refl hl rfl (plAt_of (o := .halt_ t) upd_same T.cl_stop T.n_stop_place)))
    · rw [eqvNN] at q
      rw [if_neg (by rw [q]; exact Bool.false_ne_true), if_neg (by omega)] at k
      exact att_stop T (k := m - 1) (fl := fl + 1) (hB.other hp) upd_same (by omega) fun v H' c r => k v H' (c1.trans c) (Res.back c1 r)
  | finishing l =>
    obtain ⟨dx, sa, fl, wn, hp, hv, rfl⟩ := hG
    have eG : LwPool.goesOn (.halt_ t) (.finishing [wn.given]) B = if B.isAt t 2 = true then .ends (B.with_ (LwPool.slotOf t) { B.slot (LwPool.slotOf t) with state := ⟨LwPool.stampOf t, 4⟩ }) (LwPool.nums 1 [wn.given]) else .ends B (LwPool.nums 0 [wn.given]) := rfl
    rw [eG] at k
    refine ⟨p, dx, .ref F.b, true, _, rfl, hp, (by walk_at "lk"), (by walk_at "lk"), (by walk_at "lk"), (fun _ => ?_), fun z => nomatch z⟩
    refine ⟨p, dx, F, B, t, _, _, rfl, hB, hO, hp, (by walk_at "lk"), (by walk_at "lk"), (by walk_at "lk"), fun q H' s1 => ?_, fun q H' F' c hp' hB' hN => ?_⟩
    · rw [if_neg (by rw [q]; exact Bool.false_ne_true)] at k
      exact ⟨p, dx, sa, _, fl, t, true, wn, rfl, s1 _ _ hp, hv.chg (X := Own F p) s1.chg, fun l hl => k _ _ (s1.chg.trans (chg_new hl)) (res_end (F' := F) (hB.same s1) New.refl hl rfl (plAt_of (o := .halt_ t) (s1 _ _ hp) T.cl_stop T.n_stop_place))⟩
    · rw [if_pos q] at k
      exact ⟨p, dx, sa, _, fl, t, true, wn, rfl, hp', hv.chg c, fun l hl => k _ _ (c.trans (chg_new hl)) (res_end hB' hN hl rfl (plAt_of (o := .halt_ t) hp' T.cl_stop T.n_stop_place))⟩
  | _ => exact hA.elim
end
end Po

namespace Po
open PySem PySem.Spec PyProof.Rows L2
local macro_rules | `(tactic| walk_at "lk") => `(tactic| repeat (first | exact lk_hit | exact lk_nil | refine (lk_miss (by decide +kernel)).trans ?_))
local macro_rules | `(tactic| walk_at "put") => `(tactic| repeat (first | exact put_hit | exact put_nil | (apply put_miss; · decide +kernel)))
theorem ixN_nat {n j : Nat} (h : j < n) : ixN n (j : Int) = some j := by
  unfold ixN
  rw [if_pos (by omega), if_pos (by omega), Int.toNat_natCast]
theorem map_set_ref (was : List Addr) (n : Nat) (q : Addr) : (was.map V.ref).set n (.ref q) = (was.set n q).map V.ref := (List.map_set ..).symm
section
variable {P : Program} {w : World} {K : PySem.W.Frag} {mg : Str → Option Value} {base : Heap} {Γ : Cs} {H : Hp} {F : Ft} {B : LwPool.Board}
/-- a word of the slot is written -/
theorem BdAt.setWord (hB : BdAt K Γ H F B) (hO : BOk B) {i n : Nat} (hi : i < 2) {q : Addr} {x : LwPool.Word} {was : List Addr} (hw : H (F.w i) = some (.lst (was.map V.ref))) (hpr : Paired (WdT K H) was (B.slot i).words) (hq : WdT K H q x) :
    SlotAt K Γ (upd H (F.w i) (.lst ((was.map V.ref).set n (.ref q)))) (F.s i) (F.w i) { B.slot i with words := (B.slot i).words.set n x } ∧
    ∃ F', BdAt K Γ (upd H (F.w i) (.lst ((was.map V.ref).set n (.ref q)))) F' (B.with_ i { B.slot i with words := (B.slot i).words.set n x }) ∧ New H F F' := by
  have c : Chg K (fun a => a = F.s i ∨ a = F.w i) H (upd H (F.w i) (.lst ((was.map V.ref).set n (.ref q)))) := chg_lst hw (.inr rfl)
  obtain ⟨dx, t, g, j, hs, ht, hn, hj⟩ := (hB.at_ i hi).ob
  have nsw : F.s i ≠ F.w i := ne_of hs hw (fun z => nomatch z)
  have hS : SlotAt K Γ (upd H (F.w i) (.lst ((was.map V.ref).set n (.ref q)))) (F.s i) (F.w i) { B.slot i with words := (B.slot i).words.set n x } := by
    refine ⟨⟨dx, t, g, j, ?_, ht.chg c, hn.chg c, hj.chg c⟩, was.set n q, ?_, ?_⟩
    · rw [upd_ne nsw]; exact hs
    · rw [upd_same, map_set_ref]
    · exact paired_set (hq.chg c) n (paired_imp (fun _ _ z => z.chg c) hpr)
  exact ⟨hS, hB.slot hO hi c hS (.inl rfl)⟩
/-! ### done -/
def LDone (K : PySem.W.Frag) (Γ : Cs) : List V → Hp → V → Prop := fun vs H v => ∃ (p : Addr) (F : Ft) (B : LwPool.Board) (t n : Nat) (dx : Addr) (fl : Nat) (sv : V) (wr : Bool) (b : Addr) (was : List Addr), vs = [.ref p, .ref F.b] ∧ BdAt K Γ H F B ∧ H p = some (.ins Γ.done dx (doneF fl sv t wr n)) ∧
  H (F.w (LwPool.slotOf t)) = some (.lst (was.map V.ref)) ∧ was[n / 8]? = some b ∧ v = .ref b
abbrev s_Done_look_up : Stmt := inClass (top 51) 2
theorem sc_Done_look_up : FnScope ["self", "board", "slot"] ["self", "board"] (defScope s_Done_look_up) := ⟨rfl, rfl, rfl, by decide +kernel, rfl, by decide +kernel, by decide +kernel⟩
theorem ok_Done_look_up {f : Addr} {fd : FuncData} (F : Fun K "look_up" "Done.look_up" s_Done_look_up f fd) (T : Tx K mg Γ) (g_slot_of : GF P w K mg base "slot_of" 1 ["board", "ticket"] (spSlotOf K Γ)) : FnOk P w K mg base CX0 2 f fd ["self", "board"] (spPure (LDone K Γ)) := by
  have sc := sc_Done_look_up
  refine F.ok sc (fun vs H Q E h => h.1) (fun cdv A outer s H vs Q E hr h => ?_)
  obtain ⟨_, v, ⟨p, F, B, t, n, dx, fl, sv, wr, b, was, rfl, hB, hp, hw, hb, rfl⟩, k⟩ := h
  obtain ⟨ds, ta, g, j, hs, ht, hn, hj⟩ := (hB.at_ _ (slotOf_lt t)).ob
  refine ⟨_, (pss_cons (ps_set (i := 2) sc.nd rfl (Or.inl rfl) (pe_gf g_slot_of (hr.mono (by decide)) rfl (pa_cons (pv 1) (pa_cons (pe_fld (pv 0) rfl) pa_nil))))
      (pss_one (ps_ret (pe_ix ix_list (pe_fld (pv 2) rfl) (pe_op op_fdiv (pe_fld (pv 0) rfl) (pe_gv T.g_MARKS_OF_A_WORD rfl)) (fun _ _ => rfl))))), ?_⟩
  exact ⟨_, rfl, _, rfl, p, Γ.done, dx, _, _, rfl, hp, T.cl_done, T.n_done_ticket, (by walk_at "lk"), F, B, t, rfl, hB, _, rfl, _, Γ.slot, ds, _, _, rfl, hs, T.cl_slot, T.n_slot_words, (by walk_at "lk"), _, rfl, p, Γ.done, dx, _, _, rfl, hp, T.cl_done, T.n_done_k, (by walk_at "lk"), _, _, rfl, rfl, ⟨by decide, by decide⟩,
    _, _, _, _, rfl, rfl, SqL.of hw, at_of (j := n / 8) (by omega) (ref_at hb), k⟩
def spEDone : Sp := fun vs H Q _ => ∃ (p : Addr) (v : V), vs = [.ref p, v] ∧ ∀ l, H l = none → Q (.ref l) (upd H l (.lst [v]))
abbrev s_Done_ended : Stmt := inClass (top 51) 5
theorem sc_Done_ended : FnScope ["self", "number"] ["self", "number"] (defScope s_Done_ended) := ⟨rfl, rfl, rfl, by decide +kernel, rfl, by decide +kernel, by decide +kernel⟩
theorem ok_Done_ended {f : Addr} {fd : FuncData} (F : Fun K "ended" "Done.ended" s_Done_ended f fd) : FnOk P w K mg base CX0 1 f fd ["self", "number"] spEDone := by
  have sc := sc_Done_ended
  refine F.ok sc (fun vs H Q E h => ?_) (fun cdv A outer s H vs Q E hr h => ?_)
  · obtain ⟨_, _, rfl, _⟩ := h
    rfl
  · obtain ⟨p, v, rfl, k⟩ := h
    refine ⟨_, (pss_one (ps_ret (pe_lst (pa_cons (pv 1) pa_nil)))), ?_⟩
    exact ⟨_, rfl, (by show 1 ≤ sizeLine; decide), k⟩
def spJDone (K : PySem.W.Frag) (Γ : Cs) : Sp := fun vs H Q _ => ∃ (p dx a : Addr) (fl t n : Nat) (wr : Bool) (x : LwPool.Word), vs = [.ref p] ∧ H p = some (.ins Γ.done dx (doneF fl (.ref a) t wr n)) ∧ WdT K H a x ∧ x.bits.length = 8 ∧
  (x.stamp ≠ LwPool.stampOf t → ∀ l, H l = none → Q (.ref l) (upd H l (.lst [.int (-1)]))) ∧ (x.stamp = LwPool.stampOf t → x.bits.getD (n % 8) false = true → ∀ l, H l = none → Q (.ref l) (upd H l (.lst [.int 2]))) ∧ (x.stamp = LwPool.stampOf t → x.bits.getD (n % 8) false = false → Q .non H)
abbrev s_Done_judge : Stmt := inClass (top 51) 3
theorem sc_Done_judge : FnScope ["self"] ["self"] (defScope s_Done_judge) := ⟨rfl, rfl, rfl, by decide +kernel, rfl, by decide +kernel, by decide +kernel⟩
theorem ok_Done_judge {f : Addr} {fd : FuncData} (F : Fun K "judge" "Done.judge" s_Done_judge f fd) (T : Tx K mg Γ) (g_is_marked : GF P w K mg base "is_marked" 1 ["marks", "k"] (spMarked K)) : FnOk P w K mg base CX0 2 f fd ["self"] (spJDone K Γ) := by
  have sc := sc_Done_judge
  refine F.ok sc (fun vs H Q E h => ?_) (fun cdv A outer s H vs Q E hr h => ?_)
  · obtain ⟨_, _, _, _, _, _, _, _, rfl, _⟩ := h
    rfl
  · obtain ⟨p, dx, a, fl, t, n, wr, x, rfl, hp, ⟨m, ha, hm⟩, hl, k1, k2, k3⟩ := h
    refine ⟨_, (pss_cons (ps_if (pt_cmpR op_ne (pe_ix ix_tup (pe_fld (pv 0) rfl) (pe_gv T.g_STAMP rfl) (fun _ _ => rfl)) (pe_fld (pv 0) rfl) (nomark _))
        (pss_one (ps_ret (pe_lst (pa_cons (pe_gv T.g_NOT_THERE rfl) pa_nil))))
        pss_nil)
      (pss_cons (ps_if (pt_val (pe_gf g_is_marked (hr.mono (by decide)) rfl (pa_cons (pe_ix ix_tup (pe_fld (pv 0) rfl) (pe_gv T.g_MARKS rfl) (fun _ _ => rfl)) (pa_cons (pe_fld (pv 0) rfl) pa_nil))))
        (pss_one (ps_ret (pe_lst (pa_cons (pe_gv T.g_ALREADY rfl) pa_nil))))
        pss_nil)
      (pss_one (ps_ret (pe_gv T.g_GAP rfl))))), ?_⟩
    refine ⟨_, rfl, p, Γ.done, dx, _, _, rfl, hp, T.cl_done, T.n_done_seen, (by walk_at "lk"), a, _, _, _, rfl, rfl, ha, at_of (j := 0) rfl rfl, _, rfl, p, Γ.done, dx, _, _, rfl, hp, T.cl_done, T.n_done_stamp, (by walk_at "lk"), rfl, _, rfl, ifN (fun q => ?_) (fun q => ?_)⟩
    · exact ⟨(by show 1 ≤ sizeLine; decide), k1 fun z => (of_decide_eq_false q) (vint_inj.mpr z)⟩
    · have e := vint_inj.mp (of_decide_eq_true q)
      refine ⟨_, rfl, p, Γ.done, dx, _, _, rfl, hp, T.cl_done, T.n_done_seen, (by walk_at "lk"), a, _, _, _, rfl, rfl, ha, at_of (j := 1) rfl rfl, _, rfl, p, Γ.done, dx, _, _, rfl, hp, T.cl_done, T.n_done_k, (by walk_at "lk"), m, x.bits, n, rfl, hm, hl, _, rfl, ifB (fun q2 => ?_) (fun q2 => ?_)⟩
      · exact ⟨(by show 1 ≤ sizeLine; decide), k2 e q2⟩
      · exact k3 e q2
theorem att_done (T : Tx K mg Γ) {p dx : Addr} {sv : V} {fl k t n : Nat} {Q : VK} (hB : BdAt K Γ H F B) (hO : BOk B) (hn32 : n < 32) (hp : H p = some (.ins Γ.done dx (doneF fl sv t false n))) (hk : fl + k = 3)
    (h : ∀ v H', Chg K (Own F p) H H' → Res K Γ H F p (.done t n) v H' (LwPool.markTry t n k B) → Q v H') : spAtt Γ.done (LDone K Γ) (spJDone K Γ) [.ref p, .ref F.b] H Q E0 := by
  have hi := slotOf_lt t
  obtain ⟨was, hw, hpr⟩ := (hB.at_ _ hi).wl
  obtain ⟨b, h1, h2, h4⟩ := word_at (hO.sl _ hi) hpr hn32
  have c1 : Chg K (Own F p) H (upd H p (.ins Γ.done dx (doneF fl (.ref b) t false n))) := chg_ins hp (.inr rfl)
  have eT : LwPool.markTry t n k B = if ((B.slot (LwPool.slotOf t)).word (n / 8)).stamp ≠ LwPool.stampOf t then .ends B (LwPool.num (-1)) else if ((B.slot (LwPool.slotOf t)).word (n / 8)).bits.getD (n % 8) false = true then .ends B (LwPool.num 2) else .gap B (.marking k ((B.slot (LwPool.slotOf t)).word (n / 8))) := rfl
  rw [eT] at h
  refine ⟨p, dx, .ref F.b, .ref b, _, _, rfl, hp, (by walk_at "lk"), ⟨p, F, B, t, n, dx, fl, sv, false, b, was, rfl, hB, hp, hw, h1, rfl⟩, (by show 7 < 1000; decide), (by walk_at "put"), (by walk_at "lk"), p, dx, b, fl, t, n, false, (B.slot (LwPool.slotOf t)).word (n / 8), rfl, upd_same, h2.chg c1, word_ok (hO.sl _ hi) _, fun e l hl => ?_, fun e e2 l hl => ?_, fun e e2 => ?_⟩
  · rw [if_pos e] at h
    exact h _ _ (c1.trans (chg_new hl)) (Res.back c1 (res_end (F' := F) (hB.other hp) New.refl hl rfl (plAt_of (o := .done t n) upd_same T.cl_done T.n_done_place)))
  · rw [if_neg (fun z => z e), if_pos e2] at h
    exact h _ _ (c1.trans (chg_new hl)) (Res.back c1 (res_end (F' := F) (hB.other hp) New.refl hl rfl (plAt_of (o := .done t n) upd_same T.cl_done T.n_done_place)))
  · rw [if_neg (fun z => z e), if_neg (by rw [e2]; exact Bool.false_ne_true)] at h
    exact h _ _ c1 ⟨rfl, F, hB.other hp, New.refl, dx, b, fl, upd_same, h2.chg c1, hk⟩
abbrev s_Done_begin : Stmt := inClass (top 51) 1
theorem sc_Done_begin : FnScope ["self", "board"] ["self", "board"] (defScope s_Done_begin) := ⟨rfl, rfl, rfl, by decide +kernel, rfl, by decide +kernel, by decide +kernel⟩
theorem ok_Done_begin {f : Addr} {fd : FuncData} (F : Fun K "begin" "Done.begin" s_Done_begin f fd) (T : Tx K mg Γ) (g_has_phase : GF P w K mg base "has_phase" 2 ["board", "ticket", "phase"] (spHas K Γ)) (g_slot_of : GF P w K mg base "slot_of" 1 ["board", "ticket"] (spSlotOf K Γ))
    (m_attempt : MF P w K mg base Γ.done "attempt" 4 ["self", "board"] (spAtt Γ.done (LDone K Γ) (spJDone K Γ))) : FnOk P w K mg base CX0 5 f fd ["self", "board"] (spBegin K Γ fun o => ∃ t n, o = .done t n) := by
  have sc := sc_Done_begin
  refine F.ok sc (fun vs H Q E h => ?_) (fun cdv A outer s H vs Q E hr h => ?_)
  · obtain ⟨_, _, _, _, rfl, _⟩ := h
    rfl
  · obtain ⟨p, F, B, o, rfl, ⟨t, n, rfl⟩, hB, hO, ⟨dx, hp⟩, k⟩ := h
    have hi := slotOf_lt t
    have eB : LwPool.begins (.done t n) B = if 32 ≤ n then .ends B (LwPool.num (-4)) else if B.isAt t 2 = false then .ends B (LwPool.num (-1)) else if (B.slot (LwPool.slotOf t)).count ≤ n then .ends B (LwPool.num (-3)) else LwPool.markTry t n LwPool.TRIES B := rfl
    rw [eB] at k
    refine ⟨_, (pss_cons (ps_if (pt_cmpR op_ge (pe_fld (pv 0) rfl) (pe_gv T.g_MOST_SLICES rfl) (nomark _))
        (pss_one (ps_ret (pe_lst (pa_cons (pe_gv T.g_OUT_OF_RANGE rfl) pa_nil))))
        pss_nil)
      (pss_cons (ps_if (pt_not (pt_val (pe_gf g_has_phase (hr.mono (by decide)) rfl (pa_cons (pv 1) (pa_cons (pe_fld (pv 0) rfl) (pa_cons (pe_gv T.g_PHASE_OPEN rfl) pa_nil))))))
        (pss_one (ps_ret (pe_lst (pa_cons (pe_gv T.g_NOT_THERE rfl) pa_nil))))
        pss_nil)
      (pss_cons (ps_if (pt_cmpR op_ge (pe_fld (pv 0) rfl) (pe_fld (pe_gf g_slot_of (hr.mono (by decide)) rfl (pa_cons (pv 1) (pa_cons (pe_fld (pv 0) rfl) pa_nil))) rfl) (nomark _))
        (pss_one (ps_ret (pe_lst (pa_cons (pe_gv T.g_NO_SUCH_SLICE rfl) pa_nil))))
        pss_nil)
      (pss_one (ps_ret (pe_mf m_attempt (hr.mono (by decide)) (pv 0) (pa_cons (pv 1) pa_nil))))))), ?_⟩
    refine ⟨_, rfl, p, Γ.done, dx, _, _, rfl, hp, T.cl_done, T.n_done_k, (by walk_at "lk"), _, _, rfl, rfl, _, rfl, ifD (fun q => ?_) (fun q => ?_)⟩
    · rw [if_pos (by omega)] at k
      exact ⟨(by show 1 ≤ sizeLine; decide), fun l hl => k _ _ (chg_new hl) (res_end (F' := F) hB New.refl hl rfl (plAt_of (o := .done t n) hp T.cl_done T.n_done_place))⟩
    · rw [if_neg (by omega)] at k
      refine ⟨_, rfl, _, rfl, p, Γ.done, dx, _, _, rfl, hp, T.cl_done, T.n_done_ticket, (by walk_at "lk"), F, B, t, 2, rfl, hB, fun H1 s1 => ⟨_, rfl, ifN (fun q2 => ?_) (fun q2 => ?_)⟩⟩
      · rw [if_pos q2] at k
        exact ⟨(by show 1 ≤ sizeLine; decide), fun l hl => k _ _ (s1.chg.trans (chg_new hl)) (res_end (F' := F) (hB.same s1) New.refl hl rfl (plAt_of (o := .done t n) (s1 _ _ hp) T.cl_done T.n_done_place))⟩
      · rw [if_neg (by rw [q2]; exact fun z => nomatch z)] at k
        have hB1 := hB.same s1
        have hp1 := s1 _ _ hp
        obtain ⟨ds, ta, g, j, hs, ht, hn, hj⟩ := (hB1.at_ _ hi).ob
        refine ⟨_, rfl, p, Γ.done, dx, _, _, rfl, hp1, T.cl_done, T.n_done_k, (by walk_at "lk"), _, rfl, _, rfl, p, Γ.done, dx, _, _, rfl, hp1, T.cl_done, T.n_done_ticket, (by walk_at "lk"), F, B, t, rfl, hB1, _, Γ.slot, ds, _, _, rfl, hs, T.cl_slot, T.n_slot_slices, (by walk_at "lk"), _, _, rfl, rfl, _, rfl, ifD (fun q3 => ?_) (fun q3 => ?_)⟩
        · rw [if_pos (by omega)] at k
          exact ⟨(by show 1 ≤ sizeLine; decide), fun l hl => k _ _ (s1.chg.trans (chg_new hl)) (res_end (F' := F) hB1 New.refl hl rfl (plAt_of (o := .done t n) hp1 T.cl_done T.n_done_place))⟩
        · rw [if_neg (by omega)] at k
          exact ⟨_, rfl, p, dx, _, rfl, hp1, (by walk_at "lk"), _, rfl, att_done T hB1 hO (by omega) hp1 rfl fun v H' c r => k v H' (s1.chg.trans c) (Res.back (X := Own F p) s1.chg r)⟩
def spWDone (K : PySem.W.Frag) (Γ : Cs) : Sp := fun vs H Q _ => ∃ (p dx a : Addr) (F : Ft) (B : LwPool.Board) (t n fl : Nat) (x : LwPool.Word), vs = [.ref p, .ref F.b] ∧ BdAt K Γ H F B ∧ BOk B ∧ H p = some (.ins Γ.done dx (doneF fl (.ref a) t false n)) ∧ WdT K H a x ∧ x.stamp = LwPool.stampOf t ∧ x.bits.length = 8 ∧ n < 32 ∧
  ∀ v H', Chg K (Own F p) H H' → Res K Γ H F p (.done t n) v H' (LwPool.finish t [] (B.with_ (LwPool.slotOf t) { B.slot (LwPool.slotOf t) with words := (B.slot (LwPool.slotOf t)).words.set (n / 8) { x with bits := x.bits.set (n % 8) true } })) → Q v H'
abbrev s_Done_write : Stmt := inClass (top 51) 4
theorem sc_Done_write : FnScope ["self", "board", "slot"] ["self", "board"] (defScope s_Done_write) := ⟨rfl, rfl, rfl, by decide +kernel, rfl, by decide +kernel, by decide +kernel⟩
theorem ok_Done_write {f : Addr} {fd : FuncData} (F : Fun K "write" "Done.write" s_Done_write f fd) (T : Tx K mg Γ) (g_slot_of : GF P w K mg base "slot_of" 1 ["board", "ticket"] (spSlotOf K Γ)) (g_with_mark : GF P w K mg base "with_mark" 1 ["marks", "k"] (spWith K)) (m_begin_finish : MF P w K mg base Γ.done "begin_finish" 5 ["self", "slot"] (spBegFin K Γ Γ.done spEDone)) :
    FnOk P w K mg base CX0 6 f fd ["self", "board"] (spWDone K Γ) := by
  have sc := sc_Done_write
  refine F.ok sc (fun vs H Q E h => ?_) (fun cdv A outer s H vs Q E hr h => ?_)
  · obtain ⟨_, _, _, _, _, _, _, _, _, rfl, _⟩ := h
    rfl
  · obtain ⟨p, dx, a, F, B, t, n, fl, x, rfl, hB, hO, hp, ⟨m, ha, hm⟩, hst, hl8, hn32, k⟩ := h
    have hi := slotOf_lt t
    refine ⟨_, (pss_cons (ps_set (i := 2) sc.nd rfl (Or.inl rfl) (pe_gf g_slot_of (hr.mono (by decide)) rfl (pa_cons (pv 1) (pa_cons (pe_fld (pv 0) rfl) pa_nil))))
      (pss_cons (ps_asg (pe_tup (pa_cons (pe_fld (pv 0) rfl) (pa_cons (pe_gf g_with_mark (hr.mono (by decide)) rfl (pa_cons (pe_ix ix_tup (pe_fld (pv 0) rfl) (pe_gv T.g_MARKS rfl) (fun _ _ => rfl)) (pa_cons (pe_fld (pv 0) rfl) pa_nil))) pa_nil))) (pg_sub (pe_fld (pv 2) rfl) (pe_op op_fdiv (pe_fld (pv 0) rfl) (pe_gv T.g_MARKS_OF_A_WORD rfl)) set_list))
      (pss_one (ps_ret (pe_mf m_begin_finish (hr.mono (by decide)) (pv 0) (pa_cons (pv 2) pa_nil)))))), ?_⟩
    refine ⟨_, rfl, _, rfl, p, Γ.done, dx, _, _, rfl, hp, T.cl_done, T.n_done_ticket, (by walk_at "lk"), F, B, t, rfl, hB, _, rfl, p, Γ.done, dx, _, _, rfl, hp, T.cl_done, T.n_done_stamp, (by walk_at "lk"),
      _, rfl, p, Γ.done, dx, _, _, rfl, hp, T.cl_done, T.n_done_seen, (by walk_at "lk"), a, _, _, _, rfl, rfl, ha, at_of (j := 1) rfl rfl, _, rfl, p, Γ.done, dx, _, _, rfl, hp, T.cl_done, T.n_done_k, (by walk_at "lk"), m, x.bits, n, rfl, hm, hl8, fun m2 H1 s1 hm2 => ⟨(by show 2 ≤ sizeLine; decide), fun q hq => ?_⟩⟩
    have s2 : Same H (upd H1 q (.tup [vi (LwPool.stampOf t), .ref m2])) := s1.trans (Same.new hq)
    have hB2 := hB.same s2
    have hp2 := s2 _ _ hp
    obtain ⟨ds, ta, g, j, hs, ht, hn, hj⟩ := (hB2.at_ _ hi).ob
    obtain ⟨was, hw, hpr⟩ := (hB2.at_ _ hi).wl
    have hlen : n / 8 < (was.map V.ref).length := by
      rw [List.length_map, paired_len hpr, (hO.sl _ hi).wds]; omega
    have hq2 : WdT K (upd H1 q (.tup [vi (LwPool.stampOf t), .ref m2])) q { x with bits := x.bits.set (n % 8) true } := ⟨m2, by rw [hst]; exact SqT.of upd_same, tup_same (Same.new hq) hm2⟩
    obtain ⟨hS, F', hB', hN⟩ := hB2.setWord hO (n := n / 8) hi hw hpr hq2
    have hok : SlotOk { B.slot (LwPool.slotOf t) with words := (B.slot (LwPool.slotOf t)).words.set (n / 8) { x with bits := x.bits.set (n % 8) true } } := by
      have z := hO.sl _ hi
      refine ⟨z.cnt, z.giv, z.job, (List.length_set ..).trans z.wds, fun y hy => ?_⟩
      rcases List.mem_or_eq_of_mem_set hy with e | e
      · exact z.bts y e
      · rw [e]
        exact (List.length_set ..).trans hl8
    have c3 : Chg K (Own F p) (upd H1 q (.tup [vi (LwPool.stampOf t), .ref m2])) (upd (upd H1 q (.tup [vi (LwPool.stampOf t), .ref m2])) (F.w (LwPool.slotOf t)) (.lst ((was.map V.ref).set (n / 8) (.ref q)))) := chg_lst hw (own_w hi)
    have hp3 : (upd (upd H1 q (.tup [vi (LwPool.stampOf t), .ref m2])) (F.w (LwPool.slotOf t)) (.lst ((was.map V.ref).set (n / 8) (.ref q)))) p = some (.ins Γ.done dx (doneF fl (.ref a) t false n)) := by
      rw [upd_ne (no_w hB2 hp2 hi).symm]; exact hp2
    refine ⟨_, rfl, F.s (LwPool.slotOf t), Γ.slot, ds, _, _, rfl, hs, T.cl_slot, T.n_slot_words, (by walk_at "lk"), _, rfl, p, Γ.done, dx, _, _, rfl, hp2, T.cl_done, T.n_done_k, (by walk_at "lk"), _, _, rfl, rfl, ⟨by decide, by decide⟩, F.w (LwPool.slotOf t), _, _, n / 8, rfl, rfl, hw, ?_, _, rfl, p, dx, _, rfl, hp3, (by walk_at "lk"), _, rfl, ?_⟩
    · have e : (n : Int) / 8 = ((n / 8 : Nat) : Int) := by omega
      rw [e]
      exact ixN_nat hlen
    have c4 : Chg K (Own F p) _ (upd (upd (upd H1 q (.tup [vi (LwPool.stampOf t), .ref m2])) (F.w (LwPool.slotOf t)) (.lst ((was.map V.ref).set (n / 8) (.ref q)))) p (.ins Γ.done dx (doneF fl (.ref a) t true n))) := chg_ins hp3 (.inr rfl)
    have hB4 := hB'.other (u := .ins Γ.done dx (doneF fl (.ref a) t true n)) hp3
    have hN' : New H F F' := ⟨hN.1, fun b hb => (hN.2 b hb).elim .inl fun z => .inr (s2.free z)⟩
    have eF : ∀ B' s', B'.slot (LwPool.slotOf t) = s' → LwPool.finish t [] B' = if s'.complete = true then .gap B' (.finishing []) else .ends B' (LwPool.nums 0 []) := fun B' s' e => by
      unfold LwPool.finish
      rw [e]
    rw [eF _ _ (slot_at hO hi)] at k
    refine ⟨p, dx, F.s (LwPool.slotOf t), F.w (LwPool.slotOf t), _, _, _, rfl, hp3, (by show 7 < 1000; decide), (by walk_at "put"), (by walk_at "lk"), hS.chg (X := fun a => a = p) (chg_ins hp3 rfl) (no_s hB2 hp2 hi) (no_w hB2 hp2 hi), hok, fun e H' s5 => ?_, fun e H' s5 => ?_⟩
    · rw [if_pos e] at k
      exact k _ _ ((((s2.chg).trans c3).trans c4).trans s5.chg) ⟨rfl, F', hB4.same s5, hN', dx, .ref a, fl, s5 _ _ upd_same⟩
    · rw [if_neg (by rw [e]; exact Bool.false_ne_true)] at k
      exact ⟨p, _, rfl, fun l hl => k _ _ (((((s2.chg).trans c3).trans c4).trans s5.chg).trans (chg_new hl)) (res_end (hB4.same s5) hN' hl rfl (plAt_of (o := .done t n) (s5 _ _ upd_same) T.cl_done T.n_done_place))⟩
def wData (x : LwPool.Word) : PyData := .tuple [.int x.stamp, .tuple (x.bits.map fun b => .int (PoolCalls.bit b))]
theorem shapedW {x : LwPool.Word} (h : x.bits.length = 8) : SeqAt.shaped (wData x) = true := by
  obtain ⟨st, l⟩ := x
  unfold wData
  match l, h with
  | [_, _, _, _, _, _, _, _], _ => rfl
theorem bit_eq (a b : Bool) : (((PoolCalls.bit a : Nat) : Int) == ((PoolCalls.bit b : Nat) : Int)) = (a == b) := by cases a <;> cases b <;> rfl
theorem eqvBits : ∀ l m : List Bool, PyData.eqvAll (l.map fun b => .int (PoolCalls.bit b)) (m.map fun b => .int (PoolCalls.bit b)) = (l == m)
  | [], [] => rfl
  | [], _ :: _ => rfl
  | _ :: _, [] => rfl
  | a :: l, b :: m => by
    have ih := eqvBits l m
    rw [List.map_cons, List.map_cons]
    simp only [PyData.eqvAll, PyData.eqv]
    rw [ih, bit_eq]
    rfl
theorem eqvWW (x y : LwPool.Word) : PyData.eqv (wData x) (wData y) = LwPool.sameWord x y := by
  unfold wData LwPool.sameWord
  simp only [PyData.eqv, PyData.eqvAll, Bool.and_true, ieq]
  rw [eqvBits]
  rfl
theorem dpBits {m : Addr} {l : List Bool} (h : BtT K H m l) : Dp K H (.ref m) (.tuple (l.map fun b => .int (PoolCalls.bit b))) := by
  refine .tup h ?_
  clear h
  induction l with
  | nil => exact .nil
  | cons a l ih => exact .cons (.int _) ih
theorem dpWord {a : Addr} {x : LwPool.Word} (h : WdT K H a x) : Dp K H (.ref a) (wData x) := by
  obtain ⟨m, h1, h2⟩ := h
  exact .tup h1 (.cons (.int _) (.cons (dpBits h2) .nil))
theorem go_done (T : Tx K mg Γ) : ∀ (vs : List V) (H : Hp) (Q : VK) (E : XK), spGo K Γ (fun o => ∃ t n, o = .done t n) vs H Q E → spFinGo Γ.done (spFin K Γ Γ.done spEDone) (spCmp K Γ.done (LDone K Γ) (spWDone K Γ) (spAtt Γ.done (LDone K Γ) (spJDone K Γ))) vs H Q E := by
  intro vs H Q E h
  obtain ⟨p, F, B, o, a, rfl, ⟨t, n, rfl⟩, hB, hO, hG, hA, k⟩ := h
  have hi := slotOf_lt t
  cases a with
  | marking m x =>
    obtain ⟨dx, sa, fl, hp, hv, hk⟩ := hG
    obtain ⟨hn32, hm1, hm3, hst, hl8⟩ := hA
    obtain ⟨was, hw, hpr⟩ := (hB.at_ _ hi).wl
    obtain ⟨b, h1, h2, h4⟩ := word_at (hO.sl _ hi) hpr hn32
    have eG : LwPool.goesOn (.done t n) (.marking m x) B = if LwPool.sameWord ((B.slot (LwPool.slotOf t)).word (n / 8)) x = true then LwPool.finish t [] (B.with_ (LwPool.slotOf t) { B.slot (LwPool.slotOf t) with words := (B.slot (LwPool.slotOf t)).words.set (n / 8) { x with bits := x.bits.set (n % 8) true } }) else if m ≤ 1 then .ends B (LwPool.num (-2)) else LwPool.markTry t n (m - 1) B := rfl
    rw [eG] at k
    refine ⟨p, dx, .ref F.b, false, _, rfl, hp, (by walk_at "lk"), (by walk_at "lk"), (by walk_at "lk"), (fun z => nomatch z), fun _ => ?_⟩
    have c1 : Chg K (Own F p) H (upd H p (.ins Γ.done dx (doneF (fl + 1) (.ref sa) t false n))) := chg_ins hp (.inr rfl)
    refine ⟨p, dx, .ref F.b, .ref b, .ref sa, _, fl, _, wData ((B.slot (LwPool.slotOf t)).word (n / 8)), wData x, rfl, hp, (by show 5 < 900; decide), (by walk_at "lk"), (by walk_at "lk"), (by walk_at "lk"), (by walk_at "lk"), (by walk_at "lk"),
      ⟨p, F, B, t, n, dx, fl, .ref sa, false, b, was, rfl, hB, hp, hw, h1, rfl⟩, dpWord h2, dpWord hv, shapedW (word_ok (hO.sl _ hi) _), shapedW hl8, fun q => ?_, fun q q2 l hl => ?_, fun q q2 => ?_⟩
    · rw [eqvWW] at q
      rw [if_pos q] at k
      exact ⟨p, dx, sa, F, B, t, n, fl, x, rfl, hB, hO, hp, hv, hst, hl8, hn32, k⟩
    · rw [eqvWW] at q
      rw [if_neg (by rw [q]; exact Bool.false_ne_true), if_pos (by omega)] at k
      exact k _ _ (c1.trans (chg_new hl)) (Res.back c1 (res_end (F' := F) (hB.other hp) New.refl hl rfl (plAt_of (o := .done t n) upd_same T.cl_done T.n_done_place)))
    · rw [eqvWW] at q
      rw [if_neg (by rw [q]; exact Bool.false_ne_true), if_neg (by omega)] at k
      exact att_done T (k := m - 1) (fl := fl + 1) (hB.other hp) hO hn32 upd_same (by omega) fun v H' c r => k v H' (c1.trans c) (Res.back c1 r)
  | finishing l =>
    obtain ⟨dx, sa, fl, hp⟩ := hG
    have el : l = [] := hA
    subst el
    have eG : LwPool.goesOn (.done t n) (.finishing []) B = if B.isAt t 2 = true then .ends (B.with_ (LwPool.slotOf t) { B.slot (LwPool.slotOf t) with state := ⟨LwPool.stampOf t, 4⟩ }) (LwPool.nums 1 []) else .ends B (LwPool.nums 0 []) := rfl
    rw [eG] at k
    refine ⟨p, dx, .ref F.b, true, _, rfl, hp, (by walk_at "lk"), (by walk_at "lk"), (by walk_at "lk"), (fun _ => ?_), fun z => nomatch z⟩
    refine ⟨p, dx, F, B, t, _, _, rfl, hB, hO, hp, (by walk_at "lk"), (by walk_at "lk"), (by walk_at "lk"), fun q H' s1 => ?_, fun q H' F' c hp' hB' hN => ?_⟩
    · rw [if_neg (by rw [q]; exact Bool.false_ne_true)] at k
      exact ⟨p, _, rfl, fun l hl => k _ _ (s1.chg.trans (chg_new hl)) (res_end (F' := F) (hB.same s1) New.refl hl rfl (plAt_of (o := .done t n) (s1 _ _ hp) T.cl_done T.n_done_place))⟩
    · rw [if_pos q] at k
      exact ⟨p, _, rfl, fun l hl => k _ _ (c.trans (chg_new hl)) (res_end hB' hN hl rfl (plAt_of (o := .done t n) hp' T.cl_done T.n_done_place))⟩
  | _ => exact hA.elim
end
end Po

namespace Po
open PySem PySem.Spec PyProof.Rows L2
local macro_rules | `(tactic| walk_at "lk") => `(tactic| repeat (first | exact lk_hit | exact lk_nil | refine (lk_miss (by decide +kernel)).trans ?_))
local macro_rules | `(tactic| walk_at "put") => `(tactic| repeat (first | exact put_hit | exact put_nil | (apply put_miss; · decide +kernel)))
theorem out_take (a b c : Nat) (j : List Nat) : ([V.int 0, vi a, vi b, vi c] ++ j.map vi) = (PoolNeutral.outInts ⟨0, [a, b, c], j⟩).map V.int := by
  simp [PoolNeutral.outInts, PoolNeutral.ints]
section
variable {P : Program} {w : World} {K : PySem.W.Frag} {mg : Str → Option Value} {base : Heap} {Γ : Cs} {H : Hp} {F : Ft} {B : LwPool.Board}
/-! ### take -/
def spKeep (K : PySem.W.Frag) (Γ : Cs) : Sp := fun vs H Q _ => ∃ (p a ws dx : Addr) (s : LwPool.Slot) (fl at_ : Nat) (sv tv : V), vs = [.ref p, .ref a] ∧ SlotAt K Γ H a ws s ∧ s.job.length ≤ 4 ∧ H p = some (.ins Γ.take dx (takeF fl at_ sv tv)) ∧ a ≠ p ∧ ws ≠ p ∧
  ∀ H' l g, Chg K (fun b => b = p) H H' → H l = none → H' p = some (.ins Γ.take dx (takeF fl at_ (.ref g) (.ref l))) → NxT K H' g s.next → H' l = some (.lst ((PoolNeutral.outInts ⟨0, [LwPool.ticketOf s.state.stamp at_, s.next.given, s.kind], s.job⟩).map V.int)) → Q .non H'
abbrev s_Take_keep : Stmt := inClass (top 45) 4
theorem sc_Take_keep : FnScope ["self", "slot", "ticket"] ["self", "slot"] (defScope s_Take_keep) := ⟨rfl, rfl, rfl, by decide +kernel, rfl, by decide +kernel, by decide +kernel⟩
theorem ok_Take_keep {f : Addr} {fd : FuncData} (F : Fun K "keep" "Take.keep" s_Take_keep f fd) (T : Tx K mg Γ) (g_ticket_of : GF P w K mg base "ticket_of" 1 ["stamp", "number"] spTicket) : FnOk P w K mg base CX0 2 f fd ["self", "slot"] (spKeep K Γ) := by
  have sc := sc_Take_keep
  refine F.ok sc (fun vs H Q E h => ?_) (fun cdv A outer s H vs Q E hr h => ?_)
  · obtain ⟨_, _, _, _, _, _, _, _, _, rfl, _⟩ := h
    rfl
  · obtain ⟨p, a, ws, dx, s, fl, at_, sv, tv, rfl, hS, hjl, hp, nap, nwp, k⟩ := h
    refine ⟨_, (pss_cons (ps_fldP (pv 0) (pe_fld (pv 1) rfl) rfl)
      (pss_cons (ps_set (i := 2) sc.nd rfl (Or.inl rfl) (pe_gf g_ticket_of (hr.mono (by decide)) rfl (pa_cons (pe_ix ix_tup (pe_fld (pv 1) rfl) (pe_gv T.g_STAMP rfl) (fun _ _ => rfl)) (pa_cons (pe_fld (pv 0) rfl) pa_nil))))
      (pss_one (ps_fldP (pv 0) (pe_op op_cat (pe_lst (pa_cons pe_int (pa_cons (pv 2) (pa_cons (pe_ix ix_tup (pe_fld (pv 1) rfl) (pe_gv T.g_GIVEN rfl) (fun _ _ => rfl)) (pa_cons (pe_fld (pv 1) rfl) pa_nil))))) (pe_callTy call_list_of (by rfl) T.b_list bo_list (pa_cons (pe_fld (pv 1) rfl) pa_nil))) rfl)))), ?_⟩
    obtain ⟨ds, t, g, j, hs, ht, hn, hj⟩ := hS.ob
    have c1 : Chg K (fun b => b = p) H (upd H p (.ins Γ.take dx (takeF fl at_ (.ref g) tv))) := chg_ins hp rfl
    have hs1 : (upd H p (.ins Γ.take dx (takeF fl at_ (.ref g) tv))) a = some (.ins Γ.slot ds (slotF t g s.count s.kind j ws)) := by rw [upd_ne nap]; exact hs
    refine ⟨_, rfl, a, Γ.slot, ds, _, _, rfl, hs, T.cl_slot, T.n_slot_giving, (by walk_at "lk"), _, rfl, p, Γ.take, dx, _, rfl, hp, T.cl_take, T.n_take_seen, (by show 5 < 1000; decide), _, (by walk_at "put"),
      _, rfl, a, Γ.slot, ds, _, _, rfl, hs1, T.cl_slot, T.n_slot_state, (by walk_at "lk"), t, _, _, _, rfl, rfl, ht.chg c1, at_of (j := 0) rfl rfl, _, rfl, p, Γ.take, dx, _, _, rfl, upd_same, T.cl_take, T.n_take_at, (by walk_at "lk"), s.state.stamp, at_, rfl,
      _, rfl, _, rfl, a, Γ.slot, ds, _, _, rfl, hs1, T.cl_slot, T.n_slot_giving, (by walk_at "lk"), g, _, _, _, rfl, rfl, hn.chg c1, at_of (j := 1) rfl rfl, _, rfl, a, Γ.slot, ds, _, _, rfl, hs1, T.cl_slot, T.n_slot_kind, (by walk_at "lk"), (by show 4 ≤ sizeLine; decide), fun l1 hl1 => ?_⟩
    have hs2 := keep_new (u := .lst [V.int 0, vi (LwPool.ticketOf s.state.stamp at_), vi s.next.given, vi s.kind]) hs1 hl1
    have c2 : Chg K (fun b => b = p) _ (upd (upd H p (.ins Γ.take dx (takeF fl at_ (.ref g) tv))) l1 (.lst [V.int 0, vi (LwPool.ticketOf s.state.stamp at_), vi s.next.given, vi s.kind])) := chg_new hl1
    refine ⟨_, rfl, a, Γ.slot, ds, _, _, rfl, hs2, T.cl_slot, T.n_slot_job, (by walk_at "lk"), j, _, rfl, .inr ((hj.chg c1).chg c2), fun l2 hl2 => ?_⟩
    have n12 : l1 ≠ l2 := ne_of_none upd_same hl2
    refine ⟨l1, l2, _, _, rfl, rfl, keep_new upd_same hl2, upd_same, ?_, fun l hl => ?_⟩
    · rw [List.length_map]
      have : 16 ≤ sizeLine := by decide
      show 4 + s.job.length ≤ sizeLine
      omega
    have c3 : Chg K (fun b => b = p) _ (upd (upd (upd H p (.ins Γ.take dx (takeF fl at_ (.ref g) tv))) l1 (.lst [V.int 0, vi (LwPool.ticketOf s.state.stamp at_), vi s.next.given, vi s.kind])) l2 (.lst (s.job.map vi))) := chg_new hl2
    have c4 : Chg K (fun b => b = p) _ (upd (upd (upd (upd H p (.ins Γ.take dx (takeF fl at_ (.ref g) tv))) l1 (.lst [V.int 0, vi (LwPool.ticketOf s.state.stamp at_), vi s.next.given, vi s.kind])) l2 (.lst (s.job.map vi))) l (.lst ([V.int 0, vi (LwPool.ticketOf s.state.stamp at_), vi s.next.given, vi s.kind] ++ s.job.map vi))) := chg_new hl
    have hp4 : (upd (upd (upd (upd H p (.ins Γ.take dx (takeF fl at_ (.ref g) tv))) l1 (.lst [V.int 0, vi (LwPool.ticketOf s.state.stamp at_), vi s.next.given, vi s.kind])) l2 (.lst (s.job.map vi))) l (.lst ([V.int 0, vi (LwPool.ticketOf s.state.stamp at_), vi s.next.given, vi s.kind] ++ s.job.map vi))) p = some (.ins Γ.take dx (takeF fl at_ (.ref g) tv)) := keep_new (keep_new (keep_new upd_same hl1) hl2) hl
    have hlf : H l = none := ((c1.trans c2).trans c3).free hl
    have nlp : l ≠ p := (ne_of_none hp hlf).symm
    refine ⟨_, rfl, p, Γ.take, dx, _, rfl, hp4, T.cl_take, T.n_take_told, (by show 5 < 1000; decide), _, (by walk_at "put"), ?_⟩
    have c5 : Chg K (fun b => b = p) _ (upd (upd (upd (upd (upd H p (.ins Γ.take dx (takeF fl at_ (.ref g) tv))) l1 (.lst [V.int 0, vi (LwPool.ticketOf s.state.stamp at_), vi s.next.given, vi s.kind])) l2 (.lst (s.job.map vi))) l (.lst ([V.int 0, vi (LwPool.ticketOf s.state.stamp at_), vi s.next.given, vi s.kind] ++ s.job.map vi))) p (.ins Γ.take dx (takeF fl at_ (.ref g) (.ref l)))) := chg_ins hp4 rfl
    refine k _ l g ((((c1.trans c2).trans c3).trans c4).trans c5) hlf upd_same (((((hn.chg c1).chg c2).chg c3).chg c4).chg c5) ?_
    rw [upd_ne nlp, upd_same, out_take]
def spSeekT (K : PySem.W.Frag) (Γ : Cs) : Sp := fun vs H Q _ => ∃ (p dx : Addr) (F : Ft) (B : LwPool.Board) (fl at_ k : Nat) (sv tv : V), vs = [.ref p, .ref F.b] ∧ BdAt K Γ H F B ∧ BOk B ∧ H p = some (.ins Γ.take dx (takeF fl at_ sv tv)) ∧ at_ ≤ 2 ∧ fl + k = 3 ∧
  ∀ v H', Chg K (Own F p) H H' → Res K Γ H F p .take v H' (LwPool.takeFrom B k (2 - at_)) → Q v H'
theorem takeFrom_step {k i : Nat} (hi : i < 2) : LwPool.takeFrom B k (2 - i) = if LwPool.mayGive (B.slot i) = true then .gap B (.taking i k (B.slot i).state (B.slot i).next (B.slot i).kind (B.slot i).job) else LwPool.takeFrom B k (2 - (i + 1)) := by
  match i, hi with
  | 0, _ => rfl
  | 1, _ => rfl
abbrev s_Take_seek : Stmt := inClass (top 45) 3
theorem sc_Take_seek : FnScope ["self", "board", "slot"] ["self", "board"] (defScope s_Take_seek) := ⟨rfl, rfl, rfl, by decide +kernel, rfl, by decide +kernel, by decide +kernel⟩
theorem ok_Take_seek {f : Addr} {fd : FuncData} (F : Fun K "seek" "Take.seek" s_Take_seek f fd) (T : Tx K mg Γ) (g_has_slice_left : GF P w K mg base "has_slice_left" 1 ["slot"] (spLeft K Γ)) (m_keep : MF P w K mg base Γ.take "keep" 2 ["self", "slot"] (spKeep K Γ)) : FnOk P w K mg base CX0 3 f fd ["self", "board"] (spSeekT K Γ) := by
  have sc := sc_Take_seek
  refine F.ok sc (fun vs H Q E h => ?_) (fun cdv A outer s H vs Q E hr h => ?_)
  · obtain ⟨_, _, _, _, _, _, _, _, _, rfl, _⟩ := h
    rfl
  · obtain ⟨p, dx, F, B, fl, at0, kk, sv, tv, rfl, hB, hO, hp, hat, hk, k⟩ := h
    refine ⟨_, (pss_cons (ps_while PassesOwn.never (pt_cmpR op_lt (pe_fld (pv 0) rfl) (pe_gv T.g_SLOTS rfl) (nomark _))
        (pss_cons (ps_set (i := 2) sc.nd rfl (Or.inl rfl) (pe_ix ix_list (pe_fld (pv 1) rfl) (pe_fld (pv 0) rfl) (fun _ _ => rfl)))
      (pss_cons (ps_if (pt_val (pe_gf g_has_slice_left (hr.mono (by decide)) rfl (pa_cons (pv 2) pa_nil)))
        (pss_cons (ps_expr (pe_mf m_keep (hr.mono (by decide)) (pv 0) (pa_cons (pv 2) pa_nil)))
      (pss_one (ps_ret (pe_gv T.g_GAP rfl))))
        pss_nil)
      (pss_one (ps_augP (pv 0) pe_int in_add)))))
      (pss_one (ps_ret (pe_lst (pa_cons (pe_gv T.g_NOT_THERE rfl) pa_nil))))), ?_⟩
    refine ⟨fun m σ H' => ∃ (i : Nat) (sl : Option V), m = 2 - i ∧ i ≤ 2 ∧ σ = [some (.ref p), some (.ref F.b), sl] ∧ Chg K (fun b => b = p) H H' ∧ H' p = some (.ins Γ.take dx (takeF fl i sv tv)) ∧ LwPool.takeFrom B kk (2 - at0) = LwPool.takeFrom B kk (2 - i), ⟨2 - at0, at0, none, rfl, hat, rfl, Chg.refl, hp, rfl⟩, ?_⟩
    rintro m σ H1 ⟨i, sl, rfl, hi2, rfl, c1, hp1, eT⟩
    have hB1 : BdAt K Γ H1 F B := hB.chg c1 fun a ha e => own_ins hB hp (e ▸ ha)
    have c1' : Chg K (Own F p) H H1 := c1.mono fun b e => .inr e
    refine ⟨_, rfl, p, Γ.take, dx, _, _, rfl, hp1, T.cl_take, T.n_take_at, (by walk_at "lk"), _, _, rfl, rfl, _, rfl, ifD (fun q => ?_) (fun q => ?_)⟩
    · have hi : i < 2 := by omega
      obtain ⟨db, hb⟩ := id hB1.bd
      rw [takeFrom_step hi] at eT
      refine ⟨fun σ' H' => ∃ sl', σ' = [some (.ref p), some (.ref F.b), sl'] ∧ Chg K (fun b => b = p) H H' ∧ H' p = some (.ins Γ.take dx (takeF fl (i + 1) sv tv)) ∧ LwPool.takeFrom B kk (2 - at0) = LwPool.takeFrom B kk (2 - (i + 1)), ?_, ?_⟩
      · rintro σ' H' ⟨sl', rfl, c', hp', e'⟩
        exact ⟨2 - (i + 1), by omega, i + 1, sl', rfl, by omega, rfl, c', hp', e'⟩
      refine ⟨_, rfl, F.b, Γ.board, db, _, _, rfl, hb, T.cl_board, T.n_board_slots, (by walk_at "lk"), _, rfl, p, Γ.take, dx, _, _, rfl, hp1, T.cl_take, T.n_take_at, (by walk_at "lk"), F.ls, _, _, _, rfl, rfl, SqL.of hB1.ls, at_of (j := i) rfl (slots_at hi), _, rfl, _, _, _, rfl, hB1.at_ i hi, _, rfl, ifB (fun q2 => ?_) (fun q2 => ?_)⟩
      · rw [if_pos q2] at eT
        rw [eT] at k
        refine ⟨_, rfl, p, dx, _, rfl, hp1, (by walk_at "lk"), _, rfl, p, F.s i, F.w i, dx, B.slot i, fl, i, sv, tv, rfl, hB1.at_ i hi, (hO.sl i hi).job, hp1, no_s hB1 hp1 hi, no_w hB1 hp1 hi, fun H2 l g c2 hl hp2 hn2 hl2 => ?_⟩
        refine k _ _ (c1'.trans (c2.mono fun b e => .inr e)) ⟨rfl, F, hB1.chg c2 fun a ha e => own_ins hB1 hp1 (e ▸ ha), New.refl, dx, g, l, fl, hp2, hn2, hl2, hB1.notNone hl, (ne_of_none hp1 hl).symm, hk⟩
      · rw [if_neg (by rw [q2]; exact Bool.false_ne_true)] at eT
        refine ⟨_, rfl, p, Γ.take, dx, _, _, rfl, hp1, T.cl_take, T.n_take_at, (by walk_at "lk"), _, _, rfl, rfl, dx, _, hp1, (by show 5 < 1000; decide), _, (by walk_at "put"), ?_⟩
        exact ⟨_, rfl, c1.trans (chg_ins hp1 rfl), upd_same, eT⟩
    · have e2 : i = 2 := by omega
      subst e2
      rw [eT] at k
      exact ⟨(by show 1 ≤ sizeLine; decide), fun l hl => k _ _ (c1'.trans (chg_new hl)) (Res.back c1' (res_end (F' := F) hB1 New.refl hl rfl (plAt_of (o := .take) hp1 T.cl_take T.n_take_place)))⟩
abbrev s_Take_begin : Stmt := inClass (top 45) 1
theorem sc_Take_begin : FnScope ["self", "board"] ["self", "board"] (defScope s_Take_begin) := ⟨rfl, rfl, rfl, by decide +kernel, rfl, by decide +kernel, by decide +kernel⟩
theorem ok_Take_begin {f : Addr} {fd : FuncData} (F : Fun K "begin" "Take.begin" s_Take_begin f fd) (m_seek : MF P w K mg base Γ.take "seek" 3 ["self", "board"] (spSeekT K Γ)) : FnOk P w K mg base CX0 4 f fd ["self", "board"] (spBegin K Γ fun o => o = .take) := by
  have sc := sc_Take_begin
  refine F.ok sc (fun vs H Q E h => ?_) (fun cdv A outer s H vs Q E hr h => ?_)
  · obtain ⟨_, _, _, _, rfl, _⟩ := h
    rfl
  · obtain ⟨p, F, B, o, rfl, rfl, hB, hO, ⟨dx, hp⟩, k⟩ := h
    refine ⟨_, (pss_one (ps_ret (pe_mf m_seek (hr.mono (by decide)) (pv 0) (pa_cons (pv 1) pa_nil)))), ?_⟩
    exact ⟨_, rfl, p, dx, _, rfl, hp, (by walk_at "lk"), _, rfl, p, dx, F, B, 0, 0, 3, _, _, rfl, hB, hO, hp, (by decide), rfl, k⟩
abbrev s_Take_go_on : Stmt := inClass (top 45) 2
theorem sc_Take_go_on : FnScope ["self", "board", "slot"] ["self", "board"] (defScope s_Take_go_on) := ⟨rfl, rfl, rfl, by decide +kernel, rfl, by decide +kernel, by decide +kernel⟩
theorem ok_Take_go_on {f : Addr} {fd : FuncData} (F : Fun K "go_on" "Take.go_on" s_Take_go_on f fd) (T : Tx K mg Γ) (m_is_last_fail : MF P w K mg base Γ.take "is_last_fail" 1 ["self"] (spLast K)) (m_seek : MF P w K mg base Γ.take "seek" 3 ["self", "board"] (spSeekT K Γ)) :
    FnOk P w K mg base CX0 4 f fd ["self", "board"] (spGo K Γ fun o => o = .take) := by
  have sc := sc_Take_go_on
  refine F.ok sc (fun vs H Q E h => ?_) (fun cdv A outer s H vs Q E hr h => ?_)
  · obtain ⟨_, _, _, _, _, rfl, _⟩ := h
    rfl
  · obtain ⟨p, F, B, o, a, rfl, rfl, hB, hO, hG, hA, k⟩ := h
    cases a with
    | taking i m v wn kind job =>
      obtain ⟨dx, sa, l, fl, hp, hv, hl, hlF, hlp, hk⟩ := hG
      obtain ⟨hi, hm1, hm3, hjl, hws, htk⟩ := hA
      have eG : LwPool.goesOn .take (.taking i m v wn kind job) B = if LwPool.sameNext (B.slot i).next wn = true then .ends (B.with_ i { B.slot i with next := { wn with given := wn.given + 1 } }) ⟨0, [LwPool.ticketOf v.stamp i, wn.given, kind], job⟩ else if m ≤ 1 then .ends B (LwPool.num (-2)) else LwPool.takeFrom B (m - 1) (2 - i) := rfl
      rw [eG] at k
      obtain ⟨db, hb⟩ := id hB.bd
      obtain ⟨ds, ta, g, j, hs, ht, hn, hj⟩ := (hB.at_ i hi).ob
      refine ⟨_, (pss_cons (ps_set (i := 2) sc.nd rfl (Or.inl rfl) (pe_ix ix_list (pe_fld (pv 1) rfl) (pe_fld (pv 0) rfl) (fun _ _ => rfl)))
      (pss_cons (ps_if (pt_cmpR (op_eqD hr.units) (pe_fld (pv 2) rfl) (pe_fld (pv 0) rfl) (nomark _))
        (pss_cons (ps_fldP (pv 2) (pe_tup (pa_cons (pe_ix ix_tup (pe_fld (pv 0) rfl) (pe_gv T.g_STAMP rfl) (fun _ _ => rfl)) (pa_cons (pe_op op_add (pe_ix ix_tup (pe_fld (pv 0) rfl) (pe_gv T.g_GIVEN rfl) (fun _ _ => rfl)) pe_int) (pa_cons (pe_ix ix_tup (pe_fld (pv 0) rfl) (pe_gv T.g_STOPPED rfl) (fun _ _ => rfl)) pa_nil)))) rfl)
      (pss_one (ps_ret (pe_fld (pv 0) rfl))))
        pss_nil)
      (pss_cons (ps_if (pt_val (pe_mf0 m_is_last_fail (hr.mono (by decide)) (pv 0)))
        (pss_one (ps_ret (pe_lst (pa_cons (pe_gv T.g_DISTURBED rfl) pa_nil))))
        pss_nil)
      (pss_one (ps_ret (pe_mf m_seek (hr.mono (by decide)) (pv 0) (pa_cons (pv 1) pa_nil))))))), ?_⟩
      refine ⟨_, rfl, F.b, Γ.board, db, _, _, rfl, hb, T.cl_board, T.n_board_slots, (by walk_at "lk"), _, rfl, p, Γ.take, dx, _, _, rfl, hp, T.cl_take, T.n_take_at, (by walk_at "lk"), F.ls, _, _, _, rfl, rfl, SqL.of hB.ls, at_of (j := i) rfl (slots_at hi),
        _, rfl, F.s i, Γ.slot, ds, _, _, rfl, hs, T.cl_slot, T.n_slot_giving, (by walk_at "lk"), _, rfl, p, Γ.take, dx, _, _, rfl, hp, T.cl_take, T.n_take_seen, (by walk_at "lk"),
        .tuple [.int (B.slot i).next.stamp, .int (B.slot i).next.given, .int (PoolCalls.bit (B.slot i).next.stopped)], .tuple [.int wn.stamp, .int wn.given, .int (PoolCalls.bit wn.stopped)], .tup hn (.cons (.int _) (.cons (.int _) (.cons (.int _) .nil))), .tup hv (.cons (.int _) (.cons (.int _) (.cons (.int _) .nil))), rfl, rfl, _, rfl, ?_⟩
      rw [eqvNN]
      refine ifB (fun q => ?_) (fun q => ?_)
      · rw [if_pos q] at k
        refine ⟨_, rfl, p, Γ.take, dx, _, _, rfl, hp, T.cl_take, T.n_take_seen, (by walk_at "lk"), sa, _, _, _, rfl, rfl, hv, at_of (j := 0) rfl rfl, _, rfl, p, Γ.take, dx, _, _, rfl, hp, T.cl_take, T.n_take_seen, (by walk_at "lk"), sa, _, _, _, rfl, rfl, hv, at_of (j := 1) rfl rfl, _, _, rfl, rfl,
          _, rfl, p, Γ.take, dx, _, _, rfl, hp, T.cl_take, T.n_take_seen, (by walk_at "lk"), sa, _, _, _, rfl, rfl, hv, at_of (j := 2) rfl rfl, (by show 3 ≤ sizeLine; decide), fun q1 hq1 => ?_⟩
        obtain ⟨hS, F', hB', hN⟩ := hB.setNext hO hi (q := q1) (v := { wn with given := wn.given + 1 }) hs ht hj hq1
        have hp2 : (upd (upd H q1 (.tup [vi wn.stamp, vi (wn.given + 1), vi (PoolCalls.bit wn.stopped)])) (F.s i) (.ins Γ.slot ds (slotF ta q1 (B.slot i).count (B.slot i).kind j (F.w i)))) p = some (.ins Γ.take dx (takeF fl i (.ref sa) (.ref l))) := by
          rw [upd_ne (no_s hB hp hi).symm]; exact keep_new hp hq1
        have nls : l ≠ F.s i := fun z => hlF (z ▸ .inr (.inr (.inl ⟨i, hi, rfl⟩)))
        refine ⟨_, rfl, F.s i, Γ.slot, ds, _, rfl, keep_new hs hq1, T.cl_slot, T.n_slot_giving, (by show 6 < 1000; decide), _, (by walk_at "put"), _, rfl, p, Γ.take, dx, _, _, rfl, hp2, T.cl_take, T.n_take_told, (by walk_at "lk"), ?_⟩
        refine k _ _ ((chg_new hq1).trans (chg_ins (keep_new hs hq1) (own_s hi))) ⟨l, F', rfl, ?_, hB', hN, plAt_of (o := .take) hp2 T.cl_take T.n_take_place⟩
        rw [upd_ne nls]
        exact keep_new hl hq1
      · rw [if_neg (by rw [q]; exact Bool.false_ne_true)] at k
        have c1 : Chg K (Own F p) H (upd H p (.ins Γ.take dx (takeF (fl + 1) i (.ref sa) (.ref l)))) := chg_ins hp (.inr rfl)
        refine ⟨_, rfl, p, dx, _, rfl, hp, (by walk_at "lk"), p, Γ.take, dx, _, fl, _, rfl, hp, (by show 3 < 900; decide), T.cl_take, T.n_take_fails, _, rfl, ifD (fun q2 => ?_) (fun q2 => ?_)⟩
        · rw [if_pos (by omega)] at k
          exact ⟨(by show 1 ≤ sizeLine; decide), fun l' hl' => k _ _ (c1.trans (chg_new hl')) (Res.back c1 (res_end (F' := F) (hB.other hp) New.refl hl' rfl (plAt_of (o := .take) upd_same T.cl_take T.n_take_place)))⟩
        · rw [if_neg (by omega)] at k
          exact ⟨_, rfl, p, dx, _, rfl, upd_same, (by walk_at "lk"), _, rfl, p, dx, F, B, fl + 1, i, m - 1, _, _, rfl, hB.other hp, hO, upd_same, (by omega), (by omega), fun v H' c r => k v H' (c1.trans c) (Res.back c1 r)⟩
    | _ => exact hA.elim
end
end Po

namespace Po
open PySem PySem.Spec PyProof.Rows L2
local macro_rules | `(tactic| walk_at "lk") => `(tactic| repeat (first | exact lk_hit | exact lk_nil | refine (lk_miss (by decide +kernel)).trans ?_))
local macro_rules | `(tactic| walk_at "put") => `(tactic| repeat (first | exact put_hit | exact put_nil | (apply put_miss; · decide +kernel)))
section
variable {P : Program} {w : World} {K : PySem.W.Frag} {mg : Str → Option Value} {base : Heap} {Γ : Cs} {H : Hp} {F : Ft} {B : LwPool.Board}
/-! ### offer -/
def spSeekO (K : PySem.W.Frag) (Γ : Cs) : Sp := fun vs H Q _ => ∃ (p dx j : Addr) (F : Ft) (B : LwPool.Board) (n kind fl at_ k : Nat) (job : List Nat) (sv : V), vs = [.ref p, .ref F.b] ∧ BdAt K Γ H F B ∧ BOk B ∧ H p = some (.ins Γ.offer dx (offerF fl n kind j at_ sv 0)) ∧ JbT K H j job ∧ at_ ≤ 2 ∧ fl + k = 3 ∧
  ∀ v H', Chg K (Own F p) H H' → Res K Γ H F p (.offer n kind job) v H' (LwPool.offerFrom B k (2 - at_)) → Q v H'
theorem offerFrom_step {k i : Nat} (hi : i < 2) : LwPool.offerFrom B k (2 - i) = if (B.slot i).state.phase = 0 then .gap B (.offered i k (B.slot i).state) else LwPool.offerFrom B k (2 - (i + 1)) := by
  match i, hi with
  | 0, _ => rfl
  | 1, _ => rfl
abbrev s_Offer_seek : Stmt := inClass (top 44) 3
theorem sc_Offer_seek : FnScope ["self", "board"] ["self", "board"] (defScope s_Offer_seek) := ⟨rfl, rfl, rfl, by decide +kernel, rfl, by decide +kernel, by decide +kernel⟩
theorem ok_Offer_seek {f : Addr} {fd : FuncData} (F : Fun K "seek" "Offer.seek" s_Offer_seek f fd) (T : Tx K mg Γ) : FnOk P w K mg base CX0 1 f fd ["self", "board"] (spSeekO K Γ) := by
  have sc := sc_Offer_seek
  refine F.ok sc (fun vs H Q E h => ?_) (fun cdv A outer s H vs Q E hr h => ?_)
  · obtain ⟨_, _, _, _, _, _, _, _, _, _, _, _, rfl, _⟩ := h
    rfl
  · obtain ⟨p, dx, j, F, B, n, kind, fl, at0, kk, job, sv, rfl, hB, hO, hp, hj, hat, hk, k⟩ := h
    refine ⟨_, (pss_cons (ps_while PassesOwn.never (pt_cmpR op_lt (pe_fld (pv 0) rfl) (pe_gv T.g_SLOTS rfl) (nomark _))
        (pss_cons (ps_fldP (pv 0) (pe_fld (pe_ix ix_list (pe_fld (pv 1) rfl) (pe_fld (pv 0) rfl) (fun _ _ => rfl)) rfl) rfl)
      (pss_cons (ps_if (pt_cmpR op_eq (pe_ix ix_tup (pe_fld (pv 0) rfl) (pe_gv T.g_PHASE rfl) (fun _ _ => rfl)) (pe_gv T.g_PHASE_FREE rfl) (nomark _))
        (pss_one (ps_ret (pe_gv T.g_GAP rfl)))
        pss_nil)
      (pss_one (ps_augP (pv 0) pe_int in_add)))))
      (pss_one (ps_ret (pe_lst (pa_cons (pe_gv T.g_NOT_THERE rfl) pa_nil))))), ?_⟩
    refine ⟨fun m σ H' => ∃ (i : Nat) (sv' : V), m = 2 - i ∧ i ≤ 2 ∧ σ = [some (.ref p), some (.ref F.b)] ∧ Chg K (fun b => b = p) H H' ∧ H' p = some (.ins Γ.offer dx (offerF fl n kind j i sv' 0)) ∧ LwPool.offerFrom B kk (2 - at0) = LwPool.offerFrom B kk (2 - i), ⟨2 - at0, at0, sv, rfl, hat, rfl, Chg.refl, hp, rfl⟩, ?_⟩
    rintro m σ H1 ⟨i, sv', rfl, hi2, rfl, c1, hp1, eT⟩
    have hB1 : BdAt K Γ H1 F B := hB.chg c1 fun a ha e => own_ins hB hp (e ▸ ha)
    have c1' : Chg K (Own F p) H H1 := c1.mono fun b e => .inr e
    refine ⟨_, rfl, p, Γ.offer, dx, _, _, rfl, hp1, T.cl_offer, T.n_offer_at, (by walk_at "lk"), _, _, rfl, rfl, _, rfl, ifD (fun q => ?_) (fun q => ?_)⟩
    · have hi : i < 2 := by omega
      obtain ⟨db, hb⟩ := id hB1.bd
      obtain ⟨ds, ta, g, jj, hs, ht, hn, hjj⟩ := (hB1.at_ i hi).ob
      rw [offerFrom_step hi] at eT
      refine ⟨fun σ' H' => ∃ sv2, σ' = [some (.ref p), some (.ref F.b)] ∧ Chg K (fun b => b = p) H H' ∧ H' p = some (.ins Γ.offer dx (offerF fl n kind j (i + 1) sv2 0)) ∧ LwPool.offerFrom B kk (2 - at0) = LwPool.offerFrom B kk (2 - (i + 1)), ?_, ?_⟩
      · rintro σ' H' ⟨sv2, rfl, c', hp', e'⟩
        exact ⟨2 - (i + 1), by omega, i + 1, sv2, rfl, by omega, rfl, c', hp', e'⟩
      have c2 : Chg K (fun b => b = p) H1 (upd H1 p (.ins Γ.offer dx (offerF fl n kind j i (.ref ta) 0))) := chg_ins hp1 rfl
      refine ⟨_, rfl, F.b, Γ.board, db, _, _, rfl, hb, T.cl_board, T.n_board_slots, (by walk_at "lk"), _, rfl, p, Γ.offer, dx, _, _, rfl, hp1, T.cl_offer, T.n_offer_at, (by walk_at "lk"), F.ls, _, _, _, rfl, rfl, SqL.of hB1.ls, at_of (j := i) rfl (slots_at hi), F.s i, Γ.slot, ds, _, _, rfl, hs, T.cl_slot, T.n_slot_state, (by walk_at "lk"),
        _, rfl, p, Γ.offer, dx, _, rfl, hp1, T.cl_offer, T.n_offer_seen, (by show 8 < 1000; decide), _, (by walk_at "put"),
        _, rfl, p, Γ.offer, dx, _, _, rfl, upd_same, T.cl_offer, T.n_offer_seen, (by walk_at "lk"), ta, _, _, _, rfl, rfl, ht.chg c2, at_of (j := 1) rfl rfl, rfl, _, rfl, ifD (fun q2 => ?_) (fun q2 => ?_)⟩
      · have e0 : (B.slot i).state.phase = 0 := vint_inj.mp q2
        rw [if_pos e0] at eT
        rw [eT] at k
        exact k _ _ (c1'.trans (c2.mono fun b e => .inr e)) ⟨rfl, F, hB1.other hp1, New.refl, dx, j, ta, fl, upd_same, (hj.chg c1).chg c2, ht.chg c2, hk⟩
      · have e0 : ¬ (B.slot i).state.phase = 0 := fun z => q2 (vint_inj.mpr z)
        rw [if_neg e0] at eT
        refine ⟨_, rfl, p, Γ.offer, dx, _, _, rfl, upd_same, T.cl_offer, T.n_offer_at, (by walk_at "lk"), _, _, rfl, rfl, dx, _, upd_same, (by show 8 < 1000; decide), _, (by walk_at "put"), ?_⟩
        exact ⟨_, rfl, (c1.trans c2).trans (chg_ins upd_same rfl), upd_same, eT⟩
    · have e2 : i = 2 := by omega
      subst e2
      rw [eT] at k
      exact ⟨(by show 1 ≤ sizeLine; decide), fun l hl => k _ _ (c1'.trans (chg_new hl)) (Res.back c1' (res_end (F' := F) hB1 New.refl hl rfl (plAt_of (o := .offer n kind job) hp1 T.cl_offer T.n_offer_place)))⟩
abbrev s_Offer_begin : Stmt := inClass (top 44) 1
theorem sc_Offer_begin : FnScope ["self", "board"] ["self", "board"] (defScope s_Offer_begin) := ⟨rfl, rfl, rfl, by decide +kernel, rfl, by decide +kernel, by decide +kernel⟩
theorem ok_Offer_begin {f : Addr} {fd : FuncData} (F : Fun K "begin" "Offer.begin" s_Offer_begin f fd) (T : Tx K mg Γ) (m_seek : MF P w K mg base Γ.offer "seek" 1 ["self", "board"] (spSeekO K Γ)) : FnOk P w K mg base CX0 2 f fd ["self", "board"] (spBegin K Γ fun o => ∃ n kind job, o = .offer n kind job) := by
  have sc := sc_Offer_begin
  refine F.ok sc (fun vs H Q E h => ?_) (fun cdv A outer s H vs Q E hr h => ?_)
  · obtain ⟨_, _, _, _, rfl, _⟩ := h
    rfl
  · obtain ⟨p, F, B, o, rfl, ⟨n, kind, job, rfl⟩, hB, hO, ⟨dx, j, hp, hj⟩, k⟩ := h
    have eB : LwPool.begins (.offer n kind job) B = if n < 1 ∨ 32 < n then .ends B (LwPool.num (-4)) else LwPool.offerFrom B 3 2 := rfl
    rw [eB] at k
    have bad : (n < 1 ∨ 32 < n) → ∀ l, H l = none → Q (.ref l) (upd H l (.lst [.int (-4)])) := fun z l hl => by
      rw [if_pos z] at k
      exact k _ _ (chg_new hl) (res_end (F' := F) hB New.refl hl rfl (plAt_of (o := .offer n kind job) hp T.cl_offer T.n_offer_place))
    refine ⟨_, (pss_cons (ps_if (PW.pt (pw_or (pt_cmpR op_lt (pe_fld (pv 0) rfl) pe_int (nomark _)) (pw_or1 (pt_cmpR op_gt (pe_fld (pv 0) rfl) (pe_gv T.g_MOST_SLICES rfl) (nomark _)))))
        (pss_one (ps_ret (pe_lst (pa_cons (pe_gv T.g_OUT_OF_RANGE rfl) pa_nil))))
        pss_nil)
      (pss_one (ps_ret (pe_mf m_seek (hr.mono (by decide)) (pv 0) (pa_cons (pv 1) pa_nil))))), ?_⟩
    refine ⟨_, rfl, p, Γ.offer, dx, _, _, rfl, hp, T.cl_offer, T.n_offer_slices, (by walk_at "lk"), _, _, rfl, rfl, _, rfl, ifD (fun q => ?_) (fun q => ?_)⟩
    · exact iteT ⟨(by show 1 ≤ sizeLine; decide), bad (.inl (by omega))⟩
    · refine ⟨_, rfl, p, Γ.offer, dx, _, _, rfl, hp, T.cl_offer, T.n_offer_slices, (by walk_at "lk"), _, _, rfl, rfl, _, rfl, ifD (fun q2 => ?_) (fun q2 => ?_)⟩
      · exact ⟨(by show 1 ≤ sizeLine; decide), bad (.inr (by omega))⟩
      · rw [if_neg (by omega)] at k
        exact ⟨_, rfl, p, dx, _, rfl, hp, (by walk_at "lk"), _, rfl, p, dx, j, F, B, n, kind, 0, 0, 3, job, _, rfl, hB, hO, hp, hj, (by decide), rfl, k⟩
def spClaim (K : PySem.W.Frag) (Γ : Cs) : Sp := fun vs H Q _ => ∃ (p dx j t : Addr) (F : Ft) (B : LwPool.Board) (n kind fl i m : Nat) (job : List Nat) (v : LwPool.Phase), vs = [.ref p, .ref F.b, .ref (F.s i)] ∧ BdAt K Γ H F B ∧ BOk B ∧ H p = some (.ins Γ.offer dx (offerF fl n kind j i (.ref t) 0)) ∧ JbT K H j job ∧ PhT K H t v ∧ i < 2 ∧ fl + m = 3 ∧ 1 ≤ m ∧
  ∀ r H', Chg K (Own F p) H H' → Res K Γ H F p (.offer n kind job) r H' (LwPool.goesOn (.offer n kind job) (.offered i m v) B) → Q r H'
abbrev s_Offer_claim : Stmt := inClass (top 44) 4
theorem sc_Offer_claim : FnScope ["self", "board", "slot"] ["self", "board", "slot"] (defScope s_Offer_claim) := ⟨rfl, rfl, rfl, by decide +kernel, rfl, by decide +kernel, by decide +kernel⟩
theorem ok_Offer_claim {f : Addr} {fd : FuncData} (F : Fun K "claim" "Offer.claim" s_Offer_claim f fd) (T : Tx K mg Γ) (m_is_last_fail : MF P w K mg base Γ.offer "is_last_fail" 1 ["self"] (spLast K)) (m_seek : MF P w K mg base Γ.offer "seek" 1 ["self", "board"] (spSeekO K Γ)) :
    FnOk P w K mg base CX0 2 f fd ["self", "board", "slot"] (spClaim K Γ) := by
  have sc := sc_Offer_claim
  refine F.ok sc (fun vs H Q E h => ?_) (fun cdv A outer s H vs Q E hr h => ?_)
  · obtain ⟨_, _, _, _, _, _, _, _, _, _, _, _, _, rfl, _⟩ := h
    rfl
  · obtain ⟨p, dx, j, t, F, B, n, kind, fl, i, m, job, v, rfl, hB, hO, hp, hj, hv, hi, hk, hm1, k⟩ := h
    have eG : LwPool.goesOn (.offer n kind job) (.offered i m v) B = if LwPool.samePhase (B.slot i).state v = true then .gap (B.with_ i { B.slot i with state := ⟨v.stamp, 1⟩ }) (.laying i v) else if m ≤ 1 then .ends B (LwPool.num (-2)) else LwPool.offerFrom B (m - 1) (2 - (i + 1)) := rfl
    rw [eG] at k
    obtain ⟨ds, ta, g, jj, hs, ht, hn, hjj⟩ := (hB.at_ i hi).ob
    refine ⟨_, (pss_cons (ps_if (pt_cmpR (op_eqD hr.units) (pe_fld (pv 2) rfl) (pe_fld (pv 0) rfl) (nomark _))
        (pss_cons (ps_fldP (pv 2) (pe_tup (pa_cons (pe_ix ix_tup (pe_fld (pv 0) rfl) (pe_gv T.g_STAMP rfl) (fun _ _ => rfl)) (pa_cons (pe_gv T.g_PHASE_LAID rfl) pa_nil))) rfl)
      (pss_cons (ps_fldP (pv 0) (pe_gv T.g_LAY rfl) rfl)
      (pss_one (ps_ret (pe_gv T.g_GAP rfl)))))
        pss_nil)
      (pss_cons (ps_if (pt_val (pe_mf0 m_is_last_fail (hr.mono (by decide)) (pv 0)))
        (pss_one (ps_ret (pe_lst (pa_cons (pe_gv T.g_DISTURBED rfl) pa_nil))))
        pss_nil)
      (pss_cons (ps_augP (pv 0) pe_int in_add)
      (pss_one (ps_ret (pe_mf m_seek (hr.mono (by decide)) (pv 0) (pa_cons (pv 1) pa_nil))))))), ?_⟩
    refine ⟨_, rfl, F.s i, Γ.slot, ds, _, _, rfl, hs, T.cl_slot, T.n_slot_state, (by walk_at "lk"), _, rfl, p, Γ.offer, dx, _, _, rfl, hp, T.cl_offer, T.n_offer_seen, (by walk_at "lk"),
      .tuple [.int (B.slot i).state.stamp, .int (B.slot i).state.phase], .tuple [.int v.stamp, .int v.phase], .tup ht (.cons (.int _) (.cons (.int _) .nil)), .tup hv (.cons (.int _) (.cons (.int _) .nil)), rfl, rfl, _, rfl, ?_⟩
    rw [eqvPP]
    refine ifB (fun q => ?_) (fun q => ?_)
    · rw [if_pos q] at k
      refine ⟨_, rfl, p, Γ.offer, dx, _, _, rfl, hp, T.cl_offer, T.n_offer_seen, (by walk_at "lk"), t, _, _, _, rfl, rfl, hv, at_of (j := 0) rfl rfl, (by show 2 ≤ sizeLine; decide), fun q1 hq1 => ?_⟩
      obtain ⟨F', hB', hN⟩ := hB.setState hO hi (q := q1) (v := ⟨v.stamp, 1⟩) hs hn hjj hq1
      have c1 : Chg K (Own F p) H (upd (upd H q1 (.tup [vi v.stamp, .int 1])) (F.s i) (.ins Γ.slot ds (slotF q1 g (B.slot i).count (B.slot i).kind jj (F.w i)))) := (chg_new hq1).trans (chg_ins (keep_new hs hq1) (own_s hi))
      have hp2 : (upd (upd H q1 (.tup [vi v.stamp, .int 1])) (F.s i) (.ins Γ.slot ds (slotF q1 g (B.slot i).count (B.slot i).kind jj (F.w i)))) p = some (.ins Γ.offer dx (offerF fl n kind j i (.ref t) 0)) := by
        rw [upd_ne (no_s hB hp hi).symm]; exact keep_new hp hq1
      refine ⟨_, rfl, F.s i, Γ.slot, ds, _, rfl, keep_new hs hq1, T.cl_slot, T.n_slot_state, (by show 6 < 1000; decide), _, (by walk_at "put"), _, rfl, p, Γ.offer, dx, _, rfl, hp2, T.cl_offer, T.n_offer_stage, (by show 8 < 1000; decide), _, (by walk_at "put"), ?_⟩
      have c2 : Chg K (Own F p) (upd (upd H q1 (.tup [vi v.stamp, .int 1])) (F.s i) (.ins Γ.slot ds (slotF q1 g (B.slot i).count (B.slot i).kind jj (F.w i)))) (upd (upd (upd H q1 (.tup [vi v.stamp, .int 1])) (F.s i) (.ins Γ.slot ds (slotF q1 g (B.slot i).count (B.slot i).kind jj (F.w i)))) p (.ins Γ.offer dx (offerF fl n kind j i (.ref t) 1))) := chg_ins hp2 (.inr rfl)
      exact k _ _ (c1.trans c2) ⟨rfl, F', hB'.other hp2, hN, dx, j, t, fl, upd_same, (hj.chg c1).chg c2, (hv.chg c1).chg c2⟩
    · rw [if_neg (by rw [q]; exact Bool.false_ne_true)] at k
      have c1 : Chg K (Own F p) H (upd H p (.ins Γ.offer dx (offerF (fl + 1) n kind j i (.ref t) 0))) := chg_ins hp (.inr rfl)
      refine ⟨_, rfl, p, dx, _, rfl, hp, (by walk_at "lk"), p, Γ.offer, dx, _, fl, _, rfl, hp, (by show 6 < 900; decide), T.cl_offer, T.n_offer_fails, _, rfl, ifD (fun q2 => ?_) (fun q2 => ?_)⟩
      · rw [if_pos (by omega)] at k
        exact ⟨(by show 1 ≤ sizeLine; decide), fun l hl => k _ _ (c1.trans (chg_new hl)) (Res.back c1 (res_end (F' := F) (hB.other hp) New.refl hl rfl (plAt_of (o := .offer n kind job) upd_same T.cl_offer T.n_offer_place)))⟩
      · rw [if_neg (by omega)] at k
        refine ⟨_, rfl, p, Γ.offer, dx, _, _, rfl, upd_same, T.cl_offer, T.n_offer_at, (by walk_at "lk"), _, _, rfl, rfl, dx, _, upd_same, (by show 8 < 1000; decide), _, (by walk_at "put"), ?_⟩
        have c2 : Chg K (Own F p) (upd H p (.ins Γ.offer dx (offerF (fl + 1) n kind j i (.ref t) 0))) (upd (upd H p (.ins Γ.offer dx (offerF (fl + 1) n kind j i (.ref t) 0))) p (.ins Γ.offer dx (offerF (fl + 1) n kind j (i + 1) (.ref t) 0))) := chg_ins upd_same (.inr rfl)
        have hB2 : BdAt K Γ (upd (upd H p (.ins Γ.offer dx (offerF (fl + 1) n kind j i (.ref t) 0))) p (.ins Γ.offer dx (offerF (fl + 1) n kind j (i + 1) (.ref t) 0))) F B := (hB.other hp).other upd_same
        exact ⟨_, rfl, p, dx, _, rfl, upd_same, (by walk_at "lk"), _, rfl, p, dx, j, F, B, n, kind, fl + 1, i + 1, m - 1, job, _, rfl, hB2, hO, upd_same, (hj.chg c1).chg c2, (by omega), (by omega), fun r H' c z => k r H' ((c1.trans c2).trans c) (Res.back (c1.trans c2) z)⟩
def spLay (K : PySem.W.Frag) (Γ : Cs) : Sp := fun vs H Q _ => ∃ (p dx j t : Addr) (F : Ft) (B : LwPool.Board) (n kind fl i : Nat) (job : List Nat) (v : LwPool.Phase), vs = [.ref p, .ref (F.s i)] ∧ BdAt K Γ H F B ∧ BOk B ∧ H p = some (.ins Γ.offer dx (offerF fl n kind j i (.ref t) 1)) ∧ JbT K H j job ∧ PhT K H t v ∧ i < 2 ∧
  ∀ r H', Chg K (Own F p) H H' → Res K Γ H F p (.offer n kind job) r H' (LwPool.goesOn (.offer n kind job) (.laying i v) B) → Q r H'
abbrev s_Offer_lay : Stmt := inClass (top 44) 5
theorem sc_Offer_lay : FnScope ["self", "slot", "stamp"] ["self", "slot"] (defScope s_Offer_lay) := ⟨rfl, rfl, rfl, by decide +kernel, rfl, by decide +kernel, by decide +kernel⟩
theorem ok_Offer_lay {f : Addr} {fd : FuncData} (F : Fun K "lay" "Offer.lay" s_Offer_lay f fd) (T : Tx K mg Γ) (g_unmarked_words : GF P w K mg base "unmarked_words" 1 ["stamp"] (spUnm K)) : FnOk P w K mg base CX0 2 f fd ["self", "slot"] (spLay K Γ) := by
  have sc := sc_Offer_lay
  refine F.ok sc (fun vs H Q E h => ?_) (fun cdv A outer s H vs Q E hr h => ?_)
  · obtain ⟨_, _, _, _, _, _, _, _, _, _, _, _, rfl, _⟩ := h
    rfl
  · obtain ⟨p, dx, j, t, F, B, n, kind, fl, i, job, v, rfl, hB, hO, hp, hj, hv, hi, k⟩ := h
    have eG : LwPool.goesOn (.offer n kind job) (.laying i v) B = .gap (B.with_ i { B.slot i with next := ⟨v.stamp, 0, false⟩, count := n, kind := kind, job := job, words := List.replicate 4 ⟨v.stamp, List.replicate 8 false⟩ }) (.opening i v) := rfl
    rw [eG] at k
    obtain ⟨ds, ta, g, jj, hs, ht, hn, hjj⟩ := (hB.at_ i hi).ob
    have nsp := no_s hB hp hi
    refine ⟨_, (pss_cons (ps_set (i := 2) sc.nd rfl (Or.inl rfl) (pe_ix ix_tup (pe_fld (pv 0) rfl) (pe_gv T.g_STAMP rfl) (fun _ _ => rfl)))
      (pss_cons (ps_fldP (pv 1) (pe_tup (pa_cons (pv 2) (pa_cons pe_int (pa_cons pe_int pa_nil)))) rfl)
      (pss_cons (ps_fldP (pv 1) (pe_fld (pv 0) rfl) rfl)
      (pss_cons (ps_fldP (pv 1) (pe_fld (pv 0) rfl) rfl)
      (pss_cons (ps_fldP (pv 1) (pe_fld (pv 0) rfl) rfl)
      (pss_cons (ps_fldP (pv 1) (pe_gf g_unmarked_words (hr.mono (by decide)) rfl (pa_cons (pv 2) pa_nil)) rfl)
      (pss_cons (ps_fldP (pv 0) (pe_gv T.g_SHOW rfl) rfl)
      (pss_one (ps_ret (pe_gv T.g_GAP rfl)))))))))), ?_⟩
    refine ⟨_, rfl, p, Γ.offer, dx, _, _, rfl, hp, T.cl_offer, T.n_offer_seen, (by walk_at "lk"), t, _, _, _, rfl, rfl, hv, at_of (j := 0) rfl rfl, _, rfl, (by show 3 ≤ sizeLine; decide), fun q hq => ?_⟩
    -- the slot's giving
    obtain ⟨H1, e1⟩ : ∃ H1, upd H q (.tup [vi v.stamp, .int 0, .int 0]) = H1 := ⟨_, rfl⟩
    rw [e1]
    have c1 : Chg K (fun a => a = F.s i ∨ a = F.w i) H H1 := by rw [← e1]; exact chg_new hq
    have hp1 : H1 p = some (.ins Γ.offer dx (offerF fl n kind j i (.ref t) 1)) := by rw [← e1]; exact keep_new hp hq
    have hs1 : H1 (F.s i) = some (.ins Γ.slot ds (slotF ta g (B.slot i).count (B.slot i).kind jj (F.w i))) := by rw [← e1]; exact keep_new hs hq
    have hq1 : SqT K H1 q [vi v.stamp, .int 0, .int 0] := by rw [← e1]; exact SqT.of upd_same
    have up : ∀ {u : HO}, (upd H1 (F.s i) u) p = some (.ins Γ.offer dx (offerF fl n kind j i (.ref t) 1)) := by intro u; rw [upd_ne nsp.symm]; exact hp1
    refine ⟨_, rfl, F.s i, Γ.slot, ds, _, rfl, hs1, T.cl_slot, T.n_slot_giving, (by show 6 < 1000; decide), _, (by walk_at "put"), ?_⟩
    refine ⟨_, rfl, p, Γ.offer, dx, _, _, rfl, up, T.cl_offer, T.n_offer_slices, (by walk_at "lk"), _, rfl, F.s i, Γ.slot, ds, _, rfl, upd_same, T.cl_slot, T.n_slot_slices, (by show 6 < 1000; decide), _, (by walk_at "put"), ?_⟩
    rw [upd_upd]
    refine ⟨_, rfl, p, Γ.offer, dx, _, _, rfl, up, T.cl_offer, T.n_offer_kind, (by walk_at "lk"), _, rfl, F.s i, Γ.slot, ds, _, rfl, upd_same, T.cl_slot, T.n_slot_kind, (by show 6 < 1000; decide), _, (by walk_at "put"), ?_⟩
    rw [upd_upd]
    refine ⟨_, rfl, p, Γ.offer, dx, _, _, rfl, up, T.cl_offer, T.n_offer_job, (by walk_at "lk"), _, rfl, F.s i, Γ.slot, ds, _, rfl, upd_same, T.cl_slot, T.n_slot_job, (by show 6 < 1000; decide), _, (by walk_at "put"), ?_⟩
    rw [upd_upd]
    have c2 : Chg K (fun a => a = F.s i ∨ a = F.w i) H1 (upd H1 (F.s i) (.ins Γ.slot ds (slotF ta q n kind j (F.w i)))) := chg_ins hs1 (.inl rfl)
    refine ⟨_, rfl, v.stamp, rfl, fun l was H2 s2 hl hl2 hpr => ?_⟩
    have c3 : Chg K (fun a => a = F.s i ∨ a = F.w i) (upd H1 (F.s i) (.ins Γ.slot ds (slotF ta q n kind j (F.w i)))) H2 := s2.chg
    have hs2 : H2 (F.s i) = some (.ins Γ.slot ds (slotF ta q n kind j (F.w i))) := s2 _ _ upd_same
    have hp2 : H2 p = some (.ins Γ.offer dx (offerF fl n kind j i (.ref t) 1)) := s2 _ _ up
    have c4 : Chg K (fun a => a = F.s i ∨ a = F.w i) H2 (upd H2 (F.s i) (.ins Γ.slot ds (slotF ta q n kind j l))) := chg_ins hs2 (.inl rfl)
    have cc := ((c1.trans c2).trans c3).trans c4
    have nls : l ≠ F.s i := (ne_of_none upd_same hl).symm
    have hlf : H l = none := c1.free (c2.free hl)
    have hS : SlotAt K Γ (upd H2 (F.s i) (.ins Γ.slot ds (slotF ta q n kind j l))) (F.s i) l { B.slot i with next := ⟨v.stamp, 0, false⟩, count := n, kind := kind, job := job, words := List.replicate 4 ⟨v.stamp, List.replicate 8 false⟩ } := by
      refine ⟨⟨ds, ta, q, j, upd_same, ht.chg cc, ?_, hj.chg cc⟩, was, ?_, paired_imp (fun _ _ z => z.chg c4) hpr⟩
      · exact c4.tup _ _ (c3.tup _ _ (c2.tup _ _ hq1))
      · rw [upd_ne nls]; exact hl2
    obtain ⟨F', hB', hN⟩ := hB.slot hO hi cc hS (.inr hlf)
    have hp3 : (upd H2 (F.s i) (.ins Γ.slot ds (slotF ta q n kind j l))) p = some (.ins Γ.offer dx (offerF fl n kind j i (.ref t) 1)) := by rw [upd_ne nsp.symm]; exact hp2
    refine ⟨_, rfl, F.s i, Γ.slot, ds, _, rfl, hs2, T.cl_slot, T.n_slot_words, (by show 6 < 1000; decide), _, (by walk_at "put"), _, rfl, p, Γ.offer, dx, _, rfl, hp3, T.cl_offer, T.n_offer_stage, (by show 8 < 1000; decide), _, (by walk_at "put"), ?_⟩
    have cO : Chg K (Own F p) H (upd H2 (F.s i) (.ins Γ.slot ds (slotF ta q n kind j l))) := cc.mono fun b e => e.elim (fun z => z ▸ own_s hi) (fun z => z ▸ own_w hi)
    have c5 : Chg K (Own F p) (upd H2 (F.s i) (.ins Γ.slot ds (slotF ta q n kind j l))) (upd (upd H2 (F.s i) (.ins Γ.slot ds (slotF ta q n kind j l))) p (.ins Γ.offer dx (offerF fl n kind j i (.ref t) 2))) := chg_ins hp3 (.inr rfl)
    exact k _ _ (cO.trans c5) ⟨rfl, F', hB'.other hp3, hN, dx, j, t, fl, upd_same, (hv.chg cO).chg c5⟩
def spShow (K : PySem.W.Frag) (Γ : Cs) : Sp := fun vs H Q _ => ∃ (p dx j t : Addr) (F : Ft) (B : LwPool.Board) (n kind fl i : Nat) (job : List Nat) (v : LwPool.Phase), vs = [.ref p, .ref (F.s i)] ∧ BdAt K Γ H F B ∧ BOk B ∧ H p = some (.ins Γ.offer dx (offerF fl n kind j i (.ref t) 2)) ∧ PhT K H t v ∧ i < 2 ∧
  ∀ r H', Chg K (Own F p) H H' → Res K Γ H F p (.offer n kind job) r H' (LwPool.goesOn (.offer n kind job) (.opening i v) B) → Q r H'
abbrev s_Offer_show : Stmt := inClass (top 44) 6
theorem sc_Offer_show : FnScope ["self", "slot", "stamp"] ["self", "slot"] (defScope s_Offer_show) := ⟨rfl, rfl, rfl, by decide +kernel, rfl, by decide +kernel, by decide +kernel⟩
theorem ok_Offer_show {f : Addr} {fd : FuncData} (F : Fun K "show" "Offer.show" s_Offer_show f fd) (T : Tx K mg Γ) (g_ticket_of : GF P w K mg base "ticket_of" 1 ["stamp", "number"] spTicket) : FnOk P w K mg base CX0 2 f fd ["self", "slot"] (spShow K Γ) := by
  have sc := sc_Offer_show
  refine F.ok sc (fun vs H Q E h => ?_) (fun cdv A outer s H vs Q E hr h => ?_)
  · obtain ⟨_, _, _, _, _, _, _, _, _, _, _, _, rfl, _⟩ := h
    rfl
  · obtain ⟨p, dx, j, t, F, B, n, kind, fl, i, job, v, rfl, hB, hO, hp, hv, hi, k⟩ := h
    have eG : LwPool.goesOn (.offer n kind job) (.opening i v) B = .ends (B.with_ i { B.slot i with state := ⟨v.stamp, 2⟩ }) (LwPool.nums 0 [LwPool.ticketOf v.stamp i]) := rfl
    rw [eG] at k
    obtain ⟨ds, ta, g, jj, hs, ht, hn, hjj⟩ := (hB.at_ i hi).ob
    refine ⟨_, (pss_cons (ps_set (i := 2) sc.nd rfl (Or.inl rfl) (pe_ix ix_tup (pe_fld (pv 0) rfl) (pe_gv T.g_STAMP rfl) (fun _ _ => rfl)))
      (pss_cons (ps_fldP (pv 1) (pe_tup (pa_cons (pv 2) (pa_cons (pe_gv T.g_PHASE_OPEN rfl) pa_nil))) rfl)
      (pss_one (ps_ret (pe_lst (pa_cons pe_int (pa_cons (pe_gf g_ticket_of (hr.mono (by decide)) rfl (pa_cons (pv 2) (pa_cons (pe_fld (pv 0) rfl) pa_nil))) pa_nil))))))), ?_⟩
    refine ⟨_, rfl, p, Γ.offer, dx, _, _, rfl, hp, T.cl_offer, T.n_offer_seen, (by walk_at "lk"), t, _, _, _, rfl, rfl, hv, at_of (j := 0) rfl rfl, _, rfl, (by show 2 ≤ sizeLine; decide), fun q hq => ?_⟩
    obtain ⟨F', hB', hN⟩ := hB.setState hO hi (q := q) (v := ⟨v.stamp, 2⟩) hs hn hjj hq
    have hp2 : (upd (upd H q (.tup [vi v.stamp, .int 2])) (F.s i) (.ins Γ.slot ds (slotF q g (B.slot i).count (B.slot i).kind jj (F.w i)))) p = some (.ins Γ.offer dx (offerF fl n kind j i (.ref t) 2)) := by
      rw [upd_ne (no_s hB hp hi).symm]; exact keep_new hp hq
    refine ⟨_, rfl, F.s i, Γ.slot, ds, _, rfl, keep_new hs hq, T.cl_slot, T.n_slot_state, (by show 6 < 1000; decide), _, (by walk_at "put"), _, rfl, _, rfl, p, Γ.offer, dx, _, _, rfl, hp2, T.cl_offer, T.n_offer_at, (by walk_at "lk"), v.stamp, i, rfl, (by show 2 ≤ sizeLine; decide), fun l hl => ?_⟩
    exact k _ _ (((chg_new hq).trans (chg_ins (keep_new hs hq) (own_s hi))).trans (chg_new hl)) (res_end hB' hN hl rfl (plAt_of (o := .offer n kind job) hp2 T.cl_offer T.n_offer_place))
abbrev s_Offer_go_on : Stmt := inClass (top 44) 2
theorem sc_Offer_go_on : FnScope ["self", "board", "slot"] ["self", "board"] (defScope s_Offer_go_on) := ⟨rfl, rfl, rfl, by decide +kernel, rfl, by decide +kernel, by decide +kernel⟩
theorem ok_Offer_go_on {f : Addr} {fd : FuncData} (F : Fun K "go_on" "Offer.go_on" s_Offer_go_on f fd) (T : Tx K mg Γ) (m_claim : MF P w K mg base Γ.offer "claim" 2 ["self", "board", "slot"] (spClaim K Γ)) (m_lay : MF P w K mg base Γ.offer "lay" 2 ["self", "slot"] (spLay K Γ)) (m_show : MF P w K mg base Γ.offer "show" 2 ["self", "slot"] (spShow K Γ)) :
    FnOk P w K mg base CX0 3 f fd ["self", "board"] (spGo K Γ fun o => ∃ n kind job, o = .offer n kind job) := by
  have sc := sc_Offer_go_on
  refine F.ok sc (fun vs H Q E h => ?_) (fun cdv A outer s H vs Q E hr h => ?_)
  · obtain ⟨_, _, _, _, _, rfl, _⟩ := h
    rfl
  · obtain ⟨p, F, B, o, a, rfl, ⟨n, kind, job, rfl⟩, hB, hO, hG, hA, k⟩ := h
    obtain ⟨db, hb⟩ := id hB.bd
    refine ⟨_, (pss_cons (ps_set (i := 2) sc.nd rfl (Or.inl rfl) (pe_ix ix_list (pe_fld (pv 1) rfl) (pe_fld (pv 0) rfl) (fun _ _ => rfl)))
      (pss_cons (ps_if (pt_cmpR op_eq (pe_fld (pv 0) rfl) (pe_gv T.g_CLAIM rfl) (nomark _))
        (pss_one (ps_ret (pe_mf m_claim (hr.mono (by decide)) (pv 0) (pa_cons (pv 1) (pa_cons (pv 2) pa_nil)))))
        pss_nil)
      (pss_cons (ps_if (pt_cmpR op_eq (pe_fld (pv 0) rfl) (pe_gv T.g_LAY rfl) (nomark _))
        (pss_one (ps_ret (pe_mf m_lay (hr.mono (by decide)) (pv 0) (pa_cons (pv 2) pa_nil))))
        pss_nil)
      (pss_one (ps_ret (pe_mf m_show (hr.mono (by decide)) (pv 0) (pa_cons (pv 2) pa_nil))))))), ?_⟩
    cases a with
    | offered i m v =>
      obtain ⟨dx, j, t, fl, hp, hj, hv, hk⟩ := hG
      obtain ⟨hi, hm1, hm3, h1, h2, hph⟩ := hA
      refine ⟨_, rfl, F.b, Γ.board, db, _, _, rfl, hb, T.cl_board, T.n_board_slots, (by walk_at "lk"), _, rfl, p, Γ.offer, dx, _, _, rfl, hp, T.cl_offer, T.n_offer_at, (by walk_at "lk"), F.ls, _, _, _, rfl, rfl, SqL.of hB.ls, at_of (j := i) rfl (slots_at hi),
        _, rfl, p, Γ.offer, dx, _, _, rfl, hp, T.cl_offer, T.n_offer_stage, (by walk_at "lk"), rfl, _, rfl, ifD (fun _ => ?_) (fun q => absurd rfl q)⟩
      exact ⟨_, rfl, p, dx, _, rfl, hp, (by walk_at "lk"), _, rfl, _, rfl, p, dx, j, t, F, B, n, kind, fl, i, m, job, v, rfl, hB, hO, hp, hj, hv, hi, hk, hm1, k⟩
    | laying i v =>
      obtain ⟨dx, j, t, fl, hp, hj, hv⟩ := hG
      have hi := hA.1
      refine ⟨_, rfl, F.b, Γ.board, db, _, _, rfl, hb, T.cl_board, T.n_board_slots, (by walk_at "lk"), _, rfl, p, Γ.offer, dx, _, _, rfl, hp, T.cl_offer, T.n_offer_at, (by walk_at "lk"), F.ls, _, _, _, rfl, rfl, SqL.of hB.ls, at_of (j := i) rfl (slots_at hi),
        _, rfl, p, Γ.offer, dx, _, _, rfl, hp, T.cl_offer, T.n_offer_stage, (by walk_at "lk"), rfl, _, rfl, ifD (fun q => absurd q (by decide)) (fun _ => ?_)⟩
      refine ⟨_, rfl, p, Γ.offer, dx, _, _, rfl, hp, T.cl_offer, T.n_offer_stage, (by walk_at "lk"), rfl, _, rfl, ifD (fun _ => ?_) (fun q => absurd rfl q)⟩
      exact ⟨_, rfl, p, dx, _, rfl, hp, (by walk_at "lk"), _, rfl, p, dx, j, t, F, B, n, kind, fl, i, job, v, rfl, hB, hO, hp, hj, hv, hi, k⟩
    | opening i v =>
      obtain ⟨dx, j, t, fl, hp, hv⟩ := hG
      have hi := hA.1
      refine ⟨_, rfl, F.b, Γ.board, db, _, _, rfl, hb, T.cl_board, T.n_board_slots, (by walk_at "lk"), _, rfl, p, Γ.offer, dx, _, _, rfl, hp, T.cl_offer, T.n_offer_at, (by walk_at "lk"), F.ls, _, _, _, rfl, rfl, SqL.of hB.ls, at_of (j := i) rfl (slots_at hi),
        _, rfl, p, Γ.offer, dx, _, _, rfl, hp, T.cl_offer, T.n_offer_stage, (by walk_at "lk"), rfl, _, rfl, ifD (fun q => absurd q (by decide)) (fun _ => ?_)⟩
      refine ⟨_, rfl, p, Γ.offer, dx, _, _, rfl, hp, T.cl_offer, T.n_offer_stage, (by walk_at "lk"), rfl, _, rfl, ifD (fun q => absurd q (by decide)) (fun _ => ?_)⟩
      exact ⟨_, rfl, p, dx, _, rfl, hp, (by walk_at "lk"), _, rfl, p, dx, j, t, F, B, n, kind, fl, i, job, v, rfl, hB, hO, hp, hv, hi, k⟩
    | _ => exact hA.elim
end
end Po

namespace Po
open PySem PySem.Spec PyProof.Rows L2
local macro_rules | `(tactic| walk_at "lk") => `(tactic| repeat (first | exact lk_hit | exact lk_nil | refine (lk_miss (by decide +kernel)).trans ?_))
local macro_rules | `(tactic| walk_at "put") => `(tactic| repeat (first | exact put_hit | exact put_nil | (apply put_miss; · decide +kernel)))
section
variable {P : Program} {w : World} {K : PySem.W.Frag} {mg : Str → Option Value} {base : Heap} {Γ : Cs} {H : Hp} {F : Ft} {B : LwPool.Board}
/-! ### the board is new -/
def spSlotInit (K : PySem.W.Frag) (Γ : Cs) : Sp := fun vs H Q _ => ∃ (p dx : Addr), vs = [.ref p] ∧ H p = some (.ins Γ.slot dx []) ∧ ∀ H' ws, SlotAt K Γ H' p ws LwPool.noSlot → (∀ b o, H b = some o → b ≠ p → H' b = some o) → H ws = none → Q .non H'
abbrev s_Slot_init : Stmt := inClass (top 23) 0
theorem sc_Slot_init : FnScope ["self"] ["self"] (defScope s_Slot_init) := ⟨rfl, rfl, rfl, by decide +kernel, rfl, by decide +kernel, by decide +kernel⟩
theorem ok_Slot_init {f : Addr} {fd : FuncData} (F : Fun K "__init__" "Slot.__init__" s_Slot_init f fd) (T : Tx K mg Γ) (g_unmarked_words : GF P w K mg base "unmarked_words" 1 ["stamp"] (spUnm K)) : FnOk P w K mg base CX0 2 f fd ["self"] (spSlotInit K Γ) := by
  have sc := sc_Slot_init
  refine F.ok sc (fun vs H Q E h => ?_) (fun cdv A outer s H vs Q E hr h => ?_)
  · obtain ⟨_, _, rfl, _⟩ := h
    rfl
  · obtain ⟨p, dx, rfl, hp, k⟩ := h
    refine ⟨_, (pss_cons (ps_fldP (pv 0) (pe_tup (pa_cons pe_int (pa_cons (pe_gv T.g_PHASE_FREE rfl) pa_nil))) rfl)
      (pss_cons (ps_fldP (pv 0) (pe_tup (pa_cons pe_int (pa_cons pe_int (pa_cons pe_int pa_nil)))) rfl)
      (pss_cons (ps_fldP (pv 0) pe_int rfl)
      (pss_cons (ps_fldP (pv 0) pe_int rfl)
      (pss_cons (ps_fldP (pv 0) (pe_tup pa_nil) rfl)
      (pss_one (ps_fldP (pv 0) (pe_gf g_unmarked_words (hr.mono (by decide)) rfl (pa_cons pe_int pa_nil)) rfl))))))), ?_⟩
    refine ⟨(by show 2 ≤ sizeLine; decide), fun t1 h1 => ?_⟩
    have c1 : Chg K (fun b => b = p) H (upd H t1 (.tup [.int 0, .int 0])) := chg_new h1
    have q1 : SqT K (upd H t1 (.tup [.int 0, .int 0])) t1 [.int 0, .int 0] := SqT.of upd_same
    have p1 := keep_new (u := .tup [.int 0, .int 0]) hp h1
    obtain ⟨H1, e1⟩ : ∃ H1, upd H t1 (.tup [.int 0, .int 0]) = H1 := ⟨_, rfl⟩
    rw [e1] at c1 q1 p1
    refine ⟨_, rfl, p, Γ.slot, dx, _, rfl, (by rw [e1]; exact p1), T.cl_slot, T.n_slot_state, (by show 0 < 1000; decide), _, (by walk_at "put"), ?_⟩
    rw [e1]
    refine ⟨(by show 3 ≤ sizeLine; decide), fun t2 h2 => ?_⟩
    have c2 : Chg K (fun b => b = p) H1 (upd H1 p (.ins Γ.slot dx [("state", .ref t1)])) := chg_ins p1 rfl
    have c3 : Chg K (fun b => b = p) (upd H1 p (.ins Γ.slot dx [("state", .ref t1)])) (upd (upd H1 p (.ins Γ.slot dx [("state", .ref t1)])) t2 (.tup [.int 0, .int 0, .int 0])) := chg_new h2
    have q2 : SqT K (upd (upd H1 p (.ins Γ.slot dx [("state", .ref t1)])) t2 (.tup [.int 0, .int 0, .int 0])) t2 [.int 0, .int 0, .int 0] := SqT.of upd_same
    have p2 : (upd (upd H1 p (.ins Γ.slot dx [("state", .ref t1)])) t2 (.tup [.int 0, .int 0, .int 0])) p = some (.ins Γ.slot dx [("state", .ref t1)]) := keep_new upd_same h2
    have q1' := c3.tup _ _ (c2.tup _ _ q1)
    have c4 := (c1.trans c2).trans c3
    obtain ⟨H2, e2⟩ : ∃ H2, upd (upd H1 p (.ins Γ.slot dx [("state", .ref t1)])) t2 (.tup [.int 0, .int 0, .int 0]) = H2 := ⟨_, rfl⟩
    rw [e2] at q2 p2 q1' c4
    refine ⟨_, rfl, p, Γ.slot, dx, _, rfl, (by rw [e2]; exact p2), T.cl_slot, T.n_slot_giving, (by show 1 < 1000; decide), _, (by walk_at "put"), ?_⟩
    rw [e2]
    refine ⟨_, rfl, p, Γ.slot, dx, _, rfl, upd_same, T.cl_slot, T.n_slot_slices, (by show 2 < 1000; decide), _, (by walk_at "put"), _, rfl, p, Γ.slot, dx, _, rfl, upd_same, T.cl_slot, T.n_slot_kind, (by show 3 < 1000; decide), _, (by walk_at "put"), (by show 0 ≤ sizeLine; decide), fun t3 h3 => ?_⟩
    rw [upd_upd, upd_upd] at h3 ⊢
    have c5 : Chg K (fun b => b = p) H2 (upd H2 p (.ins Γ.slot dx [("state", .ref t1), ("giving", .ref t2), ("slices", .int 0), ("kind", .int 0)])) := chg_ins p2 rfl
    have c6 : Chg K (fun b => b = p) (upd H2 p (.ins Γ.slot dx [("state", .ref t1), ("giving", .ref t2), ("slices", .int 0), ("kind", .int 0)])) (upd (upd H2 p (.ins Γ.slot dx [("state", .ref t1), ("giving", .ref t2), ("slices", .int 0), ("kind", .int 0)])) t3 (.tup [])) := chg_new h3
    have q3 : SqT K (upd (upd H2 p (.ins Γ.slot dx [("state", .ref t1), ("giving", .ref t2), ("slices", .int 0), ("kind", .int 0)])) t3 (.tup [])) t3 [] := SqT.of upd_same
    have p3 : (upd (upd H2 p (.ins Γ.slot dx [("state", .ref t1), ("giving", .ref t2), ("slices", .int 0), ("kind", .int 0)])) t3 (.tup [])) p = some (.ins Γ.slot dx [("state", .ref t1), ("giving", .ref t2), ("slices", .int 0), ("kind", .int 0)]) := keep_new upd_same h3
    have q1'' := c6.tup _ _ (c5.tup _ _ q1')
    have q2' := c6.tup _ _ (c5.tup _ _ q2)
    have c7 := (c4.trans c5).trans c6
    obtain ⟨H3, e3⟩ : ∃ H3, upd (upd H2 p (.ins Γ.slot dx [("state", .ref t1), ("giving", .ref t2), ("slices", .int 0), ("kind", .int 0)])) t3 (.tup []) = H3 := ⟨_, rfl⟩
    rw [e3] at q3 p3 q1'' q2' c7
    refine ⟨_, rfl, p, Γ.slot, dx, _, rfl, (by rw [e3]; exact p3), T.cl_slot, T.n_slot_job, (by show 4 < 1000; decide), _, (by walk_at "put"), ?_⟩
    rw [e3]
    have c8 : Chg K (fun b => b = p) H3 (upd H3 p (.ins Γ.slot dx [("state", .ref t1), ("giving", .ref t2), ("slices", .int 0), ("kind", .int 0), ("job", .ref t3)])) := chg_ins p3 rfl
    refine ⟨0, rfl, fun l was H4 s4 hl hl4 hpr => ?_⟩
    have c9 : Chg K (fun b => b = p) (upd H3 p (.ins Γ.slot dx [("state", .ref t1), ("giving", .ref t2), ("slices", .int 0), ("kind", .int 0), ("job", .ref t3)])) H4 := s4.chg
    have p4 := s4 _ _ (upd_same (H := H3) (a := p) (o := .ins Γ.slot dx [("state", .ref t1), ("giving", .ref t2), ("slices", .int 0), ("kind", .int 0), ("job", .ref t3)]))
    refine ⟨_, rfl, p, Γ.slot, dx, _, rfl, p4, T.cl_slot, T.n_slot_words, (by show 5 < 1000; decide), _, (by walk_at "put"), ?_⟩
    have c10 : Chg K (fun b => b = p) H4 (upd H4 p (.ins Γ.slot dx [("state", .ref t1), ("giving", .ref t2), ("slices", .int 0), ("kind", .int 0), ("job", .ref t3), ("words", .ref l)])) := chg_ins p4 rfl
    have ct := (c8.trans c9).trans c10
    have nlp : l ≠ p := (ne_of_none upd_same hl).symm
    refine k _ l ⟨⟨dx, t1, t2, t3, upd_same, ct.tup _ _ q1'', ct.tup _ _ q2', ct.tup _ _ q3⟩, was, ?_, paired_imp (fun _ _ z => z.chg c10) hpr⟩ (fun b o e hb => (c7.trans ct).keep b o e hb) (c7.free (c8.free hl))
    rw [upd_ne nlp]
    exact hl4
def spBoardInit (K : PySem.W.Frag) (Γ : Cs) : Sp := fun vs H Q _ => ∃ (p dx : Addr), vs = [.ref p] ∧ H p = some (.ins Γ.board dx []) ∧ ∀ H' F, F.b = p → BdAt K Γ H' F LwPool.laid → (∀ b o, H b = some o → b ≠ p → H' b = some o) → (∀ a, F.In a → a = p ∨ H a = none) → Q .non H'
abbrev s_Board_init : Stmt := inClass (top 24) 0
theorem sc_Board_init : FnScope ["self", "number"] ["self"] (defScope s_Board_init) := ⟨rfl, rfl, rfl, by decide +kernel, rfl, by decide +kernel, by decide +kernel⟩
theorem ok_Board_init {f : Addr} {fd : FuncData} (F : Fun K "__init__" "Board.__init__" s_Board_init f fd) (T : Tx K mg Γ) (k_Slot : KF P w K mg base "Slot" Γ.slot 2 ["self"] (spSlotInit K Γ)) : FnOk P w K mg base CX0 4 f fd ["self"] (spBoardInit K Γ) := by
  have sc := sc_Board_init
  refine F.ok sc (fun vs H Q E h => ?_) (fun cdv A outer s H vs Q E hr h => ?_)
  · obtain ⟨_, _, rfl, _⟩ := h
    rfl
  · obtain ⟨p, dx, rfl, hp, k⟩ := h
    refine ⟨_, (pss_cons (ps_fldP (pv 0) pe_int rfl)
      (pss_one (ps_fldP (pv 0) (pe_lc rfl sc.nd (pi_range1 rfl T.b_range (pa_cons (pe_gv T.g_SLOTS rfl) pa_nil)) (blkOk_by (show blkC ["self", "number"] (defScope s_Board_init) _ [("number", 1)] = true by decide +kernel)) (fun _ _ _ _ _ => pg_name (i := 1) sc.nd rfl (Or.inl rfl)) (fun _ _ _ _ _ => pts_nil) (fun _ _ _ _ _ => (pe_kf0 k_Slot (hr.mono (by decide)) rfl))) rfl))), ?_⟩
    refine ⟨_, rfl, p, Γ.board, dx, _, rfl, hp, T.cl_board, T.n_board_event, (by show 0 < 1000; decide), _, (by walk_at "put"), ?_⟩
    have p1 : (upd H p (.ins Γ.board dx [("event", .int 0)])) p = some (.ins Γ.board dx [("event", .int 0)]) := upd_same
    have c1 : Chg K (fun b => b = p) H (upd H p (.ins Γ.board dx [("event", .int 0)])) := chg_ins hp rfl
    obtain ⟨H1, e1⟩ : ∃ H1, upd H p (.ins Γ.board dx [("event", .int 0)]) = H1 := ⟨_, rfl⟩
    rw [e1] at p1 c1 ⊢
    refine ⟨2, rfl, by decide, by decide, fun D hD => lc_range (n := 2) (fun i H' => Same H1 H' ∧ ∃ (sa wa : Nat → Addr), H' D = some (.lst ((List.range i).map fun j => V.ref (sa j))) ∧ (∀ j, j < i → SlotAt K Γ H' (sa j) (wa j) LwPool.noSlot ∧ H1 (sa j) = none ∧ H1 (wa j) = none ∧ wa j ≠ D) ∧
      (∀ j j', j < i → j' < i → j ≠ j' → sa j ≠ sa j' ∧ wa j ≠ wa j')) ⟨Same.new hD, fun _ => 0, fun _ => 0, upd_same, (fun j hj => absurd hj (Nat.not_lt_zero j)), fun j j' hj => absurd hj (Nat.not_lt_zero j)⟩ (fun i H2 hi ⟨s2, sa, wa, hD2, hat, hdis⟩ => ?_) (fun H2 ⟨s2, sa, wa, hD2, hat, hdis⟩ => ?_)⟩
    · refine ⟨rfl, ?_⟩
      intro x dx2 nx ndx ne
      refine ⟨x, dx2, rfl, upd_same, fun H3 ws hS kp hw => ⟨rfl, ?_⟩⟩
      have s3 : Same H2 H3 := Same.made nx ndx kp
      have hwf : H2 ws = none := by
        have s0 : Same H2 (upd (upd H2 dx2 (.own x)) x (.ins Γ.slot dx2 [])) := fun b o e => by
          rw [upd_ne (ne_of_none e nx), upd_ne (ne_of_none e ndx)]; exact e
        exact s0.free hw
      have hD3 := s3 _ _ hD2
      have nwD : ws ≠ D := (ne_of_none hD2 hwf).symm
      have c4 : Chg K (fun b => b = D) H3 (upd H3 D (.lst ((List.range i).map (fun j => V.ref (sa j)) ++ [.ref x]))) := chg_lst hD3 rfl
      have s4 : Same H1 (upd H3 D (.lst ((List.range i).map (fun j => V.ref (sa j)) ++ [.ref x]))) := fun b o e => by
        rw [upd_ne (ne_of_none e hD)]; exact s3 _ _ (s2 _ _ e)
      refine ⟨_, hD3, ?_, s4, fun j => if j = i then x else sa j, fun j => if j = i then ws else wa j, ?_, fun j hj => ?_, fun j j' hj hj' hn => ?_⟩
      · rw [List.length_map, List.length_range]
        have : 4 < sizeLine := by decide
        omega
      · rw [upd_same, List.range_succ, List.map_append]
        congr 3
        · apply List.map_congr_left
          intro j hj
          have := List.mem_range.mp hj
          dsimp only
          rw [if_neg (by omega)]
        · rw [List.map_cons]
          dsimp only
          rw [if_pos rfl]
          rfl
      · by_cases e : j = i
        · dsimp only
          rw [if_pos e, if_pos e]
          obtain ⟨dS, tS, gS, jS, hobS, _⟩ := hS.ob
          exact ⟨hS.chg c4 (ne_of hobS hD3 (fun z => nomatch z)) nwD, s2.free nx, s2.free hwf, nwD⟩
        · dsimp only
          rw [if_neg e, if_neg e]
          obtain ⟨h1, h2, h3, h4⟩ := hat j (by omega)
          have h1' := h1.chg (X := fun _ => False) s3.chg (fun z => z) (fun z => z)
          obtain ⟨dS, tS, gS, jS, hobS, _⟩ := h1'.ob
          exact ⟨h1'.chg c4 (ne_of hobS hD3 (fun z => nomatch z)) h4, h2, h3, h4⟩
      · dsimp only
        by_cases e : j = i
        · have e' : ¬ j' = i := fun z => hn (e.trans z.symm)
          rw [if_pos e, if_pos e, if_neg e', if_neg e']
          obtain ⟨h1, _⟩ := hat j' (by omega)
          obtain ⟨dS, tS, gS, jS, hobS, _⟩ := h1.ob
          obtain ⟨was, hwS, _⟩ := h1.wl
          exact ⟨(ne_of_none hobS nx).symm, (ne_of_none hwS hwf).symm⟩
        · rw [if_neg e, if_neg e]
          by_cases e' : j' = i
          · rw [if_pos e', if_pos e']
            obtain ⟨h1, _⟩ := hat j (by omega)
            obtain ⟨dS, tS, gS, jS, hobS, _⟩ := h1.ob
            obtain ⟨was, hwS, _⟩ := h1.wl
            exact ⟨ne_of_none hobS nx, ne_of_none hwS hwf⟩
          · rw [if_neg e', if_neg e']
            exact hdis j j' (by omega) (by omega) hn
    · have p2 := s2 _ _ p1
      have nDp : D ≠ p := (ne_of_none p1 hD).symm
      refine ⟨_, rfl, p, Γ.board, dx, _, rfl, p2, T.cl_board, T.n_board_slots, (by show 1 < 1000; decide), _, (by walk_at "put"), ?_⟩
      have c3 : Chg K (fun b => b = p) H2 (upd H2 p (.ins Γ.board dx [("event", .int 0), ("slots", .ref D)])) := chg_ins p2 rfl
      refine k _ ⟨p, D, sa, wa⟩ rfl ⟨⟨dx, upd_same⟩, ?_, fun j hj => ?_, (hdis 0 1 (by decide) (by decide) (by decide)).1, (hdis 0 1 (by decide) (by decide) (by decide)).2, fun j hj => ((hat j hj).2.2.2).symm⟩ (fun b o e hb => c3.keep b o (s2 b o (c1.keep b o e hb)) hb) fun a ha => ?_
      · rw [upd_ne nDp]
        exact hD2
      · have e : LwPool.laid.slot j = LwPool.noSlot := by
          match j, hj with
          | 0, _ => rfl
          | 1, _ => rfl
        rw [e]
        obtain ⟨h1, h2, h3, h4⟩ := hat j hj
        exact h1.chg c3 (fun z => by rw [show sa j = p from z, p1] at h2; cases h2) (fun z => by rw [show wa j = p from z, p1] at h3; cases h3)
      · rcases ha with e | e | ⟨j, hj, e⟩ | ⟨j, hj, e⟩
        · exact .inl e
        · exact .inr (by rw [show a = D from e]; exact c1.free hD)
        · exact .inr (by rw [show a = sa j from e]; exact c1.free (hat j hj).2.1)
        · exact .inr (by rw [show a = wa j from e]; exact c1.free (hat j hj).2.2.1)
def lineF (b lr : Addr) : List (Str × V) := [("board", .ref b), ("running", .ref lr)]
def spLineInit (K : PySem.W.Frag) (Γ : Cs) : Sp := fun vs H Q _ => ∃ (p dx : Addr), vs = [.ref p] ∧ H p = some (.ins Γ.line dx []) ∧ ∀ H' F lr, H' p = some (.ins Γ.line dx (lineF F.b lr)) → BdAt K Γ H' F LwPool.laid → H' lr = some (.lst (List.replicate 4 .non)) → ¬ F.In lr →
  (∀ b o, H b = some o → b ≠ p → H' b = some o) → (∀ a, F.In a → H a = none) → H lr = none → Q .non H'
abbrev s_Line_init : Stmt := inClass (top 80) 0
theorem sc_Line_init : FnScope ["self", "party"] ["self"] (defScope s_Line_init) := ⟨rfl, rfl, rfl, by decide +kernel, rfl, by decide +kernel, by decide +kernel⟩
theorem ok_Line_init {f : Addr} {fd : FuncData} (F : Fun K "__init__" "Line.__init__" s_Line_init f fd) (T : Tx K mg Γ) (k_Board : KF P w K mg base "Board" Γ.board 4 ["self"] (spBoardInit K Γ)) : FnOk P w K mg base CX0 6 f fd ["self"] (spLineInit K Γ) := by
  have sc := sc_Line_init
  refine F.ok sc (fun vs H Q E h => ?_) (fun cdv A outer s H vs Q E hr h => ?_)
  · obtain ⟨_, _, rfl, _⟩ := h
    rfl
  · obtain ⟨p, dx, rfl, hp, k⟩ := h
    refine ⟨_, (pss_cons (ps_fldP (pv 0) (pe_kf0 k_Board (hr.mono (by decide)) rfl) rfl)
      (pss_one (ps_fldP (pv 0) (pe_lc rfl sc.nd (pi_range1 rfl T.b_range (pa_cons (pe_gv T.g_PARTIES rfl) pa_nil)) (blkOk_by (show blkC ["self", "party"] (defScope s_Line_init) _ [("party", 1)] = true by decide +kernel)) (fun _ _ _ _ _ => pg_name (i := 1) sc.nd rfl (Or.inl rfl)) (fun _ _ _ _ _ => pts_nil) (fun _ _ _ _ _ => pe_non)) rfl))), ?_⟩
    intro x dx2 nx ndx ne
    refine ⟨x, dx2, rfl, upd_same, fun H1 F eF hB kp hN => ⟨rfl, ?_⟩⟩
    have s1 : Same H H1 := Same.made nx ndx kp
    have hp1 := s1 _ _ hp
    have s0 : Same H (upd (upd H dx2 (.own x)) x (.ins Γ.board dx2 [])) := fun b o e => by
      rw [upd_ne (ne_of_none e nx), upd_ne (ne_of_none e ndx)]; exact e
    have hF : ∀ a, F.In a → H a = none := fun a ha => (hN a ha).elim (fun e => by rw [e]; exact nx) fun z => s0.free z
    have npF : ¬ F.In p := fun z => by rw [hF p z] at hp; cases hp
    refine ⟨_, rfl, p, Γ.line, dx, _, rfl, hp1, T.cl_line, T.n_line_board, (by show 0 < 1000; decide), _, (by walk_at "put"), ?_⟩
    have c2 : Chg K (fun b => b = p) H1 (upd H1 p (.ins Γ.line dx [("board", .ref x)])) := chg_ins hp1 rfl
    have p2 : (upd H1 p (.ins Γ.line dx [("board", .ref x)])) p = some (.ins Γ.line dx [("board", .ref x)]) := upd_same
    have hB2 : BdAt K Γ (upd H1 p (.ins Γ.line dx [("board", .ref x)])) F LwPool.laid := hB.chg c2 fun a ha e => npF (e ▸ ha)
    obtain ⟨H2, e2⟩ : ∃ H2, upd H1 p (.ins Γ.line dx [("board", .ref x)]) = H2 := ⟨_, rfl⟩
    rw [e2] at c2 p2 hB2 ⊢
    refine ⟨4, rfl, by decide, by decide, fun D hD => lc_range (n := 4) (fun i H' => Same H2 H' ∧ H' D = some (.lst (List.replicate i .non))) ⟨Same.new hD, upd_same⟩ (fun i H3 hi ⟨s3, hD3⟩ => ?_) (fun H3 ⟨s3, hD3⟩ => ?_)⟩
    · refine ⟨rfl, _, hD3, ?_, fun b o e => ?_, ?_⟩
      · rw [List.length_replicate]
        have : 4 < sizeLine := by decide
        omega
      · rw [upd_ne (ne_of_none e hD)]; exact s3 _ _ e
      · rw [upd_same, List.replicate_succ']
    · have p3 := s3 _ _ p2
      have nDp : D ≠ p := (ne_of_none p2 hD).symm
      have hDF : ¬ F.In D := hB2.notNone hD
      refine ⟨_, rfl, p, Γ.line, dx, _, rfl, p3, T.cl_line, T.n_line_running, (by show 1 < 1000; decide), _, (by walk_at "put"), ?_⟩
      have c4 : Chg K (fun b => b = p) H3 (upd H3 p (.ins Γ.line dx [("board", .ref x), ("running", .ref D)])) := chg_ins p3 rfl
      refine k _ F D (by rw [eF]; exact upd_same) ((hB2.same s3).chg c4 fun a ha e => npF (e ▸ ha)) ?_ hDF (fun b o e hb => c4.keep b o (s3 b o (c2.keep b o (s1 b o e) hb)) hb) hF (s1.free (c2.free hD))
      rw [upd_ne nDp]
      exact hD3
end
end Po

namespace Po
open PySem PySem.Spec PyProof.Rows L2
local macro_rules | `(tactic| walk_at "lk") => `(tactic| repeat (first | exact lk_hit | exact lk_nil | refine (lk_miss (by decide +kernel)).trans ?_))
local macro_rules | `(tactic| walk_at "put") => `(tactic| repeat (first | exact put_hit | exact put_nil | (apply put_miss; · decide +kernel)))
def wTold (l : List LwPool.Word) : List Nat := l.flatMap fun (w : LwPool.Word) => w.stamp :: w.bits.map PoolCalls.bit
theorem wTold_len : ∀ l : List LwPool.Word, (∀ x ∈ l, x.bits.length = 8) → (wTold l).length = 9 * l.length
  | [], _ => rfl
  | a :: l, h => by
    have ih := wTold_len l fun x hx => h x (List.mem_cons_of_mem _ hx)
    unfold wTold at ih ⊢
    rw [List.flatMap_cons, List.length_append, ih]
    have := h a List.mem_cons_self
    simp [this]
    omega
theorem take_snoc {α : Type} : ∀ {l : List α} {i : Nat} {x : α}, l[i]? = some x → l.take (i + 1) = l.take i ++ [x]
  | [], i, x, h => by simp at h
  | a :: l, 0, x, h => by
    have e : a = x := Option.some.inj h
    subst e
    rfl
  | a :: l, i + 1, x, h => by
    have ih := take_snoc (l := l) (i := i) (x := x) h
    show a :: l.take (i + 1) = a :: l.take i ++ [x]
    rw [ih]
    rfl
theorem paired_left {α β : Type} {R : α → β → Prop} : ∀ {xs : List α} {ys : List β} {j : Nat} {x : α}, Paired R xs ys → xs[j]? = some x → ∃ y, ys[j]? = some y ∧ R x y
  | _, _, _, _, .nil, e => by simp at e
  | _, _, 0, _, .cons r _, e => by simp at e; subst e; exact ⟨_, rfl, r⟩
  | _, _, j + 1, x, .cons _ t, e => by
    obtain ⟨y, h1, h2⟩ := paired_left (j := j) (x := x) t (by simpa using e)
    exact ⟨y, by simpa using h1, h2⟩
section
variable {P : Program} {w : World} {K : PySem.W.Frag} {mg : Str → Option Value} {base : Heap} {Γ : Cs} {H : Hp} {F : Ft} {B : LwPool.Board}
/-! ### the board is told -/
def slTold (B : LwPool.Board) (i : Nat) : List Nat := B.event :: ([B.slot 0, B.slot 1].take i).flatMap PoolCalls.slotTold
theorem slTold_len (hO : BOk B) {i : Nat} (hi : i ≤ 2) : (slTold B i).length = 1 + 43 * i := by
  unfold slTold
  have h0 := slotTold_len (hO.sl 0 (by decide))
  have h1 := slotTold_len (hO.sl 1 (by decide))
  match i, hi with
  | 0, _ => rfl
  | 1, _ => simp [h0]
  | 2, _ => simp [h0, h1]
def spTell (K : PySem.W.Frag) (Γ : Cs) : Sp := fun vs H Q _ => ∃ (F : Ft) (B : LwPool.Board), vs = [.ref F.b] ∧ BdAt K Γ H F B ∧ BOk B ∧ ∀ l H', Same H H' → H l = none → H' l = some (.lst ((B.event :: B.slots.flatMap PoolCalls.slotTold).map vi)) → Q (.ref l) H'
abbrev s_tell_board : Stmt := top 85
theorem sc_tell_board : FnScope ["board", "told", "slot", "word"] ["board"] (defScope s_tell_board) := ⟨rfl, rfl, rfl, by decide +kernel, rfl, by decide +kernel, by decide +kernel⟩
theorem ok_tell_board {f : Addr} {fd : FuncData} (F : Fun K "tell_board" "tell_board" s_tell_board f fd) (T : Tx K mg Γ) : FnOk P w K mg base CX0 1 f fd ["board"] (spTell K Γ) := by
  have sc := sc_tell_board
  refine F.ok sc (fun vs H Q E h => ?_) (fun cdv A outer s H vs Q E hr h => ?_)
  · obtain ⟨_, _, rfl, _⟩ := h
    rfl
  · obtain ⟨F, B, rfl, hB, hO, k⟩ := h
    obtain ⟨db, hb⟩ := id hB.bd
    have big : 1000 < sizeLine := by decide
    refine ⟨_, (pss_cons (ps_set (i := 1) sc.nd rfl (Or.inl rfl) (pe_lst (pa_cons (pe_fld (pv 0) rfl) pa_nil)))
      (pss_cons (ps_for PassesOwn.never rfl (pi_list (pe_fld (pv 0) rfl)) (pg_name (i := 2) sc.nd rfl (Or.inl rfl))
        (pss_cons (ps_expr (pe_bm PySem.F.plainAttrs_list PySem.F.slot_list_extend PySem.F.type_list_extend mt_extT (pv 1) (pa_cons (pe_op op_catT (pe_op op_catT (pe_fld (pv 2) rfl) (pe_fld (pv 2) rfl)) (pe_tup (pa_cons (pe_fld (pv 2) rfl) (pa_cons (pe_fld (pv 2) rfl) pa_nil)))) pa_nil)))
      (pss_one (ps_for PassesOwn.never rfl (pi_list (pe_fld (pv 2) rfl)) (pg_name (i := 3) sc.nd rfl (Or.inl rfl))
        (pss_cons (ps_expr (pe_bm PySem.F.plainAttrs_list PySem.F.slot_list_append PySem.F.type_list_append mt_append (pv 1) (pa_cons (pe_ix ix_tup (pv 3) (pe_gv T.g_STAMP rfl) (fun _ _ => rfl)) pa_nil)))
      (pss_one (ps_expr (pe_bm PySem.F.plainAttrs_list PySem.F.slot_list_extend PySem.F.type_list_extend mt_extT (pv 1) (pa_cons (pe_ix ix_tup (pv 3) (pe_gv T.g_MARKS rfl) (fun _ _ => rfl)) pa_nil)))))))))
      (pss_one (ps_ret (pv 1))))), ?_⟩
    refine ⟨_, rfl, F.b, Γ.board, db, _, _, rfl, hb, T.cl_board, T.n_board_event, (by walk_at "lk"), (by show 1 ≤ sizeLine; decide), fun l hl => ?_⟩
    have s0 : Same H (upd H l (.lst [vi B.event])) := Same.new hl
    have hB0 := hB.same s0
    have stay : ∀ {H1 : Hp} {u : HO}, Same H H1 → Same H (upd H1 l u) := fun s1 b o e => by
      rw [upd_ne (ne_of_none e hl)]; exact s1 b o e
    refine ⟨_, rfl, F.b, Γ.board, db, _, _, rfl, s0 _ _ hb, T.cl_board, T.n_board_slots, (by walk_at "lk"), F.ls, rfl, ⟨_, SqL.of hB0.ls⟩, for_list (K := K) (a := F.ls) (xs := [V.ref (F.s 0), V.ref (F.s 1)])
      (fun i σ H' => ∃ v2 v3 : Option V, σ = [some (.ref F.b), some (.ref l), v2, v3] ∧ Same H H' ∧ H' l = some (.lst ((slTold B i).map vi))) ⟨none, none, rfl, s0, upd_same⟩ (fun i σ H' _ ⟨_, _, _, s1, _⟩ => SqL.of (hB.same s1).ls) ?_ ?_⟩
    · rintro i y σ H1 hy ⟨v2, v3, rfl, s1, hl1⟩
      have hi : i < 2 := by
        have := (List.getElem?_eq_some_iff.mp hy).1
        simpa using this
      have ey : y = .ref (F.s i) := Option.some.inj (hy.symm.trans (slots_at hi))
      subst ey
      have hB1 := hB.same s1
      have hO1 := hO.sl i hi
      obtain ⟨ds, ta, g, j, hs, ht, hn, hj⟩ := (hB1.at_ i hi).ob
      have hlen := slTold_len hO (i := i) (by omega)
      refine ⟨_, rfl, .inl ⟨rfl, _, SqL.of hl1⟩, _, rfl, F.s i, Γ.slot, ds, _, _, rfl, hs, T.cl_slot, T.n_slot_state, (by walk_at "lk"), _, rfl, F.s i, Γ.slot, ds, _, _, rfl, hs, T.cl_slot, T.n_slot_giving, (by walk_at "lk"),
        ta, g, _, _, rfl, rfl, ht, hn, (by simp), (by show 5 ≤ sizeLine; decide), (fun z => absurd z (by simp)), fun _ q1 hq1 => ?_⟩
      refine ⟨_, rfl, F.s i, Γ.slot, ds, _, _, rfl, keep_new hs hq1, T.cl_slot, T.n_slot_slices, (by walk_at "lk"), _, rfl, F.s i, Γ.slot, ds, _, _, rfl, keep_new hs hq1, T.cl_slot, T.n_slot_kind, (by walk_at "lk"), (by show 2 ≤ sizeLine; decide), fun q2 hq2 => ?_⟩
      refine ⟨q1, q2, _, _, rfl, rfl, SqT.of (keep_new upd_same hq2), SqT.of upd_same, (by simp), (by show 7 ≤ sizeLine; decide), (fun z => absurd z (by simp)), fun _ q3 hq3 => ?_⟩
      refine ⟨l, q3, _, _, rfl, rfl, keep_new (keep_new (keep_new hl1 hq1) hq2) hq3, SqT.of upd_same, ?_, ?_⟩
      · rw [List.length_map, hlen]
        show 1 + 43 * i + 7 ≤ sizeLine
        omega
      -- the words
      obtain ⟨H2, e2⟩ : ∃ H2, upd (upd (upd (upd H1 q1 (.tup ([vi (B.slot i).state.stamp, vi (B.slot i).state.phase] ++ [vi (B.slot i).next.stamp, vi (B.slot i).next.given, vi (PoolCalls.bit (B.slot i).next.stopped)]))) q2 (.tup [vi (B.slot i).count, vi (B.slot i).kind])) q3 (.tup (([vi (B.slot i).state.stamp, vi (B.slot i).state.phase] ++ [vi (B.slot i).next.stamp, vi (B.slot i).next.given, vi (PoolCalls.bit (B.slot i).next.stopped)]) ++ [vi (B.slot i).count, vi (B.slot i).kind]))) l (.lst ((slTold B i).map vi ++ (([vi (B.slot i).state.stamp, vi (B.slot i).state.phase] ++ [vi (B.slot i).next.stamp, vi (B.slot i).next.given, vi (PoolCalls.bit (B.slot i).next.stopped)]) ++ [vi (B.slot i).count, vi (B.slot i).kind]))) = H2 := ⟨_, rfl⟩
      have s2 : Same H H2 := by rw [← e2]; exact stay (((s1.trans (Same.new hq1)).trans (Same.new hq2)).trans (Same.new hq3))
      have hl2 : H2 l = some (.lst ((slTold B i ++ [(B.slot i).state.stamp, (B.slot i).state.phase, (B.slot i).next.stamp, (B.slot i).next.given, PoolCalls.bit (B.slot i).next.stopped, (B.slot i).count, (B.slot i).kind]).map vi)) := by
        rw [← e2, upd_same, List.map_append]
        rfl
      rw [e2]
      have hB2 := hB.same s2
      obtain ⟨ds2, ta2, g2, j2, hs2, _⟩ := (hB2.at_ i hi).ob
      obtain ⟨was, hw2, hpr2⟩ := (hB2.at_ i hi).wl
      refine ⟨_, rfl, F.s i, Γ.slot, ds2, _, _, rfl, hs2, T.cl_slot, T.n_slot_words, (by walk_at "lk"), F.w i, rfl, ⟨_, SqL.of hw2⟩, for_list (K := K) (a := F.w i) (xs := was.map V.ref)
        (fun n σ H' => ∃ v3 : Option V, σ = [some (.ref F.b), some (.ref l), some (.ref (F.s i)), v3] ∧ Same H H' ∧ H' (F.w i) = some (.lst (was.map V.ref)) ∧ Paired (WdT K H') was (B.slot i).words ∧
          H' l = some (.lst ((slTold B i ++ [(B.slot i).state.stamp, (B.slot i).state.phase, (B.slot i).next.stamp, (B.slot i).next.given, PoolCalls.bit (B.slot i).next.stopped, (B.slot i).count, (B.slot i).kind] ++ wTold ((B.slot i).words.take n)).map vi)))
        ⟨_, rfl, s2, hw2, hpr2, by rw [hl2]; simp [wTold]⟩ (fun n σ H' _ ⟨_, _, _, h, _⟩ => SqL.of h) ?_ ?_⟩
      · rintro n y σ H3 hy ⟨v3, rfl, s3, hw3, hpr3, hl3⟩
        obtain ⟨a, ha, rfl⟩ : ∃ a, was[n]? = some a ∧ y = V.ref a := by
          rw [List.getElem?_map] at hy
          cases e : was[n]? with
          | none => rw [e] at hy; cases hy
          | some a => rw [e] at hy; exact ⟨a, rfl, (Option.some.inj hy).symm⟩
        obtain ⟨x, hx, m, h2, h3⟩ := paired_left hpr3 ha
        have hxm : x ∈ (B.slot i).words := List.mem_of_getElem? hx
        have hx8 := hO1.bts x hxm
        have hn4 : n < 4 := by
          have := (List.getElem?_eq_some_iff.mp hx).1
          rw [hO1.wds] at this
          exact this
        have htl := wTold_len ((B.slot i).words.take n) fun z hz => hO1.bts z (List.mem_of_mem_take hz)
        have htk : ((B.slot i).words.take n).length ≤ 4 := by rw [List.length_take, hO1.wds]; omega
        have nlw : F.w i ≠ l := by
          obtain ⟨was0, hw0, _⟩ := (hB.at_ i hi).wl
          exact ne_of_none hw0 hl
        have c4 : Chg K (fun b => b = l) H3 (upd H3 l (.lst ((slTold B i ++ [(B.slot i).state.stamp, (B.slot i).state.phase, (B.slot i).next.stamp, (B.slot i).next.given, PoolCalls.bit (B.slot i).next.stopped, (B.slot i).count, (B.slot i).kind] ++ wTold ((B.slot i).words.take n)).map vi ++ [vi x.stamp]))) := chg_lst hl3 rfl
        have c5 : Chg K (fun b => b = l) (upd H3 l (.lst ((slTold B i ++ [(B.slot i).state.stamp, (B.slot i).state.phase, (B.slot i).next.stamp, (B.slot i).next.given, PoolCalls.bit (B.slot i).next.stopped, (B.slot i).count, (B.slot i).kind] ++ wTold ((B.slot i).words.take n)).map vi ++ [vi x.stamp]))) (upd (upd H3 l (.lst ((slTold B i ++ [(B.slot i).state.stamp, (B.slot i).state.phase, (B.slot i).next.stamp, (B.slot i).next.given, PoolCalls.bit (B.slot i).next.stopped, (B.slot i).count, (B.slot i).kind] ++ wTold ((B.slot i).words.take n)).map vi ++ [vi x.stamp]))) l (.lst (((slTold B i ++ [(B.slot i).state.stamp, (B.slot i).state.phase, (B.slot i).next.stamp, (B.slot i).next.given, PoolCalls.bit (B.slot i).next.stopped, (B.slot i).count, (B.slot i).kind] ++ wTold ((B.slot i).words.take n)).map vi ++ [vi x.stamp]) ++ x.bits.map fun b => vi (PoolCalls.bit b)))) := chg_lst upd_same rfl
        refine ⟨_, rfl, .inl ⟨rfl, _, SqL.of hl3⟩, _, rfl, a, _, _, _, rfl, rfl, h2, at_of (j := 0) rfl rfl, l, _, _, rfl, rfl, hl3, ?_, ?_⟩
        · simp only [List.length_map, List.length_append, hlen, htl, List.length_cons, List.length_nil]
          omega
        refine ⟨_, rfl, .inl ⟨rfl, _, SqL.of upd_same⟩, _, rfl, a, _, _, _, rfl, rfl, c4.tup _ _ h2, at_of (j := 1) rfl rfl, l, m, _, _, rfl, rfl, upd_same, c4.tup _ _ h3, ?_, ?_⟩
        · simp only [List.length_map, List.length_append, hlen, htl, List.length_cons, List.length_nil, hx8]
          omega
        refine ⟨_, rfl, stay (stay s3), ?_, paired_imp (fun _ _ z => z.chg (c4.trans c5)) hpr3, ?_⟩
        · rw [upd_ne nlw, upd_ne nlw]; exact hw3
        · rw [upd_same, take_snoc hx]
          simp [wTold]
      · rintro σ H3 ⟨v3, rfl, s3, hw3, hpr3, hl3⟩
        refine ⟨_, _, rfl, s3, ?_⟩
        rw [hl3]
        have el : (was.map V.ref).length = (B.slot i).words.length := by rw [List.length_map]; exact paired_len hpr2
        rw [el, List.take_length]
        congr 3
        have e2s : ([B.slot 0, B.slot 1] : List LwPool.Slot)[i]? = some (B.slot i) := by
          match i, hi with
          | 0, _ => rfl
          | 1, _ => rfl
        unfold slTold
        rw [take_snoc e2s, List.flatMap_append]
        simp [PoolCalls.slotTold, wTold]
    · rintro σ H1 ⟨v2, v3, rfl, s1, hl1⟩
      refine ⟨_, rfl, k l H1 s1 hl ?_⟩
      have e : slTold B 2 = B.event :: B.slots.flatMap PoolCalls.slotTold := by
        rw [two_slots hO]
        rfl
      rw [← e]
      exact hl1
/-! ### a new call -/
def spNew (K : PySem.W.Frag) (Γ : Cs) : Sp := fun vs H Q _ => ∃ (o : LwPool.Op) (pn : Nat) (nl jb : Addr), vs = [.int (PoolNeutral.place o), .ref nl, .ref jb] ∧ SqL K H nl (((pn : Int) :: opN o).map V.int) ∧ JbT K H jb (opJ o) ∧ ∀ c H', Same H H' → H c = none → InitAt K Γ H' c o → Q (.ref c) H'
abbrev s_new_call : Stmt := top 84
theorem sc_new_call : FnScope ["place", "numbers", "job"] ["place", "numbers", "job"] (defScope s_new_call) := ⟨rfl, rfl, rfl, by decide +kernel, rfl, by decide +kernel, by decide +kernel⟩
theorem made_same {H : Hp} {x dx : Addr} {o : HO} (nx : H x = none) (nd : H dx = none) : Same H (upd (upd (upd H dx (.own x)) x (.ins x dx [])) x o) := fun b u e => by
  rw [upd_ne (ne_of_none e nx), upd_ne (ne_of_none e nx), upd_ne (ne_of_none e nd)]; exact e
theorem made_same' {H : Hp} {C x dx : Addr} {o : HO} (nx : H x = none) (nd : H dx = none) : Same H (upd (upd (upd H dx (.own x)) x (.ins C dx [])) x o) := fun b u e => by
  rw [upd_ne (ne_of_none e nx), upd_ne (ne_of_none e nx), upd_ne (ne_of_none e nd)]; exact e
theorem ok_new_call {f : Addr} {fd : FuncData} (F : Fun K "new_call" "new_call" s_new_call f fd) (T : Tx K mg Γ) (k_Offer : KF P w K mg base "Offer" Γ.offer 2 ["self", "place", "slices", "kind", "job"] (spOfferInit Γ.offer)) (k_Take : KF P w K mg base "Take" Γ.take 2 ["self", "place"] (spTakeInit Γ.take)) (k_Again : KF P w K mg base "Again" Γ.again 2 ["self", "place", "ticket"] (spTickInit Γ.again)) (k_Done : KF P w K mg base "Done" Γ.done 4 ["self", "place", "ticket", "k"] (spDoneInit Γ.done)) (k_Stop : KF P w K mg base "Stop" Γ.stop 3 ["self", "place", "ticket"] (spFinInit K)) (k_Look : KF P w K mg base "Look" Γ.look 2 ["self", "place", "ticket"] (spTickInit Γ.look)) (k_Clear : KF P w K mg base "Clear" Γ.clear 3 ["self", "place", "ticket"] (spClearInit Γ.clear)) (k_Key : KF P w K mg base "Key" Γ.key 1 ["self", "place"] (spRunInit K)) (k_Sleep : KF P w K mg base "Sleep" Γ.sleep 2 ["self", "place", "number"] (spSleepInit Γ.sleep)) (k_Wake : KF P w K mg base "Wake" Γ.wake 2 ["self", "place"] (spTryInit K)) : FnOk P w K mg base CX0 6 f fd ["place", "numbers", "job"] (spNew K Γ) := by
  have sc := sc_new_call
  refine F.ok sc (fun vs H Q E h => ?_) (fun cdv A outer s H vs Q E hr h => ?_)
  · obtain ⟨_, _, _, _, rfl, _⟩ := h
    rfl
  · obtain ⟨o, pn, nl, jb, rfl, hnl, hjb, k⟩ := h
    refine ⟨_, (pss_cons (ps_if (pt_cmpR op_eq (pv 0) (pe_gv T.g_OFFER rfl) (nomark _))
        (pss_one (ps_ret (pe_kf k_Offer (hr.mono (by decide)) rfl (pa_cons (pv 0) (pa_cons (pe_ix ix_list (pv 1) pe_int (fun _ _ => rfl)) (pa_cons (pe_ix ix_list (pv 1) pe_int (fun _ _ => rfl)) (pa_cons (pv 2) pa_nil)))))))
        pss_nil)
      (pss_cons (ps_if (pt_cmpR op_eq (pv 0) (pe_gv T.g_TAKE rfl) (nomark _))
        (pss_one (ps_ret (pe_kf k_Take (hr.mono (by decide)) rfl (pa_cons (pv 0) pa_nil))))
        pss_nil)
      (pss_cons (ps_if (pt_cmpR op_eq (pv 0) (pe_gv T.g_AGAIN rfl) (nomark _))
        (pss_one (ps_ret (pe_kf k_Again (hr.mono (by decide)) rfl (pa_cons (pv 0) (pa_cons (pe_ix ix_list (pv 1) pe_int (fun _ _ => rfl)) pa_nil)))))
        pss_nil)
      (pss_cons (ps_if (pt_cmpR op_eq (pv 0) (pe_gv T.g_DONE rfl) (nomark _))
        (pss_one (ps_ret (pe_kf k_Done (hr.mono (by decide)) rfl (pa_cons (pv 0) (pa_cons (pe_ix ix_list (pv 1) pe_int (fun _ _ => rfl)) (pa_cons (pe_ix ix_list (pv 1) pe_int (fun _ _ => rfl)) pa_nil))))))
        pss_nil)
      (pss_cons (ps_if (pt_cmpR op_eq (pv 0) (pe_gv T.g_STOP rfl) (nomark _))
        (pss_one (ps_ret (pe_kf k_Stop (hr.mono (by decide)) rfl (pa_cons (pv 0) (pa_cons (pe_ix ix_list (pv 1) pe_int (fun _ _ => rfl)) pa_nil)))))
        pss_nil)
      (pss_cons (ps_if (pt_cmpR op_eq (pv 0) (pe_gv T.g_LOOK rfl) (nomark _))
        (pss_one (ps_ret (pe_kf k_Look (hr.mono (by decide)) rfl (pa_cons (pv 0) (pa_cons (pe_ix ix_list (pv 1) pe_int (fun _ _ => rfl)) pa_nil)))))
        pss_nil)
      (pss_cons (ps_if (pt_cmpR op_eq (pv 0) (pe_gv T.g_CLEAR rfl) (nomark _))
        (pss_one (ps_ret (pe_kf k_Clear (hr.mono (by decide)) rfl (pa_cons (pv 0) (pa_cons (pe_ix ix_list (pv 1) pe_int (fun _ _ => rfl)) pa_nil)))))
        pss_nil)
      (pss_cons (ps_if (pt_cmpR op_eq (pv 0) (pe_gv T.g_KEY rfl) (nomark _))
        (pss_one (ps_ret (pe_kf k_Key (hr.mono (by decide)) rfl (pa_cons (pv 0) pa_nil))))
        pss_nil)
      (pss_cons (ps_if (pt_cmpR op_eq (pv 0) (pe_gv T.g_SLEEP rfl) (nomark _))
        (pss_one (ps_ret (pe_kf k_Sleep (hr.mono (by decide)) rfl (pa_cons (pv 0) (pa_cons (pe_ix ix_list (pv 1) pe_int (fun _ _ => rfl)) pa_nil)))))
        pss_nil)
      (pss_one (ps_ret (pe_kf k_Wake (hr.mono (by decide)) rfl (pa_cons (pv 0) pa_nil))))))))))))), ?_⟩
    cases o with
    | offer n kind job =>
      refine ⟨_, rfl, rfl, _, rfl, ifD (fun _ => ?_) (fun q => absurd rfl q)⟩
      refine ⟨_, rfl, _, rfl, nl, _, _, _, rfl, rfl, hnl, at_of (j := 1) rfl rfl, _, rfl, nl, _, _, _, rfl, rfl, hnl, at_of (j := 2) rfl rfl, _, rfl, fun x0 dx nx ndx ne => ⟨x0, dx, _, _, _, _, rfl, upd_same, rfl, ?_⟩⟩
      exact k x0 _ (made_same' nx ndx) nx ⟨dx, jb, upd_same, tup_same (made_same' nx ndx) hjb⟩
    | take =>
      refine ⟨_, rfl, rfl, _, rfl, ifD (fun q => absurd q (by show ¬ V.int 1 = V.int 0; decide)) (fun _ => ?_)⟩
      refine ⟨_, rfl, rfl, _, rfl, ifD (fun _ => ?_) (fun q => absurd rfl q)⟩
      refine ⟨_, rfl, fun x0 dx nx ndx ne => ⟨x0, dx, _, rfl, upd_same, rfl, ?_⟩⟩
      exact k x0 _ (made_same' nx ndx) nx ⟨dx, upd_same⟩
    | again t =>
      refine ⟨_, rfl, rfl, _, rfl, ifD (fun q => absurd q (by show ¬ V.int 2 = V.int 0; decide)) (fun _ => ?_)⟩
      refine ⟨_, rfl, rfl, _, rfl, ifD (fun q => absurd q (by show ¬ V.int 2 = V.int 1; decide)) (fun _ => ?_)⟩
      refine ⟨_, rfl, rfl, _, rfl, ifD (fun _ => ?_) (fun q => absurd rfl q)⟩
      refine ⟨_, rfl, _, rfl, nl, _, _, _, rfl, rfl, hnl, at_of (j := 1) rfl rfl, fun x0 dx nx ndx ne => ⟨x0, dx, _, _, rfl, upd_same, rfl, ?_⟩⟩
      exact k x0 _ (made_same' nx ndx) nx ⟨dx, upd_same⟩
    | done t n =>
      refine ⟨_, rfl, rfl, _, rfl, ifD (fun q => absurd q (by show ¬ V.int 3 = V.int 0; decide)) (fun _ => ?_)⟩
      refine ⟨_, rfl, rfl, _, rfl, ifD (fun q => absurd q (by show ¬ V.int 3 = V.int 1; decide)) (fun _ => ?_)⟩
      refine ⟨_, rfl, rfl, _, rfl, ifD (fun q => absurd q (by show ¬ V.int 3 = V.int 2; decide)) (fun _ => ?_)⟩
      refine ⟨_, rfl, rfl, _, rfl, ifD (fun _ => ?_) (fun q => absurd rfl q)⟩
      refine ⟨_, rfl, _, rfl, nl, _, _, _, rfl, rfl, hnl, at_of (j := 1) rfl rfl, _, rfl, nl, _, _, _, rfl, rfl, hnl, at_of (j := 2) rfl rfl, fun x0 dx nx ndx ne => ⟨x0, dx, _, _, t, rfl, upd_same, rfl, ?_⟩⟩
      exact k x0 _ (made_same' nx ndx) nx ⟨dx, upd_same⟩
    | halt_ t =>
      refine ⟨_, rfl, rfl, _, rfl, ifD (fun q => absurd q (by show ¬ V.int 4 = V.int 0; decide)) (fun _ => ?_)⟩
      refine ⟨_, rfl, rfl, _, rfl, ifD (fun q => absurd q (by show ¬ V.int 4 = V.int 1; decide)) (fun _ => ?_)⟩
      refine ⟨_, rfl, rfl, _, rfl, ifD (fun q => absurd q (by show ¬ V.int 4 = V.int 2; decide)) (fun _ => ?_)⟩
      refine ⟨_, rfl, rfl, _, rfl, ifD (fun q => absurd q (by show ¬ V.int 4 = V.int 3; decide)) (fun _ => ?_)⟩
      refine ⟨_, rfl, rfl, _, rfl, ifD (fun _ => ?_) (fun q => absurd rfl q)⟩
      refine ⟨_, rfl, _, rfl, nl, _, _, _, rfl, rfl, hnl, at_of (j := 1) rfl rfl, fun x0 dx nx ndx ne => ⟨x0, _, dx, _, t, rfl, upd_same, T.cl_stop, T.n_stop_place, T.n_stop_fails, T.n_stop_seen, T.n_stop_ticket, T.n_stop_stamp, T.n_stop_written, rfl, ?_⟩⟩
      exact k x0 _ (made_same' nx ndx) nx ⟨dx, upd_same⟩
    | look t =>
      refine ⟨_, rfl, rfl, _, rfl, ifD (fun q => absurd q (by show ¬ V.int 5 = V.int 0; decide)) (fun _ => ?_)⟩
      refine ⟨_, rfl, rfl, _, rfl, ifD (fun q => absurd q (by show ¬ V.int 5 = V.int 1; decide)) (fun _ => ?_)⟩
      refine ⟨_, rfl, rfl, _, rfl, ifD (fun q => absurd q (by show ¬ V.int 5 = V.int 2; decide)) (fun _ => ?_)⟩
      refine ⟨_, rfl, rfl, _, rfl, ifD (fun q => absurd q (by show ¬ V.int 5 = V.int 3; decide)) (fun _ => ?_)⟩
      refine ⟨_, rfl, rfl, _, rfl, ifD (fun q => absurd q (by show ¬ V.int 5 = V.int 4; decide)) (fun _ => ?_)⟩
      refine ⟨_, rfl, rfl, _, rfl, ifD (fun _ => ?_) (fun q => absurd rfl q)⟩
      refine ⟨_, rfl, _, rfl, nl, _, _, _, rfl, rfl, hnl, at_of (j := 1) rfl rfl, fun x0 dx nx ndx ne => ⟨x0, dx, _, _, rfl, upd_same, rfl, ?_⟩⟩
      exact k x0 _ (made_same' nx ndx) nx ⟨dx, upd_same⟩
    | clear t =>
      refine ⟨_, rfl, rfl, _, rfl, ifD (fun q => absurd q (by show ¬ V.int 6 = V.int 0; decide)) (fun _ => ?_)⟩
      refine ⟨_, rfl, rfl, _, rfl, ifD (fun q => absurd q (by show ¬ V.int 6 = V.int 1; decide)) (fun _ => ?_)⟩
      refine ⟨_, rfl, rfl, _, rfl, ifD (fun q => absurd q (by show ¬ V.int 6 = V.int 2; decide)) (fun _ => ?_)⟩
      refine ⟨_, rfl, rfl, _, rfl, ifD (fun q => absurd q (by show ¬ V.int 6 = V.int 3; decide)) (fun _ => ?_)⟩
      refine ⟨_, rfl, rfl, _, rfl, ifD (fun q => absurd q (by show ¬ V.int 6 = V.int 4; decide)) (fun _ => ?_)⟩
      refine ⟨_, rfl, rfl, _, rfl, ifD (fun q => absurd q (by show ¬ V.int 6 = V.int 5; decide)) (fun _ => ?_)⟩
      refine ⟨_, rfl, rfl, _, rfl, ifD (fun _ => ?_) (fun q => absurd rfl q)⟩
      refine ⟨_, rfl, _, rfl, nl, _, _, _, rfl, rfl, hnl, at_of (j := 1) rfl rfl, fun x0 dx nx ndx ne => ⟨x0, dx, _, t, rfl, upd_same, rfl, ?_⟩⟩
      exact k x0 _ (made_same' nx ndx) nx ⟨dx, upd_same⟩
    | key =>
      refine ⟨_, rfl, rfl, _, rfl, ifD (fun q => absurd q (by show ¬ V.int 7 = V.int 0; decide)) (fun _ => ?_)⟩
      refine ⟨_, rfl, rfl, _, rfl, ifD (fun q => absurd q (by show ¬ V.int 7 = V.int 1; decide)) (fun _ => ?_)⟩
      refine ⟨_, rfl, rfl, _, rfl, ifD (fun q => absurd q (by show ¬ V.int 7 = V.int 2; decide)) (fun _ => ?_)⟩
      refine ⟨_, rfl, rfl, _, rfl, ifD (fun q => absurd q (by show ¬ V.int 7 = V.int 3; decide)) (fun _ => ?_)⟩
      refine ⟨_, rfl, rfl, _, rfl, ifD (fun q => absurd q (by show ¬ V.int 7 = V.int 4; decide)) (fun _ => ?_)⟩
      refine ⟨_, rfl, rfl, _, rfl, ifD (fun q => absurd q (by show ¬ V.int 7 = V.int 5; decide)) (fun _ => ?_)⟩
      refine ⟨_, rfl, rfl, _, rfl, ifD (fun q => absurd q (by show ¬ V.int 7 = V.int 6; decide)) (fun _ => ?_)⟩
      refine ⟨_, rfl, rfl, _, rfl, ifD (fun _ => ?_) (fun q => absurd rfl q)⟩
      refine ⟨_, rfl, fun x0 dx nx ndx ne => ⟨x0, _, dx, _, rfl, upd_same, T.cl_key, T.n_key_place, T.n_key_fails, rfl, ?_⟩⟩
      exact k x0 _ (made_same' nx ndx) nx ⟨dx, upd_same⟩
    | sleep x =>
      refine ⟨_, rfl, rfl, _, rfl, ifD (fun q => absurd q (by show ¬ V.int 8 = V.int 0; decide)) (fun _ => ?_)⟩
      refine ⟨_, rfl, rfl, _, rfl, ifD (fun q => absurd q (by show ¬ V.int 8 = V.int 1; decide)) (fun _ => ?_)⟩
      refine ⟨_, rfl, rfl, _, rfl, ifD (fun q => absurd q (by show ¬ V.int 8 = V.int 2; decide)) (fun _ => ?_)⟩
      refine ⟨_, rfl, rfl, _, rfl, ifD (fun q => absurd q (by show ¬ V.int 8 = V.int 3; decide)) (fun _ => ?_)⟩
      refine ⟨_, rfl, rfl, _, rfl, ifD (fun q => absurd q (by show ¬ V.int 8 = V.int 4; decide)) (fun _ => ?_)⟩
      refine ⟨_, rfl, rfl, _, rfl, ifD (fun q => absurd q (by show ¬ V.int 8 = V.int 5; decide)) (fun _ => ?_)⟩
      refine ⟨_, rfl, rfl, _, rfl, ifD (fun q => absurd q (by show ¬ V.int 8 = V.int 6; decide)) (fun _ => ?_)⟩
      refine ⟨_, rfl, rfl, _, rfl, ifD (fun q => absurd q (by show ¬ V.int 8 = V.int 7; decide)) (fun _ => ?_)⟩
      refine ⟨_, rfl, rfl, _, rfl, ifD (fun _ => ?_) (fun q => absurd rfl q)⟩
      refine ⟨_, rfl, _, rfl, nl, _, _, _, rfl, rfl, hnl, at_of (j := 1) rfl rfl, fun x0 dx nx ndx ne => ⟨x0, dx, _, _, rfl, upd_same, rfl, ?_⟩⟩
      exact k x0 _ (made_same' nx ndx) nx ⟨dx, upd_same⟩
    | wake =>
      refine ⟨_, rfl, rfl, _, rfl, ifD (fun q => absurd q (by show ¬ V.int 9 = V.int 0; decide)) (fun _ => ?_)⟩
      refine ⟨_, rfl, rfl, _, rfl, ifD (fun q => absurd q (by show ¬ V.int 9 = V.int 1; decide)) (fun _ => ?_)⟩
      refine ⟨_, rfl, rfl, _, rfl, ifD (fun q => absurd q (by show ¬ V.int 9 = V.int 2; decide)) (fun _ => ?_)⟩
      refine ⟨_, rfl, rfl, _, rfl, ifD (fun q => absurd q (by show ¬ V.int 9 = V.int 3; decide)) (fun _ => ?_)⟩
      refine ⟨_, rfl, rfl, _, rfl, ifD (fun q => absurd q (by show ¬ V.int 9 = V.int 4; decide)) (fun _ => ?_)⟩
      refine ⟨_, rfl, rfl, _, rfl, ifD (fun q => absurd q (by show ¬ V.int 9 = V.int 5; decide)) (fun _ => ?_)⟩
      refine ⟨_, rfl, rfl, _, rfl, ifD (fun q => absurd q (by show ¬ V.int 9 = V.int 6; decide)) (fun _ => ?_)⟩
      refine ⟨_, rfl, rfl, _, rfl, ifD (fun q => absurd q (by show ¬ V.int 9 = V.int 7; decide)) (fun _ => ?_)⟩
      refine ⟨_, rfl, rfl, _, rfl, ifD (fun q => absurd q (by show ¬ V.int 9 = V.int 8; decide)) (fun _ => ?_)⟩
      refine ⟨_, rfl, fun x0 dx nx ndx ne => ⟨x0, _, dx, _, rfl, upd_same, T.cl_wake, T.n_wake_place, T.n_wake_fails, T.n_wake_seen, rfl, ?_⟩⟩
      exact k x0 _ (made_same' nx ndx) nx ⟨dx, upd_same⟩
end
end Po

namespace Po
open PySem PySem.Spec PyProof.Rows L2
local macro_rules | `(tactic| walk_at "lk") => `(tactic| repeat (first | exact lk_hit | exact lk_nil | refine (lk_miss (by decide +kernel)).trans ?_))
local macro_rules | `(tactic| walk_at "put") => `(tactic| repeat (first | exact put_hit | exact put_nil | (apply put_miss; · decide +kernel)))
def clsOf (Γ : Cs) : LwPool.Op → Addr
  | .offer _ _ _ => Γ.offer
  | .take => Γ.take
  | .again _ => Γ.again
  | .done _ _ => Γ.done
  | .halt_ _ => Γ.stop
  | .look _ => Γ.look
  | .clear _ => Γ.clear
  | .key => Γ.key
  | .sleep _ => Γ.sleep
  | .wake => Γ.wake
def hasGo : LwPool.Op → Bool
  | .again _ => false
  | .sleep _ => false
  | _ => true
abbrev Ix_begin := LwPool.Op
abbrev Ix_go_on := { o : LwPool.Op // hasGo o = true }
def vo : Option Addr → V
  | none => .non
  | some c => .ref c
section
variable {P : Program} {w : World} {K : PySem.W.Frag} {mg : Str → Option Value} {base : Heap} {Γ : Cs} {H H' : Hp} {F F' : Ft} {B : LwPool.Board}
theorem InitAt.shape {p : Addr} {o : LwPool.Op} (h : InitAt K Γ H p o) : ∃ dx r, H p = some (.ins (clsOf Γ o) dx (("place", .int (PoolNeutral.place o)) :: r)) ∧ r.lookup ("begin" : Str) = none := by
  cases o with
  | offer n kind job => obtain ⟨dx, j, h, _⟩ := h; exact ⟨dx, _, h, by walk_at "lk"⟩
  | take => obtain ⟨dx, h⟩ := h; exact ⟨dx, _, h, by walk_at "lk"⟩
  | again t => obtain ⟨dx, h⟩ := h; exact ⟨dx, _, h, by walk_at "lk"⟩
  | done t n => obtain ⟨dx, h⟩ := h; exact ⟨dx, _, h, by walk_at "lk"⟩
  | halt_ t => obtain ⟨dx, h⟩ := h; exact ⟨dx, _, h, by walk_at "lk"⟩
  | look t => obtain ⟨dx, h⟩ := h; exact ⟨dx, _, h, by walk_at "lk"⟩
  | clear t => obtain ⟨dx, h⟩ := h; exact ⟨dx, _, h, by walk_at "lk"⟩
  | key => obtain ⟨dx, h⟩ := h; exact ⟨dx, _, h, by walk_at "lk"⟩
  | sleep x => obtain ⟨dx, h⟩ := h; exact ⟨dx, _, h, by walk_at "lk"⟩
  | wake => obtain ⟨dx, h⟩ := h; exact ⟨dx, _, h, by walk_at "lk"⟩
theorem GapAt.shape {p : Addr} {o : LwPool.Op} {a : LwPool.At} (h : GapAt K Γ H F p o a) : hasGo o = true ∧ ∃ dx r, H p = some (.ins (clsOf Γ o) dx (("place", .int (PoolNeutral.place o)) :: r)) ∧ r.lookup ("go_on" : Str) = none := by
  cases o with
  | offer n kind job =>
    cases a with
    | offered i k v => obtain ⟨dx, j, t, fl, h, _⟩ := h; exact ⟨rfl, dx, _, h, by walk_at "lk"⟩
    | laying i v => obtain ⟨dx, j, t, fl, h, _⟩ := h; exact ⟨rfl, dx, _, h, by walk_at "lk"⟩
    | opening i v => obtain ⟨dx, j, t, fl, h, _⟩ := h; exact ⟨rfl, dx, _, h, by walk_at "lk"⟩
    | _ => exact h.elim
  | take =>
    cases a with
    | taking i k v wn kind job => obtain ⟨dx, t, l, fl, h, _⟩ := h; exact ⟨rfl, dx, _, h, by walk_at "lk"⟩
    | _ => exact h.elim
  | again t => cases a <;> exact h.elim
  | done t n =>
    cases a with
    | marking k x => obtain ⟨dx, s, fl, h, _⟩ := h; exact ⟨rfl, dx, _, h, by walk_at "lk"⟩
    | finishing l => obtain ⟨dx, s, fl, h⟩ := h; exact ⟨rfl, dx, _, h, by walk_at "lk"⟩
    | _ => exact h.elim
  | halt_ t =>
    cases a with
    | stopping k x => obtain ⟨dx, s, fl, h, _⟩ := h; exact ⟨rfl, dx, _, h, by walk_at "lk"⟩
    | finishing l => obtain ⟨dx, s, fl, wn, h, _⟩ := h; exact ⟨rfl, dx, _, h, by walk_at "lk"⟩
    | _ => exact h.elim
  | look t =>
    cases a with
    | looking => obtain ⟨dx, h⟩ := h; exact ⟨rfl, dx, _, h, by walk_at "lk"⟩
    | _ => exact h.elim
  | clear t =>
    cases a with
    | clearing k v => obtain ⟨dx, s, fl, h, _⟩ := h; exact ⟨rfl, dx, _, h, by walk_at "lk"⟩
    | _ => exact h.elim
  | key =>
    cases a with
    | keying => obtain ⟨dx, h⟩ := h; exact ⟨rfl, dx, _, h, by walk_at "lk"⟩
    | _ => exact h.elim
  | sleep x => cases a <;> exact h.elim
  | wake =>
    cases a with
    | waking k x => obtain ⟨dx, fl, h, _⟩ := h; exact ⟨rfl, dx, _, h, by walk_at "lk"⟩
    | _ => exact h.elim
theorem GapAt.chg {X : Addr → Prop} {p : Addr} {o : LwPool.Op} {a : LwPool.At} (h : GapAt K Γ H F p o a) (c : Chg K X H H') (np : ¬ X p) (hl : ∀ l xs, H l = some (.lst (V.int 0 :: xs)) → ¬ F.In l → ¬ X l ∧ ¬ F'.In l) : GapAt K Γ H' F' p o a := by
  cases o with
  | offer n kind job =>
    cases a with
    | offered i k v => obtain ⟨dx, j, t, fl, h, h1, h2, h3⟩ := h; exact ⟨dx, j, t, fl, c.keep _ _ h np, h1.chg c, h2.chg c, h3⟩
    | laying i v => obtain ⟨dx, j, t, fl, h, h1, h2⟩ := h; exact ⟨dx, j, t, fl, c.keep _ _ h np, h1.chg c, h2.chg c⟩
    | opening i v => obtain ⟨dx, j, t, fl, h, h1⟩ := h; exact ⟨dx, j, t, fl, c.keep _ _ h np, h1.chg c⟩
    | _ => exact h.elim
  | take =>
    cases a with
    | taking i k v wn kind job =>
      obtain ⟨dx, t, l, fl, h, h1, h2, h3, h4, h5⟩ := h
      obtain ⟨q1, q2⟩ := hl l _ h2 h3
      exact ⟨dx, t, l, fl, c.keep _ _ h np, h1.chg c, c.keep _ _ h2 q1, q2, h4, h5⟩
    | _ => exact h.elim
  | again t => cases a <;> exact h.elim
  | done t n =>
    cases a with
    | marking k x => obtain ⟨dx, s, fl, h, h1, h2⟩ := h; exact ⟨dx, s, fl, c.keep _ _ h np, h1.chg c, h2⟩
    | finishing l => obtain ⟨dx, s, fl, h⟩ := h; exact ⟨dx, s, fl, c.keep _ _ h np⟩
    | _ => exact h.elim
  | halt_ t =>
    cases a with
    | stopping k x => obtain ⟨dx, s, fl, h, h1, h2⟩ := h; exact ⟨dx, s, fl, c.keep _ _ h np, h1.chg c, h2⟩
    | finishing l => obtain ⟨dx, s, fl, wn, h, h1, h2⟩ := h; exact ⟨dx, s, fl, wn, c.keep _ _ h np, h1.chg c, h2⟩
    | _ => exact h.elim
  | look t =>
    cases a with
    | looking => obtain ⟨dx, h⟩ := h; exact ⟨dx, c.keep _ _ h np⟩
    | _ => exact h.elim
  | clear t =>
    cases a with
    | clearing k v => obtain ⟨dx, s, fl, h, h1, h2⟩ := h; exact ⟨dx, s, fl, c.keep _ _ h np, h1.chg c, h2⟩
    | _ => exact h.elim
  | key =>
    cases a with
    | keying => obtain ⟨dx, h⟩ := h; exact ⟨dx, c.keep _ _ h np⟩
    | _ => exact h.elim
  | sleep x => cases a <;> exact h.elim
  | wake =>
    cases a with
    | waking k x => obtain ⟨dx, fl, h, h1⟩ := h; exact ⟨dx, fl, c.keep _ _ h np, h1⟩
    | _ => exact h.elim
/-- the whole: the line, its board, who runs -/
structure SysAt (K : PySem.W.Frag) (Γ : Cs) (H : Hp) (ln lr : Addr) (F : Ft) (cs : List (Option Addr)) (S : PoolCalls.State) : Prop where
  hln : ∃ dx, H ln = some (.ins Γ.line dx (lineF F.b lr))
  bd : BdAt K Γ H F S.board
  hlr : H lr = some (.lst (cs.map vo))
  len : cs.length = 4
  pt : ∀ (p : Nat) (c : Option Addr), cs[p]? = some c → (c = none ∧ S.party p = none) ∨ ∃ a o at_, c = some a ∧ S.party p = some (o, at_) ∧ GapAt K Γ H F a o at_
  dj : ∀ (p q : Nat) (a : Addr), cs[p]? = some (some a) → cs[q]? = some (some a) → p = q
  lrF : ¬ F.In lr
theorem vo_int {cs : List (Option Addr)} {i : Int} {xs : List V} : cs.map vo ≠ V.int i :: xs := by
  intro h
  cases cs with
  | nil => cases h
  | cons c cs =>
    rw [List.map_cons] at h
    injection h with h _
    cases c <;> cases h
/-- a party's step taken, and what becomes of it -/
theorem SysAt.took {ln lr c C dc : Addr} {cs : List (Option Addr)} {S : PoolCalls.State} {H1 H2 : Hp} {pn : Nat} {pl : V} {r : List (Str × V)} {nv : Option Addr} {np : Option (LwPool.Op × LwPool.At)} (h : SysAt K Γ H ln lr F cs S) (hS : SysOk S) (hpn : pn < 4) (s1 : Same H H1)
    (hc : H1 c = some (.ins C dc (("place", pl) :: r))) (hoth : ∀ (q : Nat) (a : Addr), q ≠ pn → cs[q]? = some (some a) → a ≠ c) (ch : Chg K (Own F c) H1 H2) (hB : BdAt K Γ H2 F' B) (hN : New H1 F F') (hv : (nv = none ∧ np = none) ∨ ∃ o a, nv = some c ∧ np = some (o, a) ∧ GapAt K Γ H2 F' c o a) :
    H2 lr = some (.lst (cs.map vo)) ∧ H2 ln = H ln ∧ SysAt K Γ (upd H2 lr (.lst ((cs.set pn nv).map vo))) ln lr F' (cs.set pn nv) ⟨B, S.parties.set pn np⟩ := by
  obtain ⟨dx, hln⟩ := h.hln
  have hB1 := h.bd.same s1
  have hln1 := s1 _ _ hln
  have hlr1 := s1 _ _ h.hlr
  have nlnF : ¬ F.In ln := hB1.notIns hln1 (by decide +kernel) (by decide +kernel)
  have nlnc : ln ≠ c := ne_of hln1 hc (fun z => by injection z with _ _ z; injection z with z _; injection z with z _; exact absurd z (by decide +kernel))
  have nlrc : lr ≠ c := ne_of hlr1 hc (fun z => nomatch z)
  have hlr2 : H2 lr = some (.lst (cs.map vo)) := ch.keep _ _ hlr1 fun z => z.elim h.lrF nlrc
  have hln2 : H2 ln = some (.ins Γ.line dx (lineF F.b lr)) := ch.keep _ _ hln1 fun z => z.elim nlnF nlnc
  have nlnlr : ln ≠ lr := ne_of hln1 hlr1 (fun z => nomatch z)
  have lrF' : ¬ F'.In lr := fun z => (hN.2 lr z).elim h.lrF fun q => by rw [hlr1] at q; cases q
  have c3 : Chg K (fun b => b = lr) H2 (upd H2 lr (.lst ((cs.set pn nv).map vo))) := chg_lst hlr2 rfl
  have newL : ∀ l xs, H l = some (.lst (V.int 0 :: xs)) → ¬ F.In l → ¬ Own F c l ∧ ¬ F'.In l ∧ l ≠ lr := fun l xs e nF => by
    have e1 := s1 _ _ e
    refine ⟨fun z => z.elim nF fun q => ?_, fun z => (hN.2 l z).elim nF fun q => (by rw [e1] at q; cases q), fun q => ?_⟩
    · rw [q] at e1; rw [e1] at hc; cases hc
    · rw [q, h.hlr] at e
      injection e with e
      injection e with e
      exact vo_int e
  refine ⟨hlr2, by rw [hln2, hln], ⟨dx, ?_⟩, hB.chg c3 fun a ha e => lrF' (e ▸ ha), upd_same, by rw [List.length_set]; exact h.len, fun q x hx => ?_, fun q q' a hq hq' => ?_, lrF'⟩
  · rw [upd_ne nlnlr, hN.1]
    exact hln2
  · have hpl : pn < S.parties.length := by rw [hS.pl]; exact hpn
    rw [party_set hpl]
    by_cases e : q = pn
    · subst e
      rw [List.getElem?_set_self (by rw [h.len]; exact hpn)] at hx
      have hx := Option.some.inj hx
      subst hx
      rw [if_pos rfl]
      rcases hv with ⟨h1, h2⟩ | ⟨o, a, h1, h2, h3⟩
      · exact .inl ⟨h1, h2⟩
      · refine .inr ⟨c, o, a, h1, h2, h3.chg (F' := F') c3 (fun z => nlrc z.symm) fun l xs e nF => ⟨fun z => ?_, nF⟩⟩
        rw [z, hlr2] at e
        injection e with e
        injection e with e
        exact vo_int e
    · rw [List.getElem?_set_ne (fun z => e z.symm)] at hx
      rw [if_neg e]
      rcases h.pt q x hx with ⟨h1, h2⟩ | ⟨a, o, at_, h1, h2, h3⟩
      · exact .inl ⟨h1, h2⟩
      · refine .inr ⟨a, o, at_, h1, h2, ?_⟩
        subst h1
        obtain ⟨_, da, ra, ha, _⟩ := h3.shape
        have naF : ¬ F.In a := own_ins h.bd ha
        have nac : a ≠ c := hoth q a e hx
        have nalr : a ≠ lr := ne_of ha h.hlr (fun z => nomatch z)
        have g1 : GapAt K Γ H1 F a o at_ := h3.chg (X := fun _ => False) (F' := F) s1.chg (fun z => z) fun l xs _ nF => ⟨fun z => z, nF⟩
        have g2 : GapAt K Γ H2 F' a o at_ := g1.chg ch (fun z => z.elim naF nac) fun l xs e1 nF => by
          refine ⟨fun z => z.elim nF fun q => ?_, fun z => (hN.2 l z).elim nF fun q => (by rw [e1] at q; cases q)⟩
          rw [q] at e1; rw [e1] at hc; cases hc
        refine g2.chg c3 nalr fun l xs e1 nF => ⟨fun z => ?_, nF⟩
        rw [z, hlr2] at e1
        injection e1 with e1
        injection e1 with e1
        exact vo_int e1
  · have key : ∀ z, z ≠ pn → (cs.set pn nv)[z]? = some (some a) → cs[z]? = some (some a) := fun z hz e => by rw [List.getElem?_set_ne (fun y => hz y.symm)] at e; exact e
    have own : ∀ z, z = pn → (cs.set pn nv)[z]? = some (some a) → a = c := fun z hz e => by
      subst hz
      rw [List.getElem?_set_self (by rw [h.len]; exact hpn)] at e
      have e := Option.some.inj e
      rcases hv with ⟨h1, _⟩ | ⟨o, at_, h1, _⟩
      · rw [h1] at e; cases e
      · rw [h1] at e; exact (Option.some.inj e).symm
    by_cases e1 : q = pn
    · by_cases e2 : q' = pn
      · rw [e1, e2]
      · exact absurd (own q e1 hq) (hoth q' a e2 (key q' e2 hq'))
    · by_cases e2 : q' = pn
      · exact absurd (own q' e2 hq') (hoth q a e1 (key q e1 hq))
      · exact h.dj q q' a (key q e1 hq) (key q' e2 hq')
/-! ### behind a step -/
def spAfter (K : PySem.W.Frag) (Γ : Cs) : Sp := fun vs H Q _ => ∃ (ln lr b dx c : Addr) (pn : Nat) (rs : List V) (tv : V), vs = [.ref ln, vi pn, .ref c, tv] ∧ H ln = some (.ins Γ.line dx (lineF b lr)) ∧ H lr = some (.lst rs) ∧ pn < rs.length ∧
  ((tv = .non ∧ ∀ l, (upd H lr (.lst (rs.set pn (.ref c)))) l = none → Q (.ref l) (upd (upd H lr (.lst (rs.set pn (.ref c)))) l (.lst [.int 0]))) ∨
  (∃ (tl C dc : Addr) (xs : List V) (pl : V) (r : List (Str × V)), tv = .ref tl ∧ H tl = some (.lst xs) ∧ tl ≠ lr ∧ xs.length ≤ 100 ∧ H c = some (.ins C dc (("place", pl) :: r)) ∧ Cls K C ∧ NoAttr K C "place" ∧
    ∀ l H', Same (upd H lr (.lst (rs.set pn .non))) H' → (upd H lr (.lst (rs.set pn .non))) l = none → H' l = some (.lst ([.int 1, pl] ++ xs)) → Q (.ref l) H'))
abbrev s_after_step : Stmt := top 83
theorem sc_after_step : FnScope ["line", "party", "call", "told"] ["line", "party", "call", "told"] (defScope s_after_step) := ⟨rfl, rfl, rfl, by decide +kernel, rfl, by decide +kernel, by decide +kernel⟩
theorem ok_after_step {f : Addr} {fd : FuncData} (F : Fun K "after_step" "after_step" s_after_step f fd) (T : Tx K mg Γ) : FnOk P w K mg base CX0 1 f fd ["line", "party", "call", "told"] (spAfter K Γ) := by
  have sc := sc_after_step
  refine F.ok sc (fun vs H Q E h => ?_) (fun cdv A outer s H vs Q E hr h => ?_)
  · obtain ⟨_, _, _, _, _, _, _, _, rfl, _⟩ := h
    rfl
  · obtain ⟨ln, lr, b, dx, c, pn, rs, tv, rfl, hln, hlr, hpn, h⟩ := h
    refine ⟨_, (pss_cons (ps_if (pt_cmpR op_isN (pv 3) pe_non (nomark _))
        (pss_cons (ps_asg (pv 2) (pg_sub (pe_fld (pv 0) rfl) (pv 1) set_list))
      (pss_one (ps_ret (pe_lst (pa_cons (pe_gv T.g_AT_GAP rfl) pa_nil)))))
        pss_nil)
      (pss_cons (ps_asg pe_non (pg_sub (pe_fld (pv 0) rfl) (pv 1) set_list))
      (pss_one (ps_ret (pe_op op_cat (pe_lst (pa_cons (pe_gv T.g_AT_END rfl) (pa_cons (pe_fld (pv 2) rfl) pa_nil))) (pv 3)))))), ?_⟩
    rcases h with ⟨rfl, k⟩ | ⟨tl, C, dc, xs, pl, r, rfl, htl, ntl, hxs, hc, cC, nP, k⟩
    · refine ⟨_, rfl, rfl, _, rfl, ifD (fun _ => ?_) (fun q => absurd rfl q)⟩
      exact ⟨_, rfl, _, rfl, ln, Γ.line, dx, _, _, rfl, hln, T.cl_line, T.n_line_running, (by walk_at "lk"), _, rfl, lr, _, _, pn, rfl, rfl, hlr, ixN_nat hpn, (by show 1 ≤ sizeLine; decide), k⟩
    · refine ⟨_, rfl, rfl, _, rfl, ifD (fun q => nomatch q) (fun _ => ?_)⟩
      have ncl : c ≠ lr := ne_of hc hlr (fun z => nomatch z)
      have hc1 : (upd H lr (.lst (rs.set pn .non))) c = some (.ins C dc (("place", pl) :: r)) := by rw [upd_ne ncl]; exact hc
      have ht1 : (upd H lr (.lst (rs.set pn .non))) tl = some (.lst xs) := by rw [upd_ne ntl]; exact htl
      refine ⟨_, rfl, ln, Γ.line, dx, _, _, rfl, hln, T.cl_line, T.n_line_running, (by walk_at "lk"), _, rfl, lr, _, _, pn, rfl, rfl, hlr, ixN_nat hpn, _, rfl, c, C, dc, _, _, rfl, hc1, cC, nP, lk_hit, (by show 2 ≤ sizeLine; decide), fun l1 hl1 => ?_⟩
      refine ⟨_, rfl, l1, tl, _, _, rfl, rfl, upd_same, keep_new ht1 hl1, ?_, fun l hl => ?_⟩
      · have : 1000 ≤ sizeLine := by decide
        show 2 + xs.length ≤ sizeLine
        omega
      · exact k l _ ((Same.new hl1).trans (Same.new hl)) ((Same.new hl1).free hl) upd_same
end
end Po

namespace Po
open PySem PySem.Spec PyProof.Rows L2
local macro_rules | `(tactic| walk_at "lk") => `(tactic| repeat (first | exact lk_hit | exact lk_nil | refine (lk_miss (by decide +kernel)).trans ?_))
local macro_rules | `(tactic| walk_at "put") => `(tactic| repeat (first | exact put_hit | exact put_nil | (apply put_miss; · decide +kernel)))
theorem place_ne (o : LwPool.Op) : ¬ V.int (PoolNeutral.place o) = V.int 12 := by
  cases o <;> (intro h; injection h with h; simp [PoolNeutral.place] at h)
theorem place_lt (o : LwPool.Op) : PoolNeutral.place o < 10 := by cases o <;> simp [PoolNeutral.place]
section
variable {P : Program} {w : World} {K : PySem.W.Frag} {mg : Str → Option Value} {base : Heap} {Γ : Cs} {H H' : Hp} {F F' : Ft} {B : LwPool.Board}
theorem SysAt.same {ln lr : Addr} {cs : List (Option Addr)} {S : PoolCalls.State} (h : SysAt K Γ H ln lr F cs S) (s : Same H H') : SysAt K Γ H' ln lr F cs S := by
  obtain ⟨dx, hln⟩ := h.hln
  refine ⟨⟨dx, s _ _ hln⟩, h.bd.same s, s _ _ h.hlr, h.len, fun p c e => ?_, h.dj, h.lrF⟩
  rcases h.pt p c e with z | ⟨a, o, at_, h1, h2, h3⟩
  · exact .inl z
  · exact .inr ⟨a, o, at_, h1, h2, h3.chg (X := fun _ => False) s.chg (fun z => z) fun l xs _ nF => ⟨fun z => z, nF⟩⟩
/-- what a call leaves as it was -/
structure Lv (H H' : Hp) (F F' : Ft) (lr : Addr) : Prop where
  keep : ∀ b o, H b = some o → (∀ C dx fs, o ≠ .ins C dx fs) → ¬ F.In b → b ≠ lr → H' b = some o
  new : ∀ a, F'.In a → F.In a ∨ H a = none
  live : ∀ b, H b ≠ none → H' b ≠ none
theorem live_same (s : Same H H') : ∀ b, H b ≠ none → H' b ≠ none := fun b h z => h (s.free z)
theorem _root_.L2.Same.lv {lr : Addr} (s : Same H H') : Lv H H' F F lr := ⟨fun b o e _ _ _ => s b o e, fun _ h => .inl h, live_same s⟩
def spCall (K : PySem.W.Frag) (Γ : Cs) : Sp := fun vs H Q _ => ∃ (ln lr nl jb : Addr) (F : Ft) (cs : List (Option Addr)) (S : PoolCalls.State) (x : PoolCalls.Call), vs = [.ref ln, .int (encP x), .ref nl, .ref jb] ∧ SysAt K Γ H ln lr F cs S ∧ SysOk S ∧ CallOk x ∧ SqL K H nl ((encN x).map V.int) ∧ JbT K H jb (encJ x) ∧
  ∀ l H' F' cs', Lv H H' F F' lr → H' l = some (.lst ((PoolNeutral.answerInts (PoolCalls.step S x).2).map V.int)) → SysAt K Γ H' ln lr F' cs' (PoolCalls.step S x).1 → ¬ F'.In l → l ≠ lr → H l = none → Q (.ref l) H'
/-- the end of a step: the parties' list is written -/
theorem lv_step {lr c C dc : Addr} {H1 H2 H3 : Hp} {pl : V} {r : List (Str × V)} {u : HO} (s1 : Same H H1) (hc : H1 c = some (.ins C dc (("place", pl) :: r))) (ch : Chg K (Own F c) H1 H2) (hN : New H1 F F') (s3 : Same (upd H2 lr u) H3) : Lv H H3 F F' lr := by
  refine ⟨fun b o e hi nF nlr => s3 _ _ ?_, fun a ha => (hN.2 a ha).elim .inl fun z => .inr (s1.free z), fun b h => live_same s3 b fun z => ?_⟩
  rotate_left
  · unfold upd at z
    split at z
    · cases z
    · exact ch.live b (live_same s1 b h) z
  rw [upd_ne nlr]
  refine ch.keep _ _ (s1 _ _ e) fun z => z.elim nF fun q => ?_
  subst q
  rw [s1 _ _ e] at hc
  exact hi _ _ _ (Option.some.inj hc)
theorem vo_non (c : Option Addr) : decide (vo c = .non) = c.isNone := by
  cases c with
  | none => rfl
  | some a => exact decide_eq_false fun z => nomatch z
theorem vo_get {cs : List (Option Addr)} {p : Nat} {c : Option Addr} (h : cs[p]? = some c) : (cs.map vo)[p]? = some (vo c) := by
  rw [List.getElem?_map, h]
  rfl
theorem set_vo {cs : List (Option Addr)} {p : Nat} {c : Option Addr} : (cs.map vo).set p (vo c) = (cs.set p c).map vo := (List.map_set ..).symm
/-- after_step's promise, from a step's outcome -/
theorem after_ok {ln lr c C dc dx : Addr} {cs : List (Option Addr)} {S : PoolCalls.State} {H1 H2 : Hp} {pn : Nat} {pl v : V} {r : List (Str × V)} {o : LwPool.Op} {x : LwPool.Turn} {Q : VK} (h : SysAt K Γ H ln lr F cs S) (hS : SysOk S) (hpn : pn < 4) (hln : H ln = some (.ins Γ.line dx (lineF F.b lr))) (s1 : Same H H1)
    (hc : H1 c = some (.ins C dc (("place", pl) :: r))) (hoth : ∀ (q : Nat) (a : Addr), q ≠ pn → cs[q]? = some (some a) → a ≠ c) (ch : Chg K (Own F c) H1 H2) (hR : Res K Γ H1 F c o v H2 x) (hO : OutOk x)
    (k : ∀ l H' F' cs', Lv H H' F F' lr → H' l = some (.lst ((PoolNeutral.answerInts (PoolCalls.took S pn o x).2).map V.int)) → SysAt K Γ H' ln lr F' cs' (PoolCalls.took S pn o x).1 → ¬ F'.In l → l ≠ lr → H l = none → Q (.ref l) H') :
    spAfter K Γ [.ref ln, vi pn, .ref c, v] H2 Q E0 := by
  have hlen : pn < (cs.map vo).length := by rw [List.length_map, h.len]; exact hpn
  cases x with
  | gap B' a =>
    obtain ⟨rfl, F', hB', hN, hG⟩ := hR
    obtain ⟨hlr2, hln2, hsys⟩ := h.took hS hpn s1 hc hoth ch hB' hN (nv := some c) (np := some (o, a)) (.inr ⟨o, a, rfl, rfl, hG⟩)
    refine ⟨ln, lr, F.b, dx, c, pn, cs.map vo, .non, rfl, by rw [hln2]; exact hln, hlr2, hlen, .inl ⟨rfl, fun l hl => ?_⟩⟩
    rw [show (V.ref c) = vo (some c) from rfl, set_vo] at hl ⊢
    exact k l _ F' _ (lv_step s1 hc ch hN (Same.new hl)) upd_same (hsys.same (Same.new hl)) (hsys.bd.notNone hl) (ne_of_none hsys.hlr hl).symm (s1.free (ch.free ((chg_lst (K := K) (X := fun b => b = lr) hlr2 rfl).free hl)))
  | ends B' rr =>
    obtain ⟨tl, F', rfl, htl, hB', hN, C', dc', r', hc', cC, nP⟩ := hR
    obtain ⟨hlr2, hln2, hsys⟩ := h.took hS hpn s1 hc hoth ch hB' hN (nv := none) (np := none) (.inl ⟨rfl, rfl⟩)
    have ntl : tl ≠ lr := fun e => by
      rw [e, hlr2] at htl
      injection htl with htl
      injection htl with htl
      exact vo_int htl
    refine ⟨ln, lr, F.b, dx, c, pn, cs.map vo, .ref tl, rfl, by rw [hln2]; exact hln, hlr2, hlen, .inr ⟨tl, C', dc', _, _, r', rfl, htl, ntl, ?_, hc', cC, nP, fun l H' s' hl hl' => ?_⟩⟩
    · have hO : rr.nums.length + rr.job.length ≤ 7 := hO
      rw [List.length_map]
      simp [PoolNeutral.outInts, PoolNeutral.ints]
      omega
    · rw [show (V.non) = vo none from rfl, set_vo] at s' hl
      refine k l _ F' _ (lv_step s1 hc ch hN s') ?_ (hsys.same s') (hsys.bd.notNone hl) (ne_of_none hsys.hlr hl).symm (s1.free (ch.free ((chg_lst (K := K) (X := fun b => b = lr) hlr2 rfl).free hl)))
      rw [hl']
      simp [PoolCalls.took, PoolNeutral.answerInts, PoolNeutral.ints]
abbrev s_answer_call : Stmt := top 82
theorem sc_answer_call : FnScope ["line", "place", "numbers", "job", "party", "is_begun", "begins", "call"] ["line", "place", "numbers", "job"] (defScope s_answer_call) := ⟨rfl, rfl, rfl, by decide +kernel, rfl, by decide +kernel, by decide +kernel⟩
theorem ok_answer_call {f : Addr} {fd : FuncData} (F : Fun K "answer_call" "answer_call" s_answer_call f fd) (T : Tx K mg Γ) (g_tell_board : GF P w K mg base "tell_board" 1 ["board"] (spTell K Γ)) (g_new_call : GF P w K mg base "new_call" 6 ["place", "numbers", "job"] (spNew K Γ))
    (g_after_step : GF P w K mg base "after_step" 1 ["line", "party", "call", "told"] (spAfter K Γ)) (m_begin : ∀ i : Ix_begin, MF P w K mg base (clsOf Γ i) "begin" 8 ["self", "board"] (spBegin K Γ fun o => o = i)) (m_go_on : ∀ i : Ix_go_on, MF P w K mg base (clsOf Γ i.1) "go_on" 8 ["self", "board"] (spGo K Γ fun o => o = i.1)) :
    FnOk P w K mg base CX0 9 f fd ["line", "place", "numbers", "job"] (spCall K Γ) := by
  have sc := sc_answer_call
  refine F.ok sc (fun vs H Q E h => ?_) (fun cdv A outer s H vs Q E hr h => ?_)
  · obtain ⟨_, _, _, _, _, _, _, _, rfl, _⟩ := h
    rfl
  · obtain ⟨ln, lr, nl, jb, F, cs, S, x, rfl, hY, hS, hX, hnl, hjb, k⟩ := h
    obtain ⟨dx, hln⟩ := hY.hln
    refine ⟨_, (pss_cons (ps_if (pt_cmpR op_eq (pv 1) (pe_gv T.g_BOARD rfl) (nomark _))
        (pss_one (ps_ret (pe_op op_cat (pe_lst (pa_cons (pe_gv T.g_IS_BOARD rfl) pa_nil)) (pe_gf g_tell_board (hr.mono (by decide)) rfl (pa_cons (pe_fld (pv 0) rfl) pa_nil)))))
        pss_nil)
      (pss_cons (ps_set (i := 4) sc.nd rfl (Or.inl rfl) (pe_ix ix_list (pv 2) pe_int (fun _ _ => rfl)))
      (pss_cons (ps_if (pt_cmpR op_ge (pv 4) (pe_gv T.g_PARTIES rfl) (nomark _))
        (pss_one (ps_ret (pe_lst (pa_cons (pe_gv T.g_NO_PARTY rfl) pa_nil))))
        pss_nil)
      (pss_cons (ps_set (i := 5) sc.nd rfl (Or.inl rfl) (pe_cmpR op_notN (pe_ix ix_list (pe_fld (pv 0) rfl) (pv 4) (fun _ _ => rfl)) pe_non (nomark _)))
      (pss_cons (ps_set (i := 6) sc.nd rfl (Or.inl rfl) (pe_cmpR op_lt (pv 1) (pe_gv T.g_GO rfl) (nomark _)))
      (pss_cons (ps_if (pt_cmpR op_eq (pv 5) (pv 6) (nomark _))
        (pss_one (ps_ret (pe_lst (pa_cons (pe_gv T.g_OUT_OF_TURN rfl) pa_nil))))
        pss_nil)
      (pss_cons (ps_if (pt_val (pv 6))
        (pss_cons (ps_set (i := 7) sc.nd rfl (Or.inl rfl) (pe_gf g_new_call (hr.mono (by decide)) rfl (pa_cons (pv 1) (pa_cons (pv 2) (pa_cons (pv 3) pa_nil)))))
      (pss_one (ps_ret (pe_gf g_after_step (hr.mono (by decide)) rfl (pa_cons (pv 0) (pa_cons (pv 4) (pa_cons (pv 7) (pa_cons (pe_any fun i : Ix_begin => pe_mf (m_begin i) (hr.mono (by decide)) (pv 7) (pa_cons (pe_fld (pv 0) rfl) pa_nil)) pa_nil))))))))
        pss_nil)
      (pss_cons (ps_if (pt_cmpR op_eq (pv 1) (pe_gv T.g_GONE rfl) (nomark _))
        (pss_cons (ps_asg pe_non (pg_sub (pe_fld (pv 0) rfl) (pv 4) set_list))
      (pss_one (ps_ret (pe_lst (pa_cons (pe_gv T.g_IS_GONE rfl) pa_nil)))))
        pss_nil)
      (pss_cons (ps_set (i := 7) sc.nd rfl (Or.inl rfl) (pe_ix ix_list (pe_fld (pv 0) rfl) (pv 4) (fun _ _ => rfl)))
      (pss_one (ps_ret (pe_gf g_after_step (hr.mono (by decide)) rfl (pa_cons (pv 0) (pa_cons (pv 4) (pa_cons (pv 7) (pa_cons (pe_any fun i : Ix_go_on => pe_mf (m_go_on i) (hr.mono (by decide)) (pv 7) (pa_cons (pe_fld (pv 0) rfl) pa_nil)) pa_nil)))))))))))))))), ?_⟩
    -- a short answer, nothing written
    have short : ∀ (z : Int) (l : Addr), H l = none → PoolCalls.step S x = (S, PoolCalls.says z) → Q (.ref l) (upd H l (.lst [.int z])) := fun z l hl e => by
      rw [e] at k
      exact k l _ F cs (Same.new hl).lv upd_same (hY.same (Same.new hl)) (hY.bd.notNone hl) (ne_of_none hY.hlr hl).symm hl
    cases x with
    | begin_ p o =>
      have eS : PoolCalls.step S (.begin_ p o) = if 4 ≤ p then (S, PoolCalls.BAD) else match S.party p with | some _ => (S, PoolCalls.NOT) | none => PoolCalls.took S p o (LwPool.begins o S.board) := rfl
      refine ⟨_, rfl, rfl, _, rfl, ifD (fun q => absurd q (place_ne o)) (fun _ => ?_)⟩
      refine ⟨_, rfl, nl, _, _, _, rfl, rfl, hnl, at_of (j := 0) rfl rfl, _, rfl, _, _, rfl, rfl, _, rfl, ifD (fun q => ?_) (fun q => ?_)⟩
      · exact ⟨(by show 1 ≤ sizeLine; decide), fun l hl => short (-1) l hl (by rw [eS, if_pos (by omega)]; rfl)⟩
      have hp : p < 4 := by omega
      obtain ⟨c, hc⟩ : ∃ c, cs[p]? = some c := ⟨_, List.getElem?_eq_getElem (by rw [hY.len]; exact hp)⟩
      refine ⟨_, rfl, ln, Γ.line, dx, _, _, rfl, hln, T.cl_line, T.n_line_running, (by walk_at "lk"), _, rfl, lr, _, _, _, rfl, rfl, SqL.of hY.hlr, at_of (j := p) rfl (vo_get hc), rfl, _, rfl, _, _, rfl, rfl, _, rfl, _, rfl, rfl, _, rfl, ?_⟩
      rw [if_neg (by omega)] at eS
      have hb10 : decide (PoolNeutral.place o < 10) = true := decide_eq_true (place_lt o)
      rcases hY.pt p c hc with ⟨rfl, hpt⟩ | ⟨a, o', at_, rfl, hpt, hG⟩
      · refine ifD (fun q => ?_) (fun _ => ?_)
        · injection q with q
          rw [show (decide (encP (.begin_ p o) < 10)) = true from hb10] at q
          exact nomatch q
        · refine ⟨_, rfl, _, rfl, ifD (fun _ => ?_) (fun q => absurd (place_lt o) q)⟩
          refine ⟨_, rfl, _, rfl, _, rfl, o, p, nl, jb, rfl, hnl, hjb, fun c H1 s1 hcn hI => ?_⟩
          obtain ⟨dc, r, hc1, hbg⟩ := hI.shape
          refine ⟨_, rfl, _, rfl, _, rfl, o, _, rfl, c, dc, _, rfl, hc1, (lk_miss (by decide +kernel)).trans hbg, _, rfl, ln, Γ.line, dx, _, _, rfl, s1 _ _ hln, T.cl_line, T.n_line_board, (by walk_at "lk"), c, F, S.board, o, rfl, rfl, hY.bd.same s1, hS.b, hI, fun v H2 ch res => ?_⟩
          rw [hpt] at eS
          rw [eS] at k
          refine after_ok hY hS hp hln s1 hc1 (fun q a hq e z => ?_) ch res (begins_out _ _) k
          subst z
          rcases hY.pt q _ e with ⟨h1, _⟩ | ⟨a', o', at', h1, h2, h3⟩
          · cases h1
          · cases h1
            obtain ⟨_, da, ra, ha, _⟩ := h3.shape
            rw [ha] at hcn
            cases hcn
      · refine ifD (fun q => ?_) (fun q => ?_)
        · exact ⟨(by show 1 ≤ sizeLine; decide), fun l hl => short (-9) l hl (by rw [eS, hpt]; rfl)⟩
        · refine absurd ?_ q
          show V.bl (!decide (vo (some a) = V.non)) = V.bl (decide (PoolNeutral.place o < 10))
          rw [hb10, vo_non]
          rfl
    | go p =>
      have eS : PoolCalls.step S (.go p) = if 4 ≤ p then (S, PoolCalls.BAD) else match S.party p with | none => (S, PoolCalls.NOT) | some x => PoolCalls.took S p x.1 (LwPool.goesOn x.1 x.2 S.board) := rfl
      refine ⟨_, rfl, rfl, _, rfl, ifD (fun q => absurd q (by show ¬ V.int 10 = V.int 12; decide)) (fun _ => ?_)⟩
      refine ⟨_, rfl, nl, _, _, _, rfl, rfl, hnl, at_of (j := 0) rfl rfl, _, rfl, _, _, rfl, rfl, _, rfl, ifD (fun q => ?_) (fun q => ?_)⟩
      · exact ⟨(by show 1 ≤ sizeLine; decide), fun l hl => short (-1) l hl (by rw [eS, if_pos (by omega)]; rfl)⟩
      have hp : p < 4 := by omega
      obtain ⟨c, hc⟩ : ∃ c, cs[p]? = some c := ⟨_, List.getElem?_eq_getElem (by rw [hY.len]; exact hp)⟩
      refine ⟨_, rfl, ln, Γ.line, dx, _, _, rfl, hln, T.cl_line, T.n_line_running, (by walk_at "lk"), _, rfl, lr, _, _, _, rfl, rfl, SqL.of hY.hlr, at_of (j := p) rfl (vo_get hc), rfl, _, rfl, _, _, rfl, rfl, _, rfl, _, rfl, rfl, _, rfl, ?_⟩
      rw [if_neg (by omega)] at eS
      rcases hY.pt p c hc with ⟨rfl, hpt⟩ | ⟨a, o, at_, rfl, hpt, hG⟩
      · refine ifD (fun q => ?_) (fun q => absurd rfl q)
        exact ⟨(by show 1 ≤ sizeLine; decide), fun l hl => short (-9) l hl (by rw [eS, hpt]; rfl)⟩
      · refine ifD (fun q => ?_) (fun _ => ?_)
        · have q : V.bl (!decide (vo (some a) = V.non)) = V.bl false := q
          rw [vo_non] at q
          injection q with q
          exact nomatch q
        · refine ⟨_, rfl, _, rfl, ifD (fun q => absurd q (by show ¬ (10 : Int) < 10; decide)) (fun _ => ?_)⟩
          refine ⟨_, rfl, rfl, _, rfl, ifD (fun q => absurd q (by show ¬ V.int 10 = V.int 11; decide)) (fun _ => ?_)⟩
          obtain ⟨hgo, da, r, ha, hlk⟩ := hG.shape
          refine ⟨_, rfl, ln, Γ.line, dx, _, _, rfl, hln, T.cl_line, T.n_line_running, (by walk_at "lk"), _, rfl, lr, _, _, _, rfl, rfl, SqL.of hY.hlr, at_of (j := p) rfl (vo_get hc), ?_⟩
          refine ⟨_, rfl, _, rfl, _, rfl, ⟨o, hgo⟩, _, rfl, a, da, _, rfl, ha, (lk_miss (by decide +kernel)).trans hlk, _, rfl, ln, Γ.line, dx, _, _, rfl, hln, T.cl_line, T.n_line_board, (by walk_at "lk"), a, F, S.board, o, at_, rfl, rfl, hY.bd, hS.b, hG, (hS.pt p o at_ hpt).2, fun v H2 ch res => ?_⟩
          rw [hpt] at eS
          rw [eS] at k
          exact after_ok hY hS hp hln (Same.refl H) ha (fun q a' hq e z => hq (hY.dj q p a' e (z ▸ hc))) ch res (goes_out (hS.pt p o at_ hpt).2) k
    | gone p =>
      have eS : PoolCalls.step S (.gone p) = if 4 ≤ p then (S, PoolCalls.BAD) else match S.party p with | none => (S, PoolCalls.NOT) | some _ => ({ S with parties := S.parties.set p none }, PoolCalls.says 2) := rfl
      refine ⟨_, rfl, rfl, _, rfl, ifD (fun q => absurd q (by show ¬ V.int 11 = V.int 12; decide)) (fun _ => ?_)⟩
      refine ⟨_, rfl, nl, _, _, _, rfl, rfl, hnl, at_of (j := 0) rfl rfl, _, rfl, _, _, rfl, rfl, _, rfl, ifD (fun q => ?_) (fun q => ?_)⟩
      · exact ⟨(by show 1 ≤ sizeLine; decide), fun l hl => short (-1) l hl (by rw [eS, if_pos (by omega)]; rfl)⟩
      have hp : p < 4 := by omega
      obtain ⟨c, hc⟩ : ∃ c, cs[p]? = some c := ⟨_, List.getElem?_eq_getElem (by rw [hY.len]; exact hp)⟩
      refine ⟨_, rfl, ln, Γ.line, dx, _, _, rfl, hln, T.cl_line, T.n_line_running, (by walk_at "lk"), _, rfl, lr, _, _, _, rfl, rfl, SqL.of hY.hlr, at_of (j := p) rfl (vo_get hc), rfl, _, rfl, _, _, rfl, rfl, _, rfl, _, rfl, rfl, _, rfl, ?_⟩
      rw [if_neg (by omega)] at eS
      rcases hY.pt p c hc with ⟨rfl, hpt⟩ | ⟨a, o, at_, rfl, hpt, hG⟩
      · refine ifD (fun q => ?_) (fun q => absurd rfl q)
        exact ⟨(by show 1 ≤ sizeLine; decide), fun l hl => short (-9) l hl (by rw [eS, hpt]; rfl)⟩
      · refine ifD (fun q => ?_) (fun _ => ?_)
        · have q : V.bl (!decide (vo (some a) = V.non)) = V.bl false := q
          rw [vo_non] at q
          injection q with q
          exact nomatch q
        · refine ⟨_, rfl, _, rfl, ifD (fun q => absurd q (by show ¬ (11 : Int) < 10; decide)) (fun _ => ?_)⟩
          refine ⟨_, rfl, rfl, _, rfl, ifD (fun _ => ?_) (fun q => absurd rfl q)⟩
          obtain ⟨hgo, da, r, ha, hlk⟩ := hG.shape
          refine ⟨_, rfl, ln, Γ.line, dx, _, _, rfl, hln, T.cl_line, T.n_line_running, (by walk_at "lk"), _, rfl, lr, _, _, p, rfl, rfl, hY.hlr, ixN_nat (by rw [List.length_map, hY.len]; exact hp), (by show 1 ≤ sizeLine; decide), fun l hl => ?_⟩
          obtain ⟨hlr2, hln2, hsys⟩ := hY.took hS hp (Same.refl H) ha (fun q a' hq e z => hq (hY.dj q p a' e (z ▸ hc))) Chg.refl hY.bd New.refl (nv := none) (np := none) (.inl ⟨rfl, rfl⟩)
          rw [show (V.non) = vo none from rfl, set_vo] at hl ⊢
          rw [hpt] at eS
          rw [eS] at k
          exact k l _ F _ (lv_step (K := K) (Same.refl H) ha Chg.refl New.refl (Same.new hl)) upd_same (hsys.same (Same.new hl)) (hsys.bd.notNone hl) (ne_of_none hsys.hlr hl).symm ((chg_lst (K := K) (X := fun b => b = lr) hY.hlr rfl).free hl)
    | board =>
      refine ⟨_, rfl, rfl, _, rfl, ifD (fun _ => ?_) (fun q => absurd rfl q)⟩
      refine ⟨(by show 1 ≤ sizeLine; decide), fun l1 hl1 => ⟨_, rfl, ln, Γ.line, dx, _, _, rfl, keep_new hln hl1, T.cl_line, T.n_line_board, (by walk_at "lk"), F, S.board, rfl, hY.bd.same (Same.new hl1), hS.b, fun l2 H2 s2 hl2n hl2 => ⟨l1, l2, _, _, rfl, rfl, s2 _ _ upd_same, hl2, ?_, fun l hl => ?_⟩⟩⟩
      · have := step_len (c := .board) hS
        have e : PoolNeutral.answerInts (PoolCalls.step S .board).2 = 3 :: PoolNeutral.ints (S.board.event :: S.board.slots.flatMap PoolCalls.slotTold) := rfl
        rw [e] at this
        simp only [PoolNeutral.ints, List.length_cons, List.length_map] at this
        rw [List.length_map]
        have big : 1000 ≤ sizeLine := by decide
        simp only [List.length_cons, List.length_nil]
        omega
      · have s3 : Same H (upd H2 l (.lst ([V.int 3] ++ (S.board.event :: S.board.slots.flatMap PoolCalls.slotTold).map vi))) := ((Same.new hl1).trans s2).trans (Same.new hl)
        refine k l _ F cs s3.lv ?_ (hY.same s3) ((hY.bd.same ((Same.new hl1).trans s2)).notNone hl) (ne_of_none (((Same.new hl1).trans s2) _ _ hY.hlr) hl).symm (((Same.new hl1).trans s2).free hl)
        rw [upd_same]
        show _ = some (HO.lst ((3 :: PoolNeutral.ints (S.board.event :: S.board.slots.flatMap PoolCalls.slotTold)).map V.int))
        simp [PoolNeutral.ints]
end
end Po

namespace Po
open PySem PySem.Spec PyProof.Rows L2
local macro_rules | `(tactic| walk_at "lk") => `(tactic| repeat (first | exact lk_hit | exact lk_nil | refine (lk_miss (by decide +kernel)).trans ?_))
local macro_rules | `(tactic| walk_at "put") => `(tactic| repeat (first | exact put_hit | exact put_nil | (apply put_miss; · decide +kernel)))
def numsV : List V := [.int 3, .int 1, .int 2, .int 3, .int 2, .int 2, .int 2, .int 1, .int 2, .int 1, .int 1, .int 1, .int 0]
theorem nums_at (x : PoolCalls.Call) : ∃ j : Nat, encP x = (j : Int) ∧ numsV[j]? = some (vi (encN x).length) := by
  cases x with
  | begin_ p o =>
    cases o with
    | offer n k j => exact ⟨0, rfl, rfl⟩
    | take => exact ⟨1, rfl, rfl⟩
    | again t => exact ⟨2, rfl, rfl⟩
    | done t k => exact ⟨3, rfl, rfl⟩
    | halt_ t => exact ⟨4, rfl, rfl⟩
    | look t => exact ⟨5, rfl, rfl⟩
    | clear t => exact ⟨6, rfl, rfl⟩
    | key => exact ⟨7, rfl, rfl⟩
    | sleep x => exact ⟨8, rfl, rfl⟩
    | wake => exact ⟨9, rfl, rfl⟩
  | go p => exact ⟨10, rfl, rfl⟩
  | gone p => exact ⟨11, rfl, rfl⟩
  | board => exact ⟨12, rfl, rfl⟩
/-- the next call of the list -/
theorem next_call {ns : List Int} {i f : Nat} {css : List (List (List Int))} (hi : i < ns.length) (h : PyFlat.calls PyWrlntm.shape f (ns.drop i) = some css) (ha : ∀ c ∈ css, PoolNeutral.asked1 (PyWrlntm.whole c) = true) :
    ∃ (c : List (List Int)) (css' : List (List (List Int))) (x : PoolCalls.Call) (f' i' : Nat), css = c :: css' ∧ ns[i]? = some (encP x) ∧ PoolNeutral.callOf (PyWrlntm.whole c) = some x ∧ CallOk x ∧ i + 1 + (encN x).length ≤ ns.length ∧ (ns.drop (i + 1)).take (encN x).length = encN x ∧
      i < i' ∧ i' ≤ ns.length ∧ PyFlat.calls PyWrlntm.shape f' (ns.drop i') = some css' ∧
      ((¬ encP x = 0 ∧ encJ x = [] ∧ i' = i + 1 + (encN x).length) ∨ (encP x = 0 ∧ i' = i + 5 + (encJ x).length ∧ (encN x).length = 3 ∧ ns[i + 4]? = some ((encJ x).length : Int) ∧ (ns.drop (i + 5)).take (encJ x).length = PoolNeutral.ints (encJ x))) := by
  have e : ns.drop i = ns[i] :: ns.drop (i + 1) := List.drop_eq_getElem_cons hi
  rw [e] at h
  obtain ⟨c, t, f', css', h1, h2, rfl⟩ := calls_cons h
  obtain ⟨x, R⟩ := rd_call h1 (ha c List.mem_cons_self)
  have hr : (ns.drop (i + 1)).length = ns.length - (i + 1) := List.length_drop ..
  have hn := R.nle
  rw [hr] at hn
  have hg : ns[i]? = some (encP x) := by rw [R.pl]; exact List.getElem?_eq_getElem hi
  rcases R.rest with ⟨r1, r2, r3⟩ | ⟨r1, r2, r3, r4, r5, r6⟩
  · refine ⟨c, css', x, f', i + 1 + (encN x).length, rfl, hg, R.call, R.ok, by omega, R.num, by omega, by omega, ?_, .inl ⟨by rw [R.pl]; exact r1, r2, rfl⟩⟩
    rw [r3, List.drop_drop] at h2
    exact h2
  · rw [hr] at r5
    refine ⟨c, css', x, f', i + 5 + (encJ x).length, rfl, hg, R.call, R.ok, by omega, R.num, by omega, by omega, ?_, .inr ⟨by rw [R.pl]; exact r1, rfl, r2, ?_, ?_⟩⟩
    · rw [r6, List.drop_drop] at h2
      rw [show i + 5 + (encJ x).length = i + 1 + (4 + (encJ x).length) by omega]
      exact h2
    · rw [List.getElem?_drop] at r3
      rw [show i + 4 = i + 1 + 3 by omega]
      exact r3
    · rw [List.drop_drop] at r4
      rw [show i + 5 = i + 1 + 4 by omega]
      exact r4
section
variable {P : Program} {w : World} {K : PySem.W.Frag} {mg : Str → Option Value} {base : Heap} {Γ : Cs} {H H0 : Hp}
/-- between two turns -/
structure LI (K : PySem.W.Frag) (Γ : Cs) (H0 : Hp) (a ln lr tl : Addr) (ns : List Int) (H : Hp) (i : Nat) (F : Ft) (cs : List (Option Addr)) (S : PoolCalls.State) (css : List (List (List Int))) (f : Nat) (out : List Int) (n : Nat) : Prop where
  hi : i ≤ ns.length
  cnt : n + css.length ≤ 400
  pars : PyFlat.calls PyWrlntm.shape f (ns.drop i) = some css
  ask : ∀ c ∈ css, PoolNeutral.asked1 (PyWrlntm.whole c) = true
  sys : SysAt K Γ H ln lr F cs S
  ok : SysOk S
  told : H tl = some (.lst (out.map V.int))
  due_ : out ++ due S css = PyWrlntm.answers ns
  len : out.length ≤ 101 * n
  tlF : ¬ F.In tl
  hF : ∀ b, F.In b → H0 b = none
  live : ∀ b, H0 b ≠ none → H b ≠ none
  arg : ∀ o, H0 a = some o → (∀ C dx fs, o ≠ .ins C dx fs) → H a = some o
  hd : ∀ y ys, out = y :: ys → 1 ≤ y
/-- the list that is handed in -/
def ArgL (K : PySem.W.Frag) (H0 : Hp) (a : Addr) (xs : List V) : Prop := (∃ o, H0 a = some o ∧ (∀ C dx fs, o ≠ .ins C dx fs) ∧ ∀ H, H a = some o → SqL K H a xs) ∨ ∀ H, SqL K H a xs
theorem argL_of {a : Addr} {xs : List V} (h : SqL K H0 a xs) : ArgL K H0 a xs := by
  rcases h with (h | ⟨o, h⟩) | h
  · exact .inl ⟨_, h, fun _ _ _ z => (nomatch z), fun H e => .inl (.inl e)⟩
  · exact .inl ⟨_, h, fun _ _ _ z => (nomatch z), fun H e => .inl (.inr ⟨o, e⟩)⟩
  · exact .inr fun H => .inr h
theorem ArgL.at_ {a : Addr} {xs : List V} (h : ArgL K H0 a xs) (k : ∀ o, H0 a = some o → (∀ C dx fs, o ≠ .ins C dx fs) → H a = some o) : SqL K H a xs := by
  rcases h with ⟨o, h1, h2, h3⟩ | h
  · exact h3 H (k o h1 h2)
  · exact h H
/-- the turn's end -/
theorem LI.next {a ln lr tl l : Addr} {ns : List Int} {i i' : Nat} {F F2 : Ft} {cs cs2 : List (Option Addr)} {S : PoolCalls.State} {c : List (List Int)} {css' : List (List (List Int))} {f f' : Nat} {out : List Int} {n : Nat} {x : PoolCalls.Call} {H1 H2 : Hp}
    (h : LI K Γ H0 a ln lr tl ns H i F cs S (c :: css') f out n) (s1 : Same H H1) (nlrtl : tl ≠ lr) (hlr0 : H0 lr = none) (htl0 : H0 tl = none) (hA : ArgL K H0 a (ns.map V.int)) (hx : PoolNeutral.callOf (PyWrlntm.whole c) = some x) (hX : CallOk x) (hp : PyFlat.calls PyWrlntm.shape f' (ns.drop i') = some css') (hi' : i' ≤ ns.length)
    (lv : Lv H1 H2 F F2 lr) (hl : H2 l = some (.lst ((PoolNeutral.answerInts (PoolCalls.step S x).2).map V.int))) (hY : SysAt K Γ H2 ln lr F2 cs2 (PoolCalls.step S x).1) (hlF : ¬ F2.In l) (hlN : H1 l = none) :
    H2 tl = some (.lst (out.map V.int)) ∧ l ≠ tl ∧ (out.map V.int).length + 101 ≤ 50000 ∧ ((PoolNeutral.answerInts (PoolCalls.step S x).2).map V.int).length ≤ 100 ∧
    ∀ H3, (∀ b o, H2 b = some o → b ≠ tl → H3 b = some o) → (∀ b, H2 b ≠ none → H3 b ≠ none) → (∀ b xs, SqT K H2 b xs → SqT K H3 b xs) →
      H3 tl = some (.lst (out.map V.int ++ [V.int (((PoolNeutral.answerInts (PoolCalls.step S x).2).map V.int).length : Int)] ++ (PoolNeutral.answerInts (PoolCalls.step S x).2).map V.int)) →
      LI K Γ H0 a ln lr tl ns H3 i' F2 cs2 (PoolCalls.step S x).1 css' f' (out ++ ((((PoolNeutral.answerInts (PoolCalls.step S x).2).length : Nat) : Int) :: PoolNeutral.answerInts (PoolCalls.step S x).2)) (n + 1) := by
  have ht1 : H1 tl = some (.lst (out.map V.int)) := s1 _ _ h.told
  have ht2 : H2 tl = some (.lst (out.map V.int)) := lv.keep _ _ ht1 (fun _ _ _ z => nomatch z) h.tlF nlrtl
  have hcl : n + (css'.length + 1) ≤ 400 := h.cnt
  have hsl := step_len (c := x) h.ok
  have hlen := h.len
  refine ⟨ht2, (ne_of_none ht1 hlN).symm, by rw [List.length_map]; omega, by rw [List.length_map]; exact hsl, fun H3 kp lvv tp ht3 => ?_⟩
  have c23 : Chg K (fun b => b = tl) H2 H3 := ⟨kp, tp, lvv⟩
  have tlF2 : ¬ F2.In tl := fun z => (lv.new tl z).elim h.tlF fun q => by rw [ht1] at q; cases q
  refine ⟨hi', by omega, hp, fun d hd => h.ask d (List.mem_cons_of_mem _ hd), ?_, step_ok h.ok hX, ?_, ?_, ?_, tlF2, ?_, ?_, ?_, ?_⟩
  · obtain ⟨dx, hln⟩ := hY.hln
    have ntl : ∀ {b o}, H2 b = some o → o ≠ .lst (out.map V.int) → b ≠ tl := fun e z => ne_of e ht2 z
    refine ⟨⟨dx, kp _ _ hln (ntl hln fun z => nomatch z)⟩, hY.bd.chg c23 fun b hb e => tlF2 (e ▸ hb), kp _ _ hY.hlr fun e => nlrtl e.symm, hY.len, fun p d e => ?_, hY.dj, hY.lrF⟩
    rcases hY.pt p d e with z | ⟨g, o, at_, h1, h2, h3⟩
    · exact .inl z
    · refine .inr ⟨g, o, at_, h1, h2, ?_⟩
      obtain ⟨_, da, ra, ha, _⟩ := h3.shape
      refine h3.chg c23 (ntl ha fun z => nomatch z) fun l0 xs e0 nF => ⟨fun z => ?_, nF⟩
      rw [show l0 = tl from z, ht2] at e0
      injection e0 with e0
      injection e0 with e0
      cases out with
      | nil => cases e0
      | cons y ys =>
        rw [List.map_cons] at e0
        injection e0 with e0 _
        injection e0 with e0
        have := h.hd y ys rfl
        omega
  · rw [ht3]
    simp
  · rw [← h.due_, due_cons hx, List.append_assoc]
  · rw [List.length_append, List.length_cons]
    omega
  · intro b hb
    rcases lv.new b hb with z | z
    · exact h.hF b z
    · exact Classical.byContradiction fun q => h.live b q (s1.free z)
  · exact fun b hb => lvv b (lv.live b (live_same s1 b (h.live b hb)))
  · intro o e hins
    have e1 := s1 _ _ (h.arg o e hins)
    exact kp _ _ (lv.keep _ _ e1 hins (fun z => by rw [h.hF a z] at e; cases e) fun z => by rw [z, hlr0] at e; cases e) fun z => by rw [z, htl0] at e; cases e
  · intro y ys e
    cases out with
    | nil =>
      rw [List.nil_append] at e
      injection e with e _
      rw [← e]
      have : 1 ≤ (PoolNeutral.answerInts (PoolCalls.step S x).2).length := by simp [PoolNeutral.answerInts]
      omega
    | cons z zs =>
      rw [List.cons_append] at e
      injection e with e _
      rw [← e]
      exact h.hd z zs rfl
theorem int_at {ns : List Int} {j : Nat} {z : Int} (h : ns[j]? = some z) : (ns.map V.int)[j]? = some (.int z) := by
  rw [List.getElem?_map, h]
  rfl
def spAns (K : PySem.W.Frag) : Sp := fun vs H Q _ => ∃ (a : Addr) (ns : List Int), vs = [.ref a] ∧ SqL K H a (ns.map V.int) ∧ PyWrlntm.answers_asked ns = true ∧ ∀ (H' : Hp) (p : Addr), H' p = some (.lst ((PyWrlntm.answers ns).map V.int)) → Q (.ref p) H'
abbrev s_answers : Stmt := top 81
theorem sc_answers : FnScope ["calls", "line", "told", "at", "place", "job_at", "numbers", "job", "answer"] ["calls"] (defScope s_answers) := ⟨rfl, rfl, rfl, by decide +kernel, rfl, by decide +kernel, by decide +kernel⟩
theorem ok_answers {f : Addr} {fd : FuncData} (F : Fun K "answers" "answers" s_answers f fd) (T : Tx K mg Γ) (k_Line : KF P w K mg base "Line" Γ.line 6 ["self"] (spLineInit K Γ)) (g_answer_call : GF P w K mg base "answer_call" 9 ["line", "place", "numbers", "job"] (spCall K Γ)) : FnOk P w K mg base CX0 10 f fd ["calls"] (spAns K) := by
  have sc := sc_answers
  refine F.ok sc (fun vs H Q E h => ?_) (fun cdv A outer s H vs Q E hr h => ?_)
  · obtain ⟨_, _, rfl, _⟩ := h
    rfl
  · obtain ⟨a, ns, rfl, hSq, hask, k⟩ := h
    have hA := argL_of hSq
    have big : 60000 < sizeLine := by decide
    refine ⟨_, (pss_cons (ps_set (i := 1) sc.nd rfl (Or.inl rfl) (pe_kf0 k_Line (hr.mono (by decide)) rfl))
      (pss_cons (ps_set (i := 2) sc.nd rfl (Or.inl rfl) (pe_lst pa_nil))
      (pss_cons (ps_set (i := 3) sc.nd rfl (Or.inl rfl) pe_int)
      (pss_cons (ps_while PassesOwn.never (pt_cmpR op_lt (pv 3) (pe_callB call_len_seq (by rfl) T.b_len bo_len (pa_cons (pv 0) pa_nil)) (nomark _))
        (pss_cons (ps_set (i := 4) sc.nd rfl (Or.inl rfl) (pe_ix ix_list (pv 0) (pv 3) (fun _ _ => rfl)))
      (pss_cons (ps_set (i := 5) sc.nd rfl (Or.inl rfl) (pe_op op_add (pe_op op_add (pv 3) pe_int) (pe_ix ix_tup (pe_gv T.g_NUMBERS rfl) (pv 4) (fun _ _ => rfl))))
      (pss_cons (ps_set (i := 6) sc.nd rfl (Or.inl rfl) (pe_slice sl_list (pv 0) (po_some (pe_op op_add (pv 3) pe_int)) (po_some (pv 5))))
      (pss_cons (ps_set (i := 7) sc.nd rfl (Or.inl rfl) (pe_tup pa_nil))
      (pss_cons (ps_set (i := 3) sc.nd rfl (Or.inl rfl) (pv 5))
      (pss_cons (ps_if (pt_cmpR op_eq (pv 4) (pe_gv T.g_OFFER rfl) (nomark _))
        (pss_cons (ps_set (i := 3) sc.nd rfl (Or.inl rfl) (pe_op op_add (pe_op op_add (pv 5) pe_int) (pe_ix ix_list (pv 0) (pv 5) (fun _ _ => rfl))))
      (pss_one (ps_set (i := 7) sc.nd rfl (Or.inl rfl) (pe_callTy call_tuple_of (by rfl) T.b_tuple bo_tuple (pa_cons (pe_slice sl_list (pv 0) (po_some (pe_op op_add (pv 5) pe_int)) (po_some (pv 3))) pa_nil)))))
        pss_nil)
      (pss_cons (ps_set (i := 8) sc.nd rfl (Or.inl rfl) (pe_gf g_answer_call (hr.mono (by decide)) rfl (pa_cons (pv 1) (pa_cons (pv 4) (pa_cons (pv 6) (pa_cons (pv 7) pa_nil))))))
      (pss_cons (ps_expr (pe_bm PySem.F.plainAttrs_list PySem.F.slot_list_append PySem.F.type_list_append mt_append (pv 2) (pa_cons (pe_callB call_len_seq (by rfl) T.b_len bo_len (pa_cons (pv 8) pa_nil)) pa_nil)))
      (pss_one (ps_expr (pe_bm PySem.F.plainAttrs_list PySem.F.slot_list_extend PySem.F.type_list_extend mt_extend (pv 2) (pa_cons (pv 8) pa_nil)))))))))))))
      (pss_one (ps_ret (pv 2))))))), ?_⟩
    intro ln dx nx ndx ne
    refine ⟨ln, dx, rfl, upd_same, fun H1 F lr hln hB hlr nF kp hF hlr0 => ⟨rfl, ?_⟩⟩
    have s1 : Same H H1 := Same.made nx ndx kp
    have s0 : Same H (upd (upd H dx (.own ln)) ln (.ins Γ.line dx [])) := fun b o e => by
      rw [upd_ne (ne_of_none e nx), upd_ne (ne_of_none e ndx)]; exact e
    refine ⟨(by show 0 ≤ sizeLine; decide), fun tl htl => ?_⟩
    have s2 : Same H1 (upd H1 tl (.lst [])) := Same.new htl
    have hlrH : H lr = none := s0.free hlr0
    have htlH : H tl = none := s1.free htl
    have ntl : tl ≠ lr := (ne_of_none hlr htl).symm
    obtain ⟨css, hcs, hcnt, hall, hdue⟩ : ∃ css, PyFlat.calls PyWrlntm.shape ns.length ns = some css ∧ css.length ≤ 400 ∧ (∀ c ∈ css, PoolNeutral.asked1 (PyWrlntm.whole c) = true) ∧ due PoolCalls.start css = PyWrlntm.answers ns := by
      unfold PyWrlntm.answers_asked PyWrlntm.calls at hask
      unfold PyWrlntm.answers PyWrlntm.calls
      cases e : PyFlat.calls PyWrlntm.shape ns.length ns with
      | none => rw [e] at hask; cases hask
      | some cs =>
        rw [e] at hask
        have hask : (PyFlat.atMost 400 (cs.map PyWrlntm.whole) && PoolNeutral.asked (cs.map PyWrlntm.whole)) = true := hask
        rw [Bool.and_eq_true] at hask
        have h1 := of_decide_eq_true hask.1
        rw [List.length_map] at h1
        have h2 := hask.2
        unfold PoolNeutral.asked at h2
        simp only [Bool.and_eq_true, List.all_eq_true] at h2
        exact ⟨cs, rfl, h1, fun c hc => h2.2.2 _ (List.mem_map.mpr ⟨c, hc, rfl⟩), rfl⟩
    have sys0 : SysAt K Γ H1 ln lr F (List.replicate 4 none) PoolCalls.start := by
      refine ⟨⟨dx, hln⟩, hB, hlr, rfl, fun p c e => .inl ⟨?_, ?_⟩, fun p q b e => ?_, nF⟩
      · rw [List.getElem?_replicate] at e
        split at e
        · exact (Option.some.inj e).symm
        · cases e
      · show (List.replicate PoolCalls.PARTIES none).getD p none = none
        rw [List.getD_eq_getElem?_getD, List.getElem?_replicate]
        split <;> rfl
      · rw [List.getElem?_replicate] at e
        split at e
        · exact nomatch (Option.some.inj e)
        · cases e
    have L0 : LI K Γ H a ln lr tl ns (upd H1 tl (.lst [])) 0 F (List.replicate 4 none) PoolCalls.start css ns.length [] 0 :=
      ⟨Nat.zero_le _, by omega, hcs, hall, sys0.same s2, start_ok, upd_same, hdue, Nat.le_refl _, hB.notNone htl, fun b hb => s0.free (hF b hb), live_same (s1.trans s2), fun o e _ => (s1.trans s2) _ _ e, fun y ys e => nomatch e⟩
    refine ⟨fun m σ H' => ∃ (i : Nat) (v4 v5 v6 v7 v8 : Option V) (F : Ft) (cs : List (Option Addr)) (S : PoolCalls.State) (css : List (List (List Int))) (f : Nat) (out : List Int) (n : Nat), m = ns.length - i ∧ σ = [some (.ref a), some (.ref ln), some (.ref tl), some (vi i), v4, v5, v6, v7, v8] ∧ LI K Γ H a ln lr tl ns H' i F cs S css f out n,
      ⟨ns.length - 0, 0, none, none, none, none, none, F, _, _, css, _, [], 0, rfl, rfl, L0⟩, ?_⟩
    rintro m σ H2 ⟨i, v4, v5, v6, v7, v8, F, cs, S, css, f, out, n, rfl, rfl, L⟩
    have hA2 : SqL K H2 a (ns.map V.int) := hA.at_ L.arg
    refine ⟨_, rfl, _, rfl, a, _, rfl, .inl hA2, _, _, rfl, rfl, _, rfl, ifD (fun q => ?_) (fun q => ?_)⟩
    · have q : (i : Int) < (((ns.map V.int).length : Nat) : Int) := q
      rw [List.length_map] at q
      have hi : i < ns.length := by omega
      obtain ⟨c, css', x, f', i', rfl, hpl, hx, hX, hn1, hn2, hii, hi2, hp, hcase⟩ := next_call hi L.pars L.ask
      obtain ⟨pj, epj, hpj⟩ := nums_at x
      refine ⟨fun σ' H' => ∃ (v4 v5 v6 v7 v8 : Option V) (F : Ft) (cs : List (Option Addr)) (S : PoolCalls.State) (out : List Int) (n : Nat), σ' = [some (.ref a), some (.ref ln), some (.ref tl), some (vi i'), v4, v5, v6, v7, v8] ∧ LI K Γ H a ln lr tl ns H' i' F cs S css' f' out n, ?_, ?_⟩
      · rintro σ' H' ⟨v4, v5, v6, v7, v8, F, cs, S, out, n, rfl, L'⟩
        exact ⟨ns.length - i', by omega, i', v4, v5, v6, v7, v8, F, cs, S, css', f', out, n, rfl, rfl, L'⟩
      refine ⟨_, rfl, _, rfl, a, _, _, _, rfl, rfl, hA2, at_of (j := i) rfl (int_at hpl), _, rfl, _, _, rfl, rfl, _, rfl, Γ.nums, _, _, _, rfl, rfl, T.s_nums H2, at_of (j := pj) epj hpj, _, _, rfl, rfl, ?_⟩
      have e1 : (i : Int) + 1 + ((encN x).length : Int) = ((i + 1 + (encN x).length : Nat) : Int) := by omega
      dsimp only
      rw [e1]
      refine ⟨_, rfl, _, rfl, _, _, rfl, rfl, _, rfl, _, rfl, _, rfl, a, _, rfl, hA2, fun nl hnl => ?_⟩
      have ecut : cutV (ns.map V.int) (some ((i : Int) + 1)) (some ((i + 1 + (encN x).length : Nat) : Int)) = (encN x).map V.int := by
        have e2 : (i : Int) + 1 = ((i + 1 : Nat) : Int) := by omega
        rw [e2, cut_mid _ _ _ (by rw [List.length_map]; omega) (by rw [List.length_map]; omega), ← List.map_drop, ← List.map_take]
        rw [show i + 1 + (encN x).length - (i + 1) = (encN x).length by omega, hn2]
      rw [ecut]
      have t1 : Same H2 (upd H2 nl (.lst ((encN x).map V.int))) := Same.new hnl
      refine ⟨(by show 0 ≤ sizeLine; decide), fun jb hjb => ?_⟩
      have t2 : Same H2 (upd (upd H2 nl (.lst ((encN x).map V.int))) jb (.tup [])) := t1.trans (Same.new hjb)
      have hnl2 : (upd (upd H2 nl (.lst ((encN x).map V.int))) jb (.tup [])) nl = some (.lst ((encN x).map V.int)) := keep_new upd_same hjb
      obtain ⟨H3, e3⟩ : ∃ H3, upd (upd H2 nl (.lst ((encN x).map V.int))) jb (.tup []) = H3 := ⟨_, rfl⟩
      have hjb3 : H3 jb = some (.tup []) := by rw [← e3]; exact upd_same
      rw [e3] at t2 hnl2 ⊢
      -- what is done with the answer
      have fin : ∀ (H4 H5 : Hp) (l : Addr) (F2 : Ft) (cs2 : List (Option Addr)), Same H2 H4 → Lv H4 H5 F F2 lr → H5 l = some (.lst ((PoolNeutral.answerInts (PoolCalls.step S x).2).map V.int)) → SysAt K Γ H5 ln lr F2 cs2 (PoolCalls.step S x).1 → ¬ F2.In l → H4 l = none →
          H5 tl = some (.lst (out.map V.int)) ∧ l ≠ tl ∧ (out.map V.int).length + 101 ≤ 50000 ∧ ((PoolNeutral.answerInts (PoolCalls.step S x).2).map V.int).length ≤ 100 ∧
          LI K Γ H a ln lr tl ns (upd (upd H5 tl (.lst (out.map V.int ++ [V.int (((PoolNeutral.answerInts (PoolCalls.step S x).2).map V.int).length : Int)]))) tl (.lst (out.map V.int ++ [V.int (((PoolNeutral.answerInts (PoolCalls.step S x).2).map V.int).length : Int)] ++ (PoolNeutral.answerInts (PoolCalls.step S x).2).map V.int))) i' F2 cs2 (PoolCalls.step S x).1 css' f'
            (out ++ ((((PoolNeutral.answerInts (PoolCalls.step S x).2).length : Nat) : Int) :: PoolNeutral.answerInts (PoolCalls.step S x).2)) (n + 1) := by
        intro H4 H5 l F2 cs2 t lv hl hY hlF hlN
        obtain ⟨r1, r2, r3, r4, r5⟩ := L.next t ntl hlrH htlH hA hx hX hp hi2 lv hl hY hlF hlN
        have d1 : Chg K (fun b => b = tl) H5 (upd H5 tl (.lst (out.map V.int ++ [V.int (((PoolNeutral.answerInts (PoolCalls.step S x).2).map V.int).length : Int)]))) := chg_lst r1 rfl
        have d2 : Chg K (fun b => b = tl) (upd H5 tl (.lst (out.map V.int ++ [V.int (((PoolNeutral.answerInts (PoolCalls.step S x).2).map V.int).length : Int)]))) (upd (upd H5 tl (.lst (out.map V.int ++ [V.int (((PoolNeutral.answerInts (PoolCalls.step S x).2).map V.int).length : Int)]))) tl (.lst (out.map V.int ++ [V.int (((PoolNeutral.answerInts (PoolCalls.step S x).2).map V.int).length : Int)] ++ (PoolNeutral.answerInts (PoolCalls.step S x).2).map V.int))) := chg_lst upd_same rfl
        have d := d1.trans d2
        exact ⟨r1, r2, r3, r4, r5 _ d.keep d.live d.tup upd_same⟩
      refine ⟨_, rfl, _, rfl, rfl, _, rfl, ifD (fun q2 => ?_) (fun q2 => ?_)⟩
      · have q2 : encP x = 0 := by injection q2
        rcases hcase with ⟨z, _⟩ | ⟨_, hi5, hn3, h4, h5⟩
        · exact absurd q2 z
        have hA3 : SqL K H3 a (ns.map V.int) := t2.seq hA2
        have e4 : ns[i + 1 + (encN x).length]? = some ((encJ x).length : Int) := by rw [hn3, show i + 1 + 3 = i + 4 by omega]; exact h4
        refine ⟨_, rfl, _, _, rfl, rfl, _, rfl, _, rfl, a, _, _, _, rfl, rfl, hA3, at_of (j := i + 1 + (encN x).length) rfl (int_at e4), _, _, rfl, rfl, ?_⟩
        have e5 : ((i + 1 + (encN x).length : Nat) : Int) + 1 + ((encJ x).length : Int) = ((i' : Nat) : Int) := by rw [hi5, hn3]; omega
        dsimp only
        rw [e5]
        refine ⟨_, rfl, _, rfl, _, _, rfl, rfl, _, rfl, _, rfl, _, rfl, a, _, rfl, hA3, fun j1 hj1 => ?_⟩
        have ecj : cutV (ns.map V.int) (some (((i + 1 + (encN x).length : Nat) : Int) + 1)) (some ((i' : Nat) : Int)) = (encJ x).map vi := by
          have e6 : ((i + 1 + (encN x).length : Nat) : Int) + 1 = ((i + 5 : Nat) : Int) := by rw [hn3]; omega
          rw [e6, cut_mid _ _ _ (by rw [List.length_map]; omega) (by rw [List.length_map]; omega), ← List.map_drop, ← List.map_take]
          rw [show i' - (i + 5) = (encJ x).length by omega, h5]
          simp [PoolNeutral.ints]
        rw [ecj]
        refine ⟨j1, _, rfl, .inl ⟨SqL.of upd_same, fun j2 hj2 => ?_⟩⟩
        have t3 : Same H3 (upd (upd H3 j1 (.lst ((encJ x).map vi))) j2 (.tup ((encJ x).map vi))) := (Same.new hj1).trans (Same.new hj2)
        refine ⟨_, rfl, _, rfl, _, rfl, _, rfl, ln, lr, nl, j2, F, cs, S, x, rfl, L.sys.same (t2.trans t3), L.ok, hX, SqL.of (t3 _ _ hnl2), SqT.of upd_same, fun l H5 F2 cs2 lv hl hY hlF nlr hlN => ?_⟩
        obtain ⟨r1, r2, r3, r4, r5⟩ := fin _ H5 l F2 cs2 (t2.trans t3) lv hl hY hlF hlN
        refine ⟨_, rfl, .inl ⟨rfl, _, SqL.of r1⟩, _, rfl, l, _, rfl, .inl (SqL.of hl), tl, _, _, rfl, rfl, r1, (by omega), ?_⟩
        refine ⟨_, rfl, .inl ⟨rfl, _, SqL.of upd_same⟩, _, rfl, tl, l, _, _, rfl, rfl, upd_same, (by rw [upd_ne r2]; exact hl), ?_, ?_⟩
        · rw [List.length_append]
          simp only [List.length_cons, List.length_nil]
          omega
        · exact ⟨_, _, _, _, _, F2, cs2, _, _, _, rfl, r5⟩
      · have q2 : ¬ encP x = 0 := fun z => q2 (by rw [z])
        rcases hcase with ⟨_, hj0, hi5⟩ | ⟨z, _⟩
        · refine ⟨_, rfl, _, rfl, _, rfl, _, rfl, ln, lr, nl, jb, F, cs, S, x, rfl, L.sys.same t2, L.ok, hX, SqL.of hnl2, (by rw [hj0]; exact SqT.of hjb3), fun l H5 F2 cs2 lv hl hY hlF nlr hlN => ?_⟩
          obtain ⟨r1, r2, r3, r4, r5⟩ := fin _ H5 l F2 cs2 t2 lv hl hY hlF hlN
          refine ⟨_, rfl, .inl ⟨rfl, _, SqL.of r1⟩, _, rfl, l, _, rfl, .inl (SqL.of hl), tl, _, _, rfl, rfl, r1, (by omega), ?_⟩
          refine ⟨_, rfl, .inl ⟨rfl, _, SqL.of upd_same⟩, _, rfl, tl, l, _, _, rfl, rfl, upd_same, (by rw [upd_ne r2]; exact hl), ?_, ?_⟩
          · rw [List.length_append]
            simp only [List.length_cons, List.length_nil]
            omega
          · rw [← hi5]
            exact ⟨_, _, _, _, _, F2, cs2, _, _, _, rfl, r5⟩
        · exact absurd z q2
    · have q : ¬ (i : Int) < (((ns.map V.int).length : Nat) : Int) := q
      rw [List.length_map] at q
      have ei : i = ns.length := by have := L.hi; omega
      have hp := L.pars
      rw [ei, List.drop_length] at hp
      have ec : css = [] := by
        unfold PyFlat.calls at hp
        exact (Option.some.inj hp).symm
      subst ec
      refine ⟨_, rfl, k H2 tl ?_⟩
      have hd := L.due_
      rw [due_nil, List.append_nil] at hd
      rw [← hd]
      exact L.told
end
end Po

namespace Po
open PySem PySem.Spec PyProof.Rows L2
/-- a def as the top has made it -/
def FF (K : PySem.W.Frag) (x qual : Str) (st : Stmt) (f : Addr) : Prop := ∃ fd, Fun K x qual st f fd
theorem ff_mk {K : PySem.W.Frag} {x qual : Str} {st : Stmt} {f : Addr} {oc : Value} {od an : Option Addr} {osl : Array (Option Value)} {kV doc pm cdv ct : Value} (l : K.lookup f = some ⟨oc, od, .func (PySem.W.fnOf x qual (defArgs st) (defBody st) (defScope st) .none kV doc pm an cdv ct), osl⟩)
    (c : PySem.W.codeIn K cdv qual = true) (k : PySem.W.keepIn K (.ref f) = true) : FF K x qual st f := ⟨_, fun_mk l c k⟩
/-- a tuple of the top -/
def tupV (o : Obj) : Option (List V) := match o.cls, o.data with
  | .type "tuple", .seq its _ => if its.size ≤ 1000 then its.toList.mapM absV else none
  | _, _ => none
theorem absV_rel {v : Value} {x : V} (h : absV v = some x) : RelV x v := by
  cases v <;> simp [absV] at h <;> (subst h; first | rfl | exact ⟨_, rfl⟩)
theorem vals_mapM : ∀ {us : List Value} {xs : List V}, us.mapM absV = some xs → Vals xs us
  | [], xs, h => by
    simp at h
    subst h
    exact .nil
  | u :: us, xs, h => by
    rw [List.mapM_cons] at h
    cases e : absV u with
    | none => rw [e] at h; simp at h
    | some x =>
      rw [e] at h
      cases e2 : us.mapM absV with
      | none => rw [e2] at h; simp at h
      | some ys =>
        rw [e2] at h
        simp at h
        subst h
        exact .cons (absV_rel e) (vals_mapM e2)
theorem tup_of {K : PySem.W.Frag} {a : Addr} {o : Obj} {xs : List V} (l : K.lookup a = some o) (v : tupV o = some xs) : ∀ H, SqT K H a xs := fun H => by
  unfold tupV at v
  split at v
  · rename_i its n hc hd
    split at v
    · rename_i hz
      have big : 1000 ≤ sizeLine := by decide
      exact .inr ⟨o, its, n, l, hc, hd, by omega, vals_mapM v⟩
    · cases v
  · cases v
theorem comp_mk {P : Program} {w : World} {K : PySem.W.Frag} {h : Heap} {mg : Str → Option Value} {fa : Addr} (X : K.In h) (G : h.Ns mainGlobals mg) (hfa : mg "answers" = some (.ref fa))
    {Γ : Cs} {c_Running c_Trying c_Finishing : Addr} {t_NOT_THERE t_DISTURBED t_NO_SUCH_SLICE t_OUT_OF_RANGE t_TRIES t_SLOTS t_WORDS t_MARKS_OF_A_WORD t_MOST_SLICES t_PHASE_FREE t_PHASE_LAID t_PHASE_OPEN t_PHASE_FINISHED t_STAMP t_PHASE t_GIVEN t_STOPPED t_MARKS t_CLAIM t_LAY t_SHOW t_ALREADY t_PARTIES t_OFFER t_TAKE t_AGAIN t_DONE t_STOP t_LOOK t_CLEAR t_KEY t_SLEEP t_GO t_GONE t_BOARD t_AT_GAP t_AT_END t_IS_GONE t_IS_BOARD t_NO_PARTY t_OUT_OF_TURN : Tok} {o_nm o_nums : Obj} {f_ticket_of f_stamp_of f_is_even f_slot_of f_has_phase f_limit_of f_given_of f_is_marked f_with_mark f_is_done f_count_done f_is_complete f_unmarked_words f_has_slice_left f_tell_board f_new_call f_after_step f_answer_call f_answers f_Running_init f_Trying_init f_Finishing_init f_Slot_init f_Board_init f_Again_init f_Look_init f_Offer_init f_Take_init f_Done_init f_Clear_init f_Sleep_init f_Line_init f_Offer_begin f_Offer_go_on f_Offer_seek f_Offer_claim f_Offer_lay f_Offer_show f_Take_begin f_Take_go_on f_Take_seek f_Take_keep f_Again_begin f_Look_begin f_Look_go_on f_Look_ended f_Done_begin f_Done_look_up f_Done_judge f_Done_write f_Done_ended f_Finishing_go_on f_Finishing_begin_finish f_Finishing_finish f_Stop_begin f_Stop_look_up f_Stop_judge f_Stop_write f_Stop_ended f_Clear_begin f_Clear_go_on f_Clear_look_up f_Clear_judge f_Clear_write f_Wake_begin f_Wake_go_on f_Wake_look_up f_Wake_judge f_Wake_write f_Key_begin f_Key_go_on f_Sleep_begin f_Trying_attempt f_Trying_compare f_Running_is_last_fail : Addr}
    (a_Slot : PySem.W.nsIn K mainGlobals "Slot" = some (some (.ref Γ.slot)))
    (a_Board : PySem.W.nsIn K mainGlobals "Board" = some (some (.ref Γ.board)))
    (a_Again : PySem.W.nsIn K mainGlobals "Again" = some (some (.ref Γ.again)))
    (a_Look : PySem.W.nsIn K mainGlobals "Look" = some (some (.ref Γ.look)))
    (a_Offer : PySem.W.nsIn K mainGlobals "Offer" = some (some (.ref Γ.offer)))
    (a_Take : PySem.W.nsIn K mainGlobals "Take" = some (some (.ref Γ.take)))
    (a_Done : PySem.W.nsIn K mainGlobals "Done" = some (some (.ref Γ.done)))
    (a_Stop : PySem.W.nsIn K mainGlobals "Stop" = some (some (.ref Γ.stop)))
    (a_Clear : PySem.W.nsIn K mainGlobals "Clear" = some (some (.ref Γ.clear)))
    (a_Key : PySem.W.nsIn K mainGlobals "Key" = some (some (.ref Γ.key)))
    (a_Sleep : PySem.W.nsIn K mainGlobals "Sleep" = some (some (.ref Γ.sleep)))
    (a_Wake : PySem.W.nsIn K mainGlobals "Wake" = some (some (.ref Γ.wake)))
    (a_Line : PySem.W.nsIn K mainGlobals "Line" = some (some (.ref Γ.line)))
    (a_Running : PySem.W.nsIn K mainGlobals "Running" = some (some (.ref c_Running)))
    (a_Trying : PySem.W.nsIn K mainGlobals "Trying" = some (some (.ref c_Trying)))
    (a_Finishing : PySem.W.nsIn K mainGlobals "Finishing" = some (some (.ref c_Finishing)))
    (g_GAP : PySem.W.nsIn K mainGlobals "GAP" = some (some .none))
    (g_NOT_THERE : PySem.W.nsIn K mainGlobals "NOT_THERE" = some (some (.int (-1) t_NOT_THERE)))
    (g_DISTURBED : PySem.W.nsIn K mainGlobals "DISTURBED" = some (some (.int (-2) t_DISTURBED)))
    (g_NO_SUCH_SLICE : PySem.W.nsIn K mainGlobals "NO_SUCH_SLICE" = some (some (.int (-3) t_NO_SUCH_SLICE)))
    (g_OUT_OF_RANGE : PySem.W.nsIn K mainGlobals "OUT_OF_RANGE" = some (some (.int (-4) t_OUT_OF_RANGE)))
    (g_TRIES : PySem.W.nsIn K mainGlobals "TRIES" = some (some (.int 3 t_TRIES)))
    (g_SLOTS : PySem.W.nsIn K mainGlobals "SLOTS" = some (some (.int 2 t_SLOTS)))
    (g_WORDS : PySem.W.nsIn K mainGlobals "WORDS" = some (some (.int 4 t_WORDS)))
    (g_MARKS_OF_A_WORD : PySem.W.nsIn K mainGlobals "MARKS_OF_A_WORD" = some (some (.int 8 t_MARKS_OF_A_WORD)))
    (g_MOST_SLICES : PySem.W.nsIn K mainGlobals "MOST_SLICES" = some (some (.int 32 t_MOST_SLICES)))
    (g_PHASE_FREE : PySem.W.nsIn K mainGlobals "PHASE_FREE" = some (some (.int 0 t_PHASE_FREE)))
    (g_PHASE_LAID : PySem.W.nsIn K mainGlobals "PHASE_LAID" = some (some (.int 1 t_PHASE_LAID)))
    (g_PHASE_OPEN : PySem.W.nsIn K mainGlobals "PHASE_OPEN" = some (some (.int 2 t_PHASE_OPEN)))
    (g_PHASE_FINISHED : PySem.W.nsIn K mainGlobals "PHASE_FINISHED" = some (some (.int 4 t_PHASE_FINISHED)))
    (g_STAMP : PySem.W.nsIn K mainGlobals "STAMP" = some (some (.int 0 t_STAMP)))
    (g_PHASE : PySem.W.nsIn K mainGlobals "PHASE" = some (some (.int 1 t_PHASE)))
    (g_GIVEN : PySem.W.nsIn K mainGlobals "GIVEN" = some (some (.int 1 t_GIVEN)))
    (g_STOPPED : PySem.W.nsIn K mainGlobals "STOPPED" = some (some (.int 2 t_STOPPED)))
    (g_MARKS : PySem.W.nsIn K mainGlobals "MARKS" = some (some (.int 1 t_MARKS)))
    (g_CLAIM : PySem.W.nsIn K mainGlobals "CLAIM" = some (some (.int 0 t_CLAIM)))
    (g_LAY : PySem.W.nsIn K mainGlobals "LAY" = some (some (.int 1 t_LAY)))
    (g_SHOW : PySem.W.nsIn K mainGlobals "SHOW" = some (some (.int 2 t_SHOW)))
    (g_ALREADY : PySem.W.nsIn K mainGlobals "ALREADY" = some (some (.int 2 t_ALREADY)))
    (g_PARTIES : PySem.W.nsIn K mainGlobals "PARTIES" = some (some (.int 4 t_PARTIES)))
    (g_OFFER : PySem.W.nsIn K mainGlobals "OFFER" = some (some (.int 0 t_OFFER)))
    (g_TAKE : PySem.W.nsIn K mainGlobals "TAKE" = some (some (.int 1 t_TAKE)))
    (g_AGAIN : PySem.W.nsIn K mainGlobals "AGAIN" = some (some (.int 2 t_AGAIN)))
    (g_DONE : PySem.W.nsIn K mainGlobals "DONE" = some (some (.int 3 t_DONE)))
    (g_STOP : PySem.W.nsIn K mainGlobals "STOP" = some (some (.int 4 t_STOP)))
    (g_LOOK : PySem.W.nsIn K mainGlobals "LOOK" = some (some (.int 5 t_LOOK)))
    (g_CLEAR : PySem.W.nsIn K mainGlobals "CLEAR" = some (some (.int 6 t_CLEAR)))
    (g_KEY : PySem.W.nsIn K mainGlobals "KEY" = some (some (.int 7 t_KEY)))
    (g_SLEEP : PySem.W.nsIn K mainGlobals "SLEEP" = some (some (.int 8 t_SLEEP)))
    (g_GO : PySem.W.nsIn K mainGlobals "GO" = some (some (.int 10 t_GO)))
    (g_GONE : PySem.W.nsIn K mainGlobals "GONE" = some (some (.int 11 t_GONE)))
    (g_BOARD : PySem.W.nsIn K mainGlobals "BOARD" = some (some (.int 12 t_BOARD)))
    (g_AT_GAP : PySem.W.nsIn K mainGlobals "AT_GAP" = some (some (.int 0 t_AT_GAP)))
    (g_AT_END : PySem.W.nsIn K mainGlobals "AT_END" = some (some (.int 1 t_AT_END)))
    (g_IS_GONE : PySem.W.nsIn K mainGlobals "IS_GONE" = some (some (.int 2 t_IS_GONE)))
    (g_IS_BOARD : PySem.W.nsIn K mainGlobals "IS_BOARD" = some (some (.int 3 t_IS_BOARD)))
    (g_NO_PARTY : PySem.W.nsIn K mainGlobals "NO_PARTY" = some (some (.int (-1) t_NO_PARTY)))
    (g_OUT_OF_TURN : PySem.W.nsIn K mainGlobals "OUT_OF_TURN" = some (some (.int (-9) t_OUT_OF_TURN)))
    (b_len : PySem.W.nsIn K mainGlobals "len" = some none)
    (b_min : PySem.W.nsIn K mainGlobals "min" = some none)
    (b_list : PySem.W.nsIn K mainGlobals "list" = some none)
    (b_tuple : PySem.W.nsIn K mainGlobals "tuple" = some none)
    (b_range : PySem.W.nsIn K mainGlobals "range" = some none)
    (g_NO_MARKS : PySem.W.nsIn K mainGlobals "NO_MARKS" = some (some (.ref Γ.nm)))
    (g_NUMBERS : PySem.W.nsIn K mainGlobals "NUMBERS" = some (some (.ref Γ.nums)))
    (l_nm : K.lookup Γ.nm = some o_nm)
    (l_nums : K.lookup Γ.nums = some o_nums)
    (v_nm : tupV o_nm = some (List.replicate 8 (.int 0)))
    (v_nums : tupV o_nums = some numsV)
    (pg_slot : PySem.W.plainGet K Γ.slot Str.empty = true)
    (hd_slot : PySem.W.hasDictIn K Γ.slot = true)
    (po_slot : PySem.W.plainOver K Γ.slot = true)
    (sa_slot : PySem.W.findIn K (.ref Γ.slot) "__setattr__" = some (some (.builtin "object.__setattr__")))
    (n_slot_state : PySem.W.findIn K (.ref Γ.slot) "state" = some none)
    (n_slot_giving : PySem.W.findIn K (.ref Γ.slot) "giving" = some none)
    (n_slot_slices : PySem.W.findIn K (.ref Γ.slot) "slices" = some none)
    (n_slot_kind : PySem.W.findIn K (.ref Γ.slot) "kind" = some none)
    (n_slot_job : PySem.W.findIn K (.ref Γ.slot) "job" = some none)
    (n_slot_words : PySem.W.findIn K (.ref Γ.slot) "words" = some none)
    (pg_board : PySem.W.plainGet K Γ.board Str.empty = true)
    (hd_board : PySem.W.hasDictIn K Γ.board = true)
    (po_board : PySem.W.plainOver K Γ.board = true)
    (sa_board : PySem.W.findIn K (.ref Γ.board) "__setattr__" = some (some (.builtin "object.__setattr__")))
    (n_board_event : PySem.W.findIn K (.ref Γ.board) "event" = some none)
    (n_board_slots : PySem.W.findIn K (.ref Γ.board) "slots" = some none)
    (pg_again : PySem.W.plainGet K Γ.again Str.empty = true)
    (hd_again : PySem.W.hasDictIn K Γ.again = true)
    (po_again : PySem.W.plainOver K Γ.again = true)
    (sa_again : PySem.W.findIn K (.ref Γ.again) "__setattr__" = some (some (.builtin "object.__setattr__")))
    (n_again_place : PySem.W.findIn K (.ref Γ.again) "place" = some none)
    (n_again_fails : PySem.W.findIn K (.ref Γ.again) "fails" = some none)
    (n_again_ticket : PySem.W.findIn K (.ref Γ.again) "ticket" = some none)
    (pg_look : PySem.W.plainGet K Γ.look Str.empty = true)
    (hd_look : PySem.W.hasDictIn K Γ.look = true)
    (po_look : PySem.W.plainOver K Γ.look = true)
    (sa_look : PySem.W.findIn K (.ref Γ.look) "__setattr__" = some (some (.builtin "object.__setattr__")))
    (n_look_place : PySem.W.findIn K (.ref Γ.look) "place" = some none)
    (n_look_fails : PySem.W.findIn K (.ref Γ.look) "fails" = some none)
    (n_look_ticket : PySem.W.findIn K (.ref Γ.look) "ticket" = some none)
    (pg_offer : PySem.W.plainGet K Γ.offer Str.empty = true)
    (hd_offer : PySem.W.hasDictIn K Γ.offer = true)
    (po_offer : PySem.W.plainOver K Γ.offer = true)
    (sa_offer : PySem.W.findIn K (.ref Γ.offer) "__setattr__" = some (some (.builtin "object.__setattr__")))
    (n_offer_place : PySem.W.findIn K (.ref Γ.offer) "place" = some none)
    (n_offer_fails : PySem.W.findIn K (.ref Γ.offer) "fails" = some none)
    (n_offer_slices : PySem.W.findIn K (.ref Γ.offer) "slices" = some none)
    (n_offer_kind : PySem.W.findIn K (.ref Γ.offer) "kind" = some none)
    (n_offer_job : PySem.W.findIn K (.ref Γ.offer) "job" = some none)
    (n_offer_at : PySem.W.findIn K (.ref Γ.offer) "at" = some none)
    (n_offer_seen : PySem.W.findIn K (.ref Γ.offer) "seen" = some none)
    (n_offer_stage : PySem.W.findIn K (.ref Γ.offer) "stage" = some none)
    (pg_take : PySem.W.plainGet K Γ.take Str.empty = true)
    (hd_take : PySem.W.hasDictIn K Γ.take = true)
    (po_take : PySem.W.plainOver K Γ.take = true)
    (sa_take : PySem.W.findIn K (.ref Γ.take) "__setattr__" = some (some (.builtin "object.__setattr__")))
    (n_take_place : PySem.W.findIn K (.ref Γ.take) "place" = some none)
    (n_take_fails : PySem.W.findIn K (.ref Γ.take) "fails" = some none)
    (n_take_at : PySem.W.findIn K (.ref Γ.take) "at" = some none)
    (n_take_seen : PySem.W.findIn K (.ref Γ.take) "seen" = some none)
    (n_take_told : PySem.W.findIn K (.ref Γ.take) "told" = some none)
    (pg_done : PySem.W.plainGet K Γ.done Str.empty = true)
    (hd_done : PySem.W.hasDictIn K Γ.done = true)
    (po_done : PySem.W.plainOver K Γ.done = true)
    (sa_done : PySem.W.findIn K (.ref Γ.done) "__setattr__" = some (some (.builtin "object.__setattr__")))
    (n_done_place : PySem.W.findIn K (.ref Γ.done) "place" = some none)
    (n_done_fails : PySem.W.findIn K (.ref Γ.done) "fails" = some none)
    (n_done_seen : PySem.W.findIn K (.ref Γ.done) "seen" = some none)
    (n_done_ticket : PySem.W.findIn K (.ref Γ.done) "ticket" = some none)
    (n_done_stamp : PySem.W.findIn K (.ref Γ.done) "stamp" = some none)
    (n_done_written : PySem.W.findIn K (.ref Γ.done) "written" = some none)
    (n_done_k : PySem.W.findIn K (.ref Γ.done) "k" = some none)
    (pg_stop : PySem.W.plainGet K Γ.stop Str.empty = true)
    (hd_stop : PySem.W.hasDictIn K Γ.stop = true)
    (po_stop : PySem.W.plainOver K Γ.stop = true)
    (sa_stop : PySem.W.findIn K (.ref Γ.stop) "__setattr__" = some (some (.builtin "object.__setattr__")))
    (n_stop_place : PySem.W.findIn K (.ref Γ.stop) "place" = some none)
    (n_stop_fails : PySem.W.findIn K (.ref Γ.stop) "fails" = some none)
    (n_stop_seen : PySem.W.findIn K (.ref Γ.stop) "seen" = some none)
    (n_stop_ticket : PySem.W.findIn K (.ref Γ.stop) "ticket" = some none)
    (n_stop_stamp : PySem.W.findIn K (.ref Γ.stop) "stamp" = some none)
    (n_stop_written : PySem.W.findIn K (.ref Γ.stop) "written" = some none)
    (pg_clear : PySem.W.plainGet K Γ.clear Str.empty = true)
    (hd_clear : PySem.W.hasDictIn K Γ.clear = true)
    (po_clear : PySem.W.plainOver K Γ.clear = true)
    (sa_clear : PySem.W.findIn K (.ref Γ.clear) "__setattr__" = some (some (.builtin "object.__setattr__")))
    (n_clear_place : PySem.W.findIn K (.ref Γ.clear) "place" = some none)
    (n_clear_fails : PySem.W.findIn K (.ref Γ.clear) "fails" = some none)
    (n_clear_seen : PySem.W.findIn K (.ref Γ.clear) "seen" = some none)
    (n_clear_ticket : PySem.W.findIn K (.ref Γ.clear) "ticket" = some none)
    (n_clear_stamp : PySem.W.findIn K (.ref Γ.clear) "stamp" = some none)
    (pg_key : PySem.W.plainGet K Γ.key Str.empty = true)
    (hd_key : PySem.W.hasDictIn K Γ.key = true)
    (po_key : PySem.W.plainOver K Γ.key = true)
    (sa_key : PySem.W.findIn K (.ref Γ.key) "__setattr__" = some (some (.builtin "object.__setattr__")))
    (n_key_place : PySem.W.findIn K (.ref Γ.key) "place" = some none)
    (n_key_fails : PySem.W.findIn K (.ref Γ.key) "fails" = some none)
    (pg_sleep : PySem.W.plainGet K Γ.sleep Str.empty = true)
    (hd_sleep : PySem.W.hasDictIn K Γ.sleep = true)
    (po_sleep : PySem.W.plainOver K Γ.sleep = true)
    (sa_sleep : PySem.W.findIn K (.ref Γ.sleep) "__setattr__" = some (some (.builtin "object.__setattr__")))
    (n_sleep_place : PySem.W.findIn K (.ref Γ.sleep) "place" = some none)
    (n_sleep_fails : PySem.W.findIn K (.ref Γ.sleep) "fails" = some none)
    (n_sleep_number : PySem.W.findIn K (.ref Γ.sleep) "number" = some none)
    (pg_wake : PySem.W.plainGet K Γ.wake Str.empty = true)
    (hd_wake : PySem.W.hasDictIn K Γ.wake = true)
    (po_wake : PySem.W.plainOver K Γ.wake = true)
    (sa_wake : PySem.W.findIn K (.ref Γ.wake) "__setattr__" = some (some (.builtin "object.__setattr__")))
    (n_wake_place : PySem.W.findIn K (.ref Γ.wake) "place" = some none)
    (n_wake_fails : PySem.W.findIn K (.ref Γ.wake) "fails" = some none)
    (n_wake_seen : PySem.W.findIn K (.ref Γ.wake) "seen" = some none)
    (pg_line : PySem.W.plainGet K Γ.line Str.empty = true)
    (hd_line : PySem.W.hasDictIn K Γ.line = true)
    (po_line : PySem.W.plainOver K Γ.line = true)
    (sa_line : PySem.W.findIn K (.ref Γ.line) "__setattr__" = some (some (.builtin "object.__setattr__")))
    (n_line_board : PySem.W.findIn K (.ref Γ.line) "board" = some none)
    (n_line_running : PySem.W.findIn K (.ref Γ.line) "running" = some none)
    (x_ticket_of : PySem.W.nsIn K mainGlobals "ticket_of" = some (some (.ref f_ticket_of)))
    (x_stamp_of : PySem.W.nsIn K mainGlobals "stamp_of" = some (some (.ref f_stamp_of)))
    (x_is_even : PySem.W.nsIn K mainGlobals "is_even" = some (some (.ref f_is_even)))
    (x_slot_of : PySem.W.nsIn K mainGlobals "slot_of" = some (some (.ref f_slot_of)))
    (x_has_phase : PySem.W.nsIn K mainGlobals "has_phase" = some (some (.ref f_has_phase)))
    (x_limit_of : PySem.W.nsIn K mainGlobals "limit_of" = some (some (.ref f_limit_of)))
    (x_given_of : PySem.W.nsIn K mainGlobals "given_of" = some (some (.ref f_given_of)))
    (x_is_marked : PySem.W.nsIn K mainGlobals "is_marked" = some (some (.ref f_is_marked)))
    (x_with_mark : PySem.W.nsIn K mainGlobals "with_mark" = some (some (.ref f_with_mark)))
    (x_is_done : PySem.W.nsIn K mainGlobals "is_done" = some (some (.ref f_is_done)))
    (x_count_done : PySem.W.nsIn K mainGlobals "count_done" = some (some (.ref f_count_done)))
    (x_is_complete : PySem.W.nsIn K mainGlobals "is_complete" = some (some (.ref f_is_complete)))
    (x_unmarked_words : PySem.W.nsIn K mainGlobals "unmarked_words" = some (some (.ref f_unmarked_words)))
    (x_has_slice_left : PySem.W.nsIn K mainGlobals "has_slice_left" = some (some (.ref f_has_slice_left)))
    (x_tell_board : PySem.W.nsIn K mainGlobals "tell_board" = some (some (.ref f_tell_board)))
    (x_new_call : PySem.W.nsIn K mainGlobals "new_call" = some (some (.ref f_new_call)))
    (x_after_step : PySem.W.nsIn K mainGlobals "after_step" = some (some (.ref f_after_step)))
    (x_answer_call : PySem.W.nsIn K mainGlobals "answer_call" = some (some (.ref f_answer_call)))
    (x_answers : PySem.W.nsIn K mainGlobals "answers" = some (some (.ref f_answers)))
    (x_Running_init : PySem.W.findCls K (.ref c_Running) (.type "type") "__init__" = some (.val (.ref f_Running_init)))
    (r_Running : PySem.W.readsIn K c_Running (.type "type") = true)
    (s_Running : PySem.W.specialIn K (.ref c_Running) "__getattribute__" = some (some (.builtin "type.__getattribute__")))
    (x_Trying_init : PySem.W.findCls K (.ref c_Trying) (.type "type") "__init__" = some (.val (.ref f_Trying_init)))
    (r_Trying : PySem.W.readsIn K c_Trying (.type "type") = true)
    (s_Trying : PySem.W.specialIn K (.ref c_Trying) "__getattribute__" = some (some (.builtin "type.__getattribute__")))
    (x_Finishing_init : PySem.W.findCls K (.ref c_Finishing) (.type "type") "__init__" = some (.val (.ref f_Finishing_init)))
    (r_Finishing : PySem.W.readsIn K c_Finishing (.type "type") = true)
    (s_Finishing : PySem.W.specialIn K (.ref c_Finishing) "__getattribute__" = some (some (.builtin "type.__getattribute__")))
    (m_slot_init : PySem.W.findIn K (.ref Γ.slot) "__init__" = some (some (.ref f_Slot_init)))
    (mk_slot : PySem.W.makesIn K Γ.slot = true)
    (kc_slot : PySem.W.keepIn K (.ref Γ.slot) = true)
    (m_board_init : PySem.W.findIn K (.ref Γ.board) "__init__" = some (some (.ref f_Board_init)))
    (mk_board : PySem.W.makesIn K Γ.board = true)
    (kc_board : PySem.W.keepIn K (.ref Γ.board) = true)
    (m_again_init : PySem.W.findIn K (.ref Γ.again) "__init__" = some (some (.ref f_Again_init)))
    (mk_again : PySem.W.makesIn K Γ.again = true)
    (kc_again : PySem.W.keepIn K (.ref Γ.again) = true)
    (m_look_init : PySem.W.findIn K (.ref Γ.look) "__init__" = some (some (.ref f_Look_init)))
    (mk_look : PySem.W.makesIn K Γ.look = true)
    (kc_look : PySem.W.keepIn K (.ref Γ.look) = true)
    (m_offer_init : PySem.W.findIn K (.ref Γ.offer) "__init__" = some (some (.ref f_Offer_init)))
    (mk_offer : PySem.W.makesIn K Γ.offer = true)
    (kc_offer : PySem.W.keepIn K (.ref Γ.offer) = true)
    (m_take_init : PySem.W.findIn K (.ref Γ.take) "__init__" = some (some (.ref f_Take_init)))
    (mk_take : PySem.W.makesIn K Γ.take = true)
    (kc_take : PySem.W.keepIn K (.ref Γ.take) = true)
    (m_done_init : PySem.W.findIn K (.ref Γ.done) "__init__" = some (some (.ref f_Done_init)))
    (mk_done : PySem.W.makesIn K Γ.done = true)
    (kc_done : PySem.W.keepIn K (.ref Γ.done) = true)
    (m_stop_init : PySem.W.findIn K (.ref Γ.stop) "__init__" = some (some (.ref f_Finishing_init)))
    (mk_stop : PySem.W.makesIn K Γ.stop = true)
    (kc_stop : PySem.W.keepIn K (.ref Γ.stop) = true)
    (m_clear_init : PySem.W.findIn K (.ref Γ.clear) "__init__" = some (some (.ref f_Clear_init)))
    (mk_clear : PySem.W.makesIn K Γ.clear = true)
    (kc_clear : PySem.W.keepIn K (.ref Γ.clear) = true)
    (m_key_init : PySem.W.findIn K (.ref Γ.key) "__init__" = some (some (.ref f_Running_init)))
    (mk_key : PySem.W.makesIn K Γ.key = true)
    (kc_key : PySem.W.keepIn K (.ref Γ.key) = true)
    (m_sleep_init : PySem.W.findIn K (.ref Γ.sleep) "__init__" = some (some (.ref f_Sleep_init)))
    (mk_sleep : PySem.W.makesIn K Γ.sleep = true)
    (kc_sleep : PySem.W.keepIn K (.ref Γ.sleep) = true)
    (m_wake_init : PySem.W.findIn K (.ref Γ.wake) "__init__" = some (some (.ref f_Trying_init)))
    (mk_wake : PySem.W.makesIn K Γ.wake = true)
    (kc_wake : PySem.W.keepIn K (.ref Γ.wake) = true)
    (m_line_init : PySem.W.findIn K (.ref Γ.line) "__init__" = some (some (.ref f_Line_init)))
    (mk_line : PySem.W.makesIn K Γ.line = true)
    (kc_line : PySem.W.keepIn K (.ref Γ.line) = true)
    (m_offer_begin : PySem.W.findIn K (.ref Γ.offer) "begin" = some (some (.ref f_Offer_begin)))
    (m_offer_go_on : PySem.W.findIn K (.ref Γ.offer) "go_on" = some (some (.ref f_Offer_go_on)))
    (m_offer_seek : PySem.W.findIn K (.ref Γ.offer) "seek" = some (some (.ref f_Offer_seek)))
    (m_offer_claim : PySem.W.findIn K (.ref Γ.offer) "claim" = some (some (.ref f_Offer_claim)))
    (m_offer_lay : PySem.W.findIn K (.ref Γ.offer) "lay" = some (some (.ref f_Offer_lay)))
    (m_offer_show : PySem.W.findIn K (.ref Γ.offer) "show" = some (some (.ref f_Offer_show)))
    (m_take_begin : PySem.W.findIn K (.ref Γ.take) "begin" = some (some (.ref f_Take_begin)))
    (m_take_go_on : PySem.W.findIn K (.ref Γ.take) "go_on" = some (some (.ref f_Take_go_on)))
    (m_take_seek : PySem.W.findIn K (.ref Γ.take) "seek" = some (some (.ref f_Take_seek)))
    (m_take_keep : PySem.W.findIn K (.ref Γ.take) "keep" = some (some (.ref f_Take_keep)))
    (m_again_begin : PySem.W.findIn K (.ref Γ.again) "begin" = some (some (.ref f_Again_begin)))
    (m_look_begin : PySem.W.findIn K (.ref Γ.look) "begin" = some (some (.ref f_Look_begin)))
    (m_look_go_on : PySem.W.findIn K (.ref Γ.look) "go_on" = some (some (.ref f_Look_go_on)))
    (m_look_ended : PySem.W.findIn K (.ref Γ.look) "ended" = some (some (.ref f_Look_ended)))
    (m_done_begin : PySem.W.findIn K (.ref Γ.done) "begin" = some (some (.ref f_Done_begin)))
    (m_done_look_up : PySem.W.findIn K (.ref Γ.done) "look_up" = some (some (.ref f_Done_look_up)))
    (m_done_judge : PySem.W.findIn K (.ref Γ.done) "judge" = some (some (.ref f_Done_judge)))
    (m_done_write : PySem.W.findIn K (.ref Γ.done) "write" = some (some (.ref f_Done_write)))
    (m_done_ended : PySem.W.findIn K (.ref Γ.done) "ended" = some (some (.ref f_Done_ended)))
    (m_done_go_on : PySem.W.findIn K (.ref Γ.done) "go_on" = some (some (.ref f_Finishing_go_on)))
    (m_done_begin_finish : PySem.W.findIn K (.ref Γ.done) "begin_finish" = some (some (.ref f_Finishing_begin_finish)))
    (m_done_finish : PySem.W.findIn K (.ref Γ.done) "finish" = some (some (.ref f_Finishing_finish)))
    (m_stop_begin : PySem.W.findIn K (.ref Γ.stop) "begin" = some (some (.ref f_Stop_begin)))
    (m_stop_look_up : PySem.W.findIn K (.ref Γ.stop) "look_up" = some (some (.ref f_Stop_look_up)))
    (m_stop_judge : PySem.W.findIn K (.ref Γ.stop) "judge" = some (some (.ref f_Stop_judge)))
    (m_stop_write : PySem.W.findIn K (.ref Γ.stop) "write" = some (some (.ref f_Stop_write)))
    (m_stop_ended : PySem.W.findIn K (.ref Γ.stop) "ended" = some (some (.ref f_Stop_ended)))
    (m_stop_go_on : PySem.W.findIn K (.ref Γ.stop) "go_on" = some (some (.ref f_Finishing_go_on)))
    (m_stop_begin_finish : PySem.W.findIn K (.ref Γ.stop) "begin_finish" = some (some (.ref f_Finishing_begin_finish)))
    (m_stop_finish : PySem.W.findIn K (.ref Γ.stop) "finish" = some (some (.ref f_Finishing_finish)))
    (m_clear_begin : PySem.W.findIn K (.ref Γ.clear) "begin" = some (some (.ref f_Clear_begin)))
    (m_clear_go_on : PySem.W.findIn K (.ref Γ.clear) "go_on" = some (some (.ref f_Clear_go_on)))
    (m_clear_look_up : PySem.W.findIn K (.ref Γ.clear) "look_up" = some (some (.ref f_Clear_look_up)))
    (m_clear_judge : PySem.W.findIn K (.ref Γ.clear) "judge" = some (some (.ref f_Clear_judge)))
    (m_clear_write : PySem.W.findIn K (.ref Γ.clear) "write" = some (some (.ref f_Clear_write)))
    (m_wake_begin : PySem.W.findIn K (.ref Γ.wake) "begin" = some (some (.ref f_Wake_begin)))
    (m_wake_go_on : PySem.W.findIn K (.ref Γ.wake) "go_on" = some (some (.ref f_Wake_go_on)))
    (m_wake_look_up : PySem.W.findIn K (.ref Γ.wake) "look_up" = some (some (.ref f_Wake_look_up)))
    (m_wake_judge : PySem.W.findIn K (.ref Γ.wake) "judge" = some (some (.ref f_Wake_judge)))
    (m_wake_write : PySem.W.findIn K (.ref Γ.wake) "write" = some (some (.ref f_Wake_write)))
    (m_key_begin : PySem.W.findIn K (.ref Γ.key) "begin" = some (some (.ref f_Key_begin)))
    (m_key_go_on : PySem.W.findIn K (.ref Γ.key) "go_on" = some (some (.ref f_Key_go_on)))
    (m_sleep_begin : PySem.W.findIn K (.ref Γ.sleep) "begin" = some (some (.ref f_Sleep_begin)))
    (m_done_attempt : PySem.W.findIn K (.ref Γ.done) "attempt" = some (some (.ref f_Trying_attempt)))
    (m_done_compare : PySem.W.findIn K (.ref Γ.done) "compare" = some (some (.ref f_Trying_compare)))
    (m_stop_attempt : PySem.W.findIn K (.ref Γ.stop) "attempt" = some (some (.ref f_Trying_attempt)))
    (m_stop_compare : PySem.W.findIn K (.ref Γ.stop) "compare" = some (some (.ref f_Trying_compare)))
    (m_clear_attempt : PySem.W.findIn K (.ref Γ.clear) "attempt" = some (some (.ref f_Trying_attempt)))
    (m_clear_compare : PySem.W.findIn K (.ref Γ.clear) "compare" = some (some (.ref f_Trying_compare)))
    (m_wake_attempt : PySem.W.findIn K (.ref Γ.wake) "attempt" = some (some (.ref f_Trying_attempt)))
    (m_wake_compare : PySem.W.findIn K (.ref Γ.wake) "compare" = some (some (.ref f_Trying_compare)))
    (m_offer_is_last_fail : PySem.W.findIn K (.ref Γ.offer) "is_last_fail" = some (some (.ref f_Running_is_last_fail)))
    (m_take_is_last_fail : PySem.W.findIn K (.ref Γ.take) "is_last_fail" = some (some (.ref f_Running_is_last_fail)))
    (m_done_is_last_fail : PySem.W.findIn K (.ref Γ.done) "is_last_fail" = some (some (.ref f_Running_is_last_fail)))
    (m_stop_is_last_fail : PySem.W.findIn K (.ref Γ.stop) "is_last_fail" = some (some (.ref f_Running_is_last_fail)))
    (m_clear_is_last_fail : PySem.W.findIn K (.ref Γ.clear) "is_last_fail" = some (some (.ref f_Running_is_last_fail)))
    (m_wake_is_last_fail : PySem.W.findIn K (.ref Γ.wake) "is_last_fail" = some (some (.ref f_Running_is_last_fail)))
    (F_ticket_of : FF K "ticket_of" "ticket_of" s_ticket_of f_ticket_of)
    (F_stamp_of : FF K "stamp_of" "stamp_of" s_stamp_of f_stamp_of)
    (F_is_even : FF K "is_even" "is_even" s_is_even f_is_even)
    (F_slot_of : FF K "slot_of" "slot_of" s_slot_of f_slot_of)
    (F_has_phase : FF K "has_phase" "has_phase" s_has_phase f_has_phase)
    (F_limit_of : FF K "limit_of" "limit_of" s_limit_of f_limit_of)
    (F_given_of : FF K "given_of" "given_of" s_given_of f_given_of)
    (F_is_marked : FF K "is_marked" "is_marked" s_is_marked f_is_marked)
    (F_with_mark : FF K "with_mark" "with_mark" s_with_mark f_with_mark)
    (F_is_done : FF K "is_done" "is_done" s_is_done f_is_done)
    (F_count_done : FF K "count_done" "count_done" s_count_done f_count_done)
    (F_is_complete : FF K "is_complete" "is_complete" s_is_complete f_is_complete)
    (F_unmarked_words : FF K "unmarked_words" "unmarked_words" s_unmarked_words f_unmarked_words)
    (F_has_slice_left : FF K "has_slice_left" "has_slice_left" s_has_slice_left f_has_slice_left)
    (F_tell_board : FF K "tell_board" "tell_board" s_tell_board f_tell_board)
    (F_new_call : FF K "new_call" "new_call" s_new_call f_new_call)
    (F_after_step : FF K "after_step" "after_step" s_after_step f_after_step)
    (F_answer_call : FF K "answer_call" "answer_call" s_answer_call f_answer_call)
    (F_answers : FF K "answers" "answers" s_answers f_answers)
    (F_Running_init : FF K "__init__" "Running.__init__" s_Running_init f_Running_init)
    (i_Running_init : PySem.W.isFn K (.ref f_Running_init) = true)
    (F_Trying_init : FF K "__init__" "Trying.__init__" s_Trying_init f_Trying_init)
    (i_Trying_init : PySem.W.isFn K (.ref f_Trying_init) = true)
    (F_Finishing_init : FF K "__init__" "Finishing.__init__" s_Finishing_init f_Finishing_init)
    (i_Finishing_init : PySem.W.isFn K (.ref f_Finishing_init) = true)
    (F_Slot_init : FF K "__init__" "Slot.__init__" s_Slot_init f_Slot_init)
    (i_Slot_init : PySem.W.isFn K (.ref f_Slot_init) = true)
    (F_Board_init : FF K "__init__" "Board.__init__" s_Board_init f_Board_init)
    (i_Board_init : PySem.W.isFn K (.ref f_Board_init) = true)
    (F_Again_init : FF K "__init__" "Again.__init__" s_Again_init f_Again_init)
    (i_Again_init : PySem.W.isFn K (.ref f_Again_init) = true)
    (F_Look_init : FF K "__init__" "Look.__init__" s_Look_init f_Look_init)
    (i_Look_init : PySem.W.isFn K (.ref f_Look_init) = true)
    (F_Offer_init : FF K "__init__" "Offer.__init__" s_Offer_init f_Offer_init)
    (i_Offer_init : PySem.W.isFn K (.ref f_Offer_init) = true)
    (F_Take_init : FF K "__init__" "Take.__init__" s_Take_init f_Take_init)
    (i_Take_init : PySem.W.isFn K (.ref f_Take_init) = true)
    (F_Done_init : FF K "__init__" "Done.__init__" s_Done_init f_Done_init)
    (i_Done_init : PySem.W.isFn K (.ref f_Done_init) = true)
    (F_Clear_init : FF K "__init__" "Clear.__init__" s_Clear_init f_Clear_init)
    (i_Clear_init : PySem.W.isFn K (.ref f_Clear_init) = true)
    (F_Sleep_init : FF K "__init__" "Sleep.__init__" s_Sleep_init f_Sleep_init)
    (i_Sleep_init : PySem.W.isFn K (.ref f_Sleep_init) = true)
    (F_Line_init : FF K "__init__" "Line.__init__" s_Line_init f_Line_init)
    (i_Line_init : PySem.W.isFn K (.ref f_Line_init) = true)
    (F_Offer_begin : FF K "begin" "Offer.begin" s_Offer_begin f_Offer_begin)
    (i_Offer_begin : PySem.W.isFn K (.ref f_Offer_begin) = true)
    (F_Offer_go_on : FF K "go_on" "Offer.go_on" s_Offer_go_on f_Offer_go_on)
    (i_Offer_go_on : PySem.W.isFn K (.ref f_Offer_go_on) = true)
    (F_Offer_seek : FF K "seek" "Offer.seek" s_Offer_seek f_Offer_seek)
    (i_Offer_seek : PySem.W.isFn K (.ref f_Offer_seek) = true)
    (F_Offer_claim : FF K "claim" "Offer.claim" s_Offer_claim f_Offer_claim)
    (i_Offer_claim : PySem.W.isFn K (.ref f_Offer_claim) = true)
    (F_Offer_lay : FF K "lay" "Offer.lay" s_Offer_lay f_Offer_lay)
    (i_Offer_lay : PySem.W.isFn K (.ref f_Offer_lay) = true)
    (F_Offer_show : FF K "show" "Offer.show" s_Offer_show f_Offer_show)
    (i_Offer_show : PySem.W.isFn K (.ref f_Offer_show) = true)
    (F_Take_begin : FF K "begin" "Take.begin" s_Take_begin f_Take_begin)
    (i_Take_begin : PySem.W.isFn K (.ref f_Take_begin) = true)
    (F_Take_go_on : FF K "go_on" "Take.go_on" s_Take_go_on f_Take_go_on)
    (i_Take_go_on : PySem.W.isFn K (.ref f_Take_go_on) = true)
    (F_Take_seek : FF K "seek" "Take.seek" s_Take_seek f_Take_seek)
    (i_Take_seek : PySem.W.isFn K (.ref f_Take_seek) = true)
    (F_Take_keep : FF K "keep" "Take.keep" s_Take_keep f_Take_keep)
    (i_Take_keep : PySem.W.isFn K (.ref f_Take_keep) = true)
    (F_Again_begin : FF K "begin" "Again.begin" s_Again_begin f_Again_begin)
    (i_Again_begin : PySem.W.isFn K (.ref f_Again_begin) = true)
    (F_Look_begin : FF K "begin" "Look.begin" s_Look_begin f_Look_begin)
    (i_Look_begin : PySem.W.isFn K (.ref f_Look_begin) = true)
    (F_Look_go_on : FF K "go_on" "Look.go_on" s_Look_go_on f_Look_go_on)
    (i_Look_go_on : PySem.W.isFn K (.ref f_Look_go_on) = true)
    (F_Look_ended : FF K "ended" "Look.ended" s_Look_ended f_Look_ended)
    (i_Look_ended : PySem.W.isFn K (.ref f_Look_ended) = true)
    (F_Done_begin : FF K "begin" "Done.begin" s_Done_begin f_Done_begin)
    (i_Done_begin : PySem.W.isFn K (.ref f_Done_begin) = true)
    (F_Done_look_up : FF K "look_up" "Done.look_up" s_Done_look_up f_Done_look_up)
    (i_Done_look_up : PySem.W.isFn K (.ref f_Done_look_up) = true)
    (F_Done_judge : FF K "judge" "Done.judge" s_Done_judge f_Done_judge)
    (i_Done_judge : PySem.W.isFn K (.ref f_Done_judge) = true)
    (F_Done_write : FF K "write" "Done.write" s_Done_write f_Done_write)
    (i_Done_write : PySem.W.isFn K (.ref f_Done_write) = true)
    (F_Done_ended : FF K "ended" "Done.ended" s_Done_ended f_Done_ended)
    (i_Done_ended : PySem.W.isFn K (.ref f_Done_ended) = true)
    (F_Finishing_go_on : FF K "go_on" "Finishing.go_on" s_Finishing_go_on f_Finishing_go_on)
    (i_Finishing_go_on : PySem.W.isFn K (.ref f_Finishing_go_on) = true)
    (F_Finishing_begin_finish : FF K "begin_finish" "Finishing.begin_finish" s_Finishing_begin_finish f_Finishing_begin_finish)
    (i_Finishing_begin_finish : PySem.W.isFn K (.ref f_Finishing_begin_finish) = true)
    (F_Finishing_finish : FF K "finish" "Finishing.finish" s_Finishing_finish f_Finishing_finish)
    (i_Finishing_finish : PySem.W.isFn K (.ref f_Finishing_finish) = true)
    (F_Stop_begin : FF K "begin" "Stop.begin" s_Stop_begin f_Stop_begin)
    (i_Stop_begin : PySem.W.isFn K (.ref f_Stop_begin) = true)
    (F_Stop_look_up : FF K "look_up" "Stop.look_up" s_Stop_look_up f_Stop_look_up)
    (i_Stop_look_up : PySem.W.isFn K (.ref f_Stop_look_up) = true)
    (F_Stop_judge : FF K "judge" "Stop.judge" s_Stop_judge f_Stop_judge)
    (i_Stop_judge : PySem.W.isFn K (.ref f_Stop_judge) = true)
    (F_Stop_write : FF K "write" "Stop.write" s_Stop_write f_Stop_write)
    (i_Stop_write : PySem.W.isFn K (.ref f_Stop_write) = true)
    (F_Stop_ended : FF K "ended" "Stop.ended" s_Stop_ended f_Stop_ended)
    (i_Stop_ended : PySem.W.isFn K (.ref f_Stop_ended) = true)
    (F_Clear_begin : FF K "begin" "Clear.begin" s_Clear_begin f_Clear_begin)
    (i_Clear_begin : PySem.W.isFn K (.ref f_Clear_begin) = true)
    (F_Clear_go_on : FF K "go_on" "Clear.go_on" s_Clear_go_on f_Clear_go_on)
    (i_Clear_go_on : PySem.W.isFn K (.ref f_Clear_go_on) = true)
    (F_Clear_look_up : FF K "look_up" "Clear.look_up" s_Clear_look_up f_Clear_look_up)
    (i_Clear_look_up : PySem.W.isFn K (.ref f_Clear_look_up) = true)
    (F_Clear_judge : FF K "judge" "Clear.judge" s_Clear_judge f_Clear_judge)
    (i_Clear_judge : PySem.W.isFn K (.ref f_Clear_judge) = true)
    (F_Clear_write : FF K "write" "Clear.write" s_Clear_write f_Clear_write)
    (i_Clear_write : PySem.W.isFn K (.ref f_Clear_write) = true)
    (F_Wake_begin : FF K "begin" "Wake.begin" s_Wake_begin f_Wake_begin)
    (i_Wake_begin : PySem.W.isFn K (.ref f_Wake_begin) = true)
    (F_Wake_go_on : FF K "go_on" "Wake.go_on" s_Wake_go_on f_Wake_go_on)
    (i_Wake_go_on : PySem.W.isFn K (.ref f_Wake_go_on) = true)
    (F_Wake_look_up : FF K "look_up" "Wake.look_up" s_Wake_look_up f_Wake_look_up)
    (i_Wake_look_up : PySem.W.isFn K (.ref f_Wake_look_up) = true)
    (F_Wake_judge : FF K "judge" "Wake.judge" s_Wake_judge f_Wake_judge)
    (i_Wake_judge : PySem.W.isFn K (.ref f_Wake_judge) = true)
    (F_Wake_write : FF K "write" "Wake.write" s_Wake_write f_Wake_write)
    (i_Wake_write : PySem.W.isFn K (.ref f_Wake_write) = true)
    (F_Key_begin : FF K "begin" "Key.begin" s_Key_begin f_Key_begin)
    (i_Key_begin : PySem.W.isFn K (.ref f_Key_begin) = true)
    (F_Key_go_on : FF K "go_on" "Key.go_on" s_Key_go_on f_Key_go_on)
    (i_Key_go_on : PySem.W.isFn K (.ref f_Key_go_on) = true)
    (F_Sleep_begin : FF K "begin" "Sleep.begin" s_Sleep_begin f_Sleep_begin)
    (i_Sleep_begin : PySem.W.isFn K (.ref f_Sleep_begin) = true)
    (F_Trying_attempt : FF K "attempt" "Trying.attempt" s_Trying_attempt f_Trying_attempt)
    (i_Trying_attempt : PySem.W.isFn K (.ref f_Trying_attempt) = true)
    (F_Trying_compare : FF K "compare" "Trying.compare" s_Trying_compare f_Trying_compare)
    (i_Trying_compare : PySem.W.isFn K (.ref f_Trying_compare) = true)
    (F_Running_is_last_fail : FF K "is_last_fail" "Running.is_last_fail" s_Running_is_last_fail f_Running_is_last_fail)
    (i_Running_is_last_fail : PySem.W.isFn K (.ref f_Running_is_last_fail) = true) :
    ∃ fd : FuncData, (∀ (s : Shared) (us : List Value), us.length = (["calls"] : List Str).length → BindsTo s fd ⟨us, []⟩ ((["calls"] : List Str).zip us)) ∧ ∀ base : Heap, K.In base → base.Ns mainGlobals mg → FnOk P w K mg base CX0 10 fa fd ["calls"] (spAns K) := by
  have e := hfa.symm.trans (PySem.W.mg_of X G x_answers)
  cases e
  have T : Tx K mg Γ := ⟨⟨_, PySem.W.mg_of X G g_GAP, rfl⟩, ⟨_, PySem.W.mg_of X G g_NOT_THERE, ⟨_, rfl⟩⟩, ⟨_, PySem.W.mg_of X G g_DISTURBED, ⟨_, rfl⟩⟩, ⟨_, PySem.W.mg_of X G g_NO_SUCH_SLICE, ⟨_, rfl⟩⟩, ⟨_, PySem.W.mg_of X G g_OUT_OF_RANGE, ⟨_, rfl⟩⟩, ⟨_, PySem.W.mg_of X G g_TRIES, ⟨_, rfl⟩⟩, ⟨_, PySem.W.mg_of X G g_SLOTS, ⟨_, rfl⟩⟩, ⟨_, PySem.W.mg_of X G g_WORDS, ⟨_, rfl⟩⟩, ⟨_, PySem.W.mg_of X G g_MARKS_OF_A_WORD, ⟨_, rfl⟩⟩, ⟨_, PySem.W.mg_of X G g_MOST_SLICES, ⟨_, rfl⟩⟩, ⟨_, PySem.W.mg_of X G g_PHASE_FREE, ⟨_, rfl⟩⟩, ⟨_, PySem.W.mg_of X G g_PHASE_LAID, ⟨_, rfl⟩⟩, ⟨_, PySem.W.mg_of X G g_PHASE_OPEN, ⟨_, rfl⟩⟩, ⟨_, PySem.W.mg_of X G g_PHASE_FINISHED, ⟨_, rfl⟩⟩, ⟨_, PySem.W.mg_of X G g_STAMP, ⟨_, rfl⟩⟩, ⟨_, PySem.W.mg_of X G g_PHASE, ⟨_, rfl⟩⟩, ⟨_, PySem.W.mg_of X G g_GIVEN, ⟨_, rfl⟩⟩, ⟨_, PySem.W.mg_of X G g_STOPPED, ⟨_, rfl⟩⟩, ⟨_, PySem.W.mg_of X G g_MARKS, ⟨_, rfl⟩⟩, ⟨_, PySem.W.mg_of X G g_CLAIM, ⟨_, rfl⟩⟩, ⟨_, PySem.W.mg_of X G g_LAY, ⟨_, rfl⟩⟩, ⟨_, PySem.W.mg_of X G g_SHOW, ⟨_, rfl⟩⟩, ⟨_, PySem.W.mg_of X G g_ALREADY, ⟨_, rfl⟩⟩, ⟨_, PySem.W.mg_of X G g_PARTIES, ⟨_, rfl⟩⟩, ⟨_, PySem.W.mg_of X G g_OFFER, ⟨_, rfl⟩⟩, ⟨_, PySem.W.mg_of X G g_TAKE, ⟨_, rfl⟩⟩, ⟨_, PySem.W.mg_of X G g_AGAIN, ⟨_, rfl⟩⟩, ⟨_, PySem.W.mg_of X G g_DONE, ⟨_, rfl⟩⟩, ⟨_, PySem.W.mg_of X G g_STOP, ⟨_, rfl⟩⟩, ⟨_, PySem.W.mg_of X G g_LOOK, ⟨_, rfl⟩⟩, ⟨_, PySem.W.mg_of X G g_CLEAR, ⟨_, rfl⟩⟩, ⟨_, PySem.W.mg_of X G g_KEY, ⟨_, rfl⟩⟩, ⟨_, PySem.W.mg_of X G g_SLEEP, ⟨_, rfl⟩⟩, ⟨_, PySem.W.mg_of X G g_GO, ⟨_, rfl⟩⟩, ⟨_, PySem.W.mg_of X G g_GONE, ⟨_, rfl⟩⟩, ⟨_, PySem.W.mg_of X G g_BOARD, ⟨_, rfl⟩⟩, ⟨_, PySem.W.mg_of X G g_AT_GAP, ⟨_, rfl⟩⟩, ⟨_, PySem.W.mg_of X G g_AT_END, ⟨_, rfl⟩⟩, ⟨_, PySem.W.mg_of X G g_IS_GONE, ⟨_, rfl⟩⟩, ⟨_, PySem.W.mg_of X G g_IS_BOARD, ⟨_, rfl⟩⟩, ⟨_, PySem.W.mg_of X G g_NO_PARTY, ⟨_, rfl⟩⟩, ⟨_, PySem.W.mg_of X G g_OUT_OF_TURN, ⟨_, rfl⟩⟩, ⟨_, PySem.W.mg_of X G g_NO_MARKS, rfl⟩, ⟨_, PySem.W.mg_of X G g_NUMBERS, rfl⟩, tup_of l_nm v_nm, tup_of l_nums v_nums, PySem.W.mg_none_of X G b_len, PySem.W.mg_none_of X G b_min, PySem.W.mg_none_of X G b_list, PySem.W.mg_none_of X G b_tuple, PySem.W.mg_none_of X G b_range, ⟨pg_slot, hd_slot, po_slot, sa_slot⟩, n_slot_state, n_slot_giving, n_slot_slices, n_slot_kind, n_slot_job, n_slot_words, ⟨pg_board, hd_board, po_board, sa_board⟩, n_board_event, n_board_slots, ⟨pg_again, hd_again, po_again, sa_again⟩, n_again_place, n_again_fails, n_again_ticket, ⟨pg_look, hd_look, po_look, sa_look⟩, n_look_place, n_look_fails, n_look_ticket, ⟨pg_offer, hd_offer, po_offer, sa_offer⟩, n_offer_place, n_offer_fails, n_offer_slices, n_offer_kind, n_offer_job, n_offer_at, n_offer_seen, n_offer_stage, ⟨pg_take, hd_take, po_take, sa_take⟩, n_take_place, n_take_fails, n_take_at, n_take_seen, n_take_told, ⟨pg_done, hd_done, po_done, sa_done⟩, n_done_place, n_done_fails, n_done_seen, n_done_ticket, n_done_stamp, n_done_written, n_done_k, ⟨pg_stop, hd_stop, po_stop, sa_stop⟩, n_stop_place, n_stop_fails, n_stop_seen, n_stop_ticket, n_stop_stamp, n_stop_written, ⟨pg_clear, hd_clear, po_clear, sa_clear⟩, n_clear_place, n_clear_fails, n_clear_seen, n_clear_ticket, n_clear_stamp, ⟨pg_key, hd_key, po_key, sa_key⟩, n_key_place, n_key_fails, ⟨pg_sleep, hd_sleep, po_sleep, sa_sleep⟩, n_sleep_place, n_sleep_fails, n_sleep_number, ⟨pg_wake, hd_wake, po_wake, sa_wake⟩, n_wake_place, n_wake_fails, n_wake_seen, ⟨pg_line, hd_line, po_line, sa_line⟩, n_line_board, n_line_running⟩
  obtain ⟨fd_ticket_of, F_ticket_of⟩ := F_ticket_of
  obtain ⟨fd_stamp_of, F_stamp_of⟩ := F_stamp_of
  obtain ⟨fd_is_even, F_is_even⟩ := F_is_even
  obtain ⟨fd_slot_of, F_slot_of⟩ := F_slot_of
  obtain ⟨fd_has_phase, F_has_phase⟩ := F_has_phase
  obtain ⟨fd_limit_of, F_limit_of⟩ := F_limit_of
  obtain ⟨fd_given_of, F_given_of⟩ := F_given_of
  obtain ⟨fd_is_marked, F_is_marked⟩ := F_is_marked
  obtain ⟨fd_with_mark, F_with_mark⟩ := F_with_mark
  obtain ⟨fd_is_done, F_is_done⟩ := F_is_done
  obtain ⟨fd_count_done, F_count_done⟩ := F_count_done
  obtain ⟨fd_is_complete, F_is_complete⟩ := F_is_complete
  obtain ⟨fd_unmarked_words, F_unmarked_words⟩ := F_unmarked_words
  obtain ⟨fd_has_slice_left, F_has_slice_left⟩ := F_has_slice_left
  obtain ⟨fd_tell_board, F_tell_board⟩ := F_tell_board
  obtain ⟨fd_new_call, F_new_call⟩ := F_new_call
  obtain ⟨fd_after_step, F_after_step⟩ := F_after_step
  obtain ⟨fd_answer_call, F_answer_call⟩ := F_answer_call
  obtain ⟨fd_answers, F_answers⟩ := F_answers
  obtain ⟨fd_Running_init, F_Running_init⟩ := F_Running_init
  obtain ⟨fd_Trying_init, F_Trying_init⟩ := F_Trying_init
  obtain ⟨fd_Finishing_init, F_Finishing_init⟩ := F_Finishing_init
  obtain ⟨fd_Slot_init, F_Slot_init⟩ := F_Slot_init
  obtain ⟨fd_Board_init, F_Board_init⟩ := F_Board_init
  obtain ⟨fd_Again_init, F_Again_init⟩ := F_Again_init
  obtain ⟨fd_Look_init, F_Look_init⟩ := F_Look_init
  obtain ⟨fd_Offer_init, F_Offer_init⟩ := F_Offer_init
  obtain ⟨fd_Take_init, F_Take_init⟩ := F_Take_init
  obtain ⟨fd_Done_init, F_Done_init⟩ := F_Done_init
  obtain ⟨fd_Clear_init, F_Clear_init⟩ := F_Clear_init
  obtain ⟨fd_Sleep_init, F_Sleep_init⟩ := F_Sleep_init
  obtain ⟨fd_Line_init, F_Line_init⟩ := F_Line_init
  obtain ⟨fd_Offer_begin, F_Offer_begin⟩ := F_Offer_begin
  obtain ⟨fd_Offer_go_on, F_Offer_go_on⟩ := F_Offer_go_on
  obtain ⟨fd_Offer_seek, F_Offer_seek⟩ := F_Offer_seek
  obtain ⟨fd_Offer_claim, F_Offer_claim⟩ := F_Offer_claim
  obtain ⟨fd_Offer_lay, F_Offer_lay⟩ := F_Offer_lay
  obtain ⟨fd_Offer_show, F_Offer_show⟩ := F_Offer_show
  obtain ⟨fd_Take_begin, F_Take_begin⟩ := F_Take_begin
  obtain ⟨fd_Take_go_on, F_Take_go_on⟩ := F_Take_go_on
  obtain ⟨fd_Take_seek, F_Take_seek⟩ := F_Take_seek
  obtain ⟨fd_Take_keep, F_Take_keep⟩ := F_Take_keep
  obtain ⟨fd_Again_begin, F_Again_begin⟩ := F_Again_begin
  obtain ⟨fd_Look_begin, F_Look_begin⟩ := F_Look_begin
  obtain ⟨fd_Look_go_on, F_Look_go_on⟩ := F_Look_go_on
  obtain ⟨fd_Look_ended, F_Look_ended⟩ := F_Look_ended
  obtain ⟨fd_Done_begin, F_Done_begin⟩ := F_Done_begin
  obtain ⟨fd_Done_look_up, F_Done_look_up⟩ := F_Done_look_up
  obtain ⟨fd_Done_judge, F_Done_judge⟩ := F_Done_judge
  obtain ⟨fd_Done_write, F_Done_write⟩ := F_Done_write
  obtain ⟨fd_Done_ended, F_Done_ended⟩ := F_Done_ended
  obtain ⟨fd_Finishing_go_on, F_Finishing_go_on⟩ := F_Finishing_go_on
  obtain ⟨fd_Finishing_begin_finish, F_Finishing_begin_finish⟩ := F_Finishing_begin_finish
  obtain ⟨fd_Finishing_finish, F_Finishing_finish⟩ := F_Finishing_finish
  obtain ⟨fd_Stop_begin, F_Stop_begin⟩ := F_Stop_begin
  obtain ⟨fd_Stop_look_up, F_Stop_look_up⟩ := F_Stop_look_up
  obtain ⟨fd_Stop_judge, F_Stop_judge⟩ := F_Stop_judge
  obtain ⟨fd_Stop_write, F_Stop_write⟩ := F_Stop_write
  obtain ⟨fd_Stop_ended, F_Stop_ended⟩ := F_Stop_ended
  obtain ⟨fd_Clear_begin, F_Clear_begin⟩ := F_Clear_begin
  obtain ⟨fd_Clear_go_on, F_Clear_go_on⟩ := F_Clear_go_on
  obtain ⟨fd_Clear_look_up, F_Clear_look_up⟩ := F_Clear_look_up
  obtain ⟨fd_Clear_judge, F_Clear_judge⟩ := F_Clear_judge
  obtain ⟨fd_Clear_write, F_Clear_write⟩ := F_Clear_write
  obtain ⟨fd_Wake_begin, F_Wake_begin⟩ := F_Wake_begin
  obtain ⟨fd_Wake_go_on, F_Wake_go_on⟩ := F_Wake_go_on
  obtain ⟨fd_Wake_look_up, F_Wake_look_up⟩ := F_Wake_look_up
  obtain ⟨fd_Wake_judge, F_Wake_judge⟩ := F_Wake_judge
  obtain ⟨fd_Wake_write, F_Wake_write⟩ := F_Wake_write
  obtain ⟨fd_Key_begin, F_Key_begin⟩ := F_Key_begin
  obtain ⟨fd_Key_go_on, F_Key_go_on⟩ := F_Key_go_on
  obtain ⟨fd_Sleep_begin, F_Sleep_begin⟩ := F_Sleep_begin
  obtain ⟨fd_Trying_attempt, F_Trying_attempt⟩ := F_Trying_attempt
  obtain ⟨fd_Trying_compare, F_Trying_compare⟩ := F_Trying_compare
  obtain ⟨fd_Running_is_last_fail, F_Running_is_last_fail⟩ := F_Running_is_last_fail
  have b_ticket_of := F_ticket_of.binds (ps := ["stamp", "number"]) fun _ _ _ _ _ _ us hl => match us, hl with | [_, _], _ => rfl
  have b_stamp_of := F_stamp_of.binds (ps := ["ticket"]) fun _ _ _ _ _ _ us hl => match us, hl with | [_], _ => rfl
  have b_is_even := F_is_even.binds (ps := ["event"]) fun _ _ _ _ _ _ us hl => match us, hl with | [_], _ => rfl
  have b_slot_of := F_slot_of.binds (ps := ["board", "ticket"]) fun _ _ _ _ _ _ us hl => match us, hl with | [_, _], _ => rfl
  have b_has_phase := F_has_phase.binds (ps := ["board", "ticket", "phase"]) fun _ _ _ _ _ _ us hl => match us, hl with | [_, _, _], _ => rfl
  have b_limit_of := F_limit_of.binds (ps := ["slot"]) fun _ _ _ _ _ _ us hl => match us, hl with | [_], _ => rfl
  have b_given_of := F_given_of.binds (ps := ["slot"]) fun _ _ _ _ _ _ us hl => match us, hl with | [_], _ => rfl
  have b_is_marked := F_is_marked.binds (ps := ["marks", "k"]) fun _ _ _ _ _ _ us hl => match us, hl with | [_, _], _ => rfl
  have b_with_mark := F_with_mark.binds (ps := ["marks", "k"]) fun _ _ _ _ _ _ us hl => match us, hl with | [_, _], _ => rfl
  have b_is_done := F_is_done.binds (ps := ["slot", "k"]) fun _ _ _ _ _ _ us hl => match us, hl with | [_, _], _ => rfl
  have b_count_done := F_count_done.binds (ps := ["slot"]) fun _ _ _ _ _ _ us hl => match us, hl with | [_], _ => rfl
  have b_is_complete := F_is_complete.binds (ps := ["slot"]) fun _ _ _ _ _ _ us hl => match us, hl with | [_], _ => rfl
  have b_unmarked_words := F_unmarked_words.binds (ps := ["stamp"]) fun _ _ _ _ _ _ us hl => match us, hl with | [_], _ => rfl
  have b_has_slice_left := F_has_slice_left.binds (ps := ["slot"]) fun _ _ _ _ _ _ us hl => match us, hl with | [_], _ => rfl
  have b_tell_board := F_tell_board.binds (ps := ["board"]) fun _ _ _ _ _ _ us hl => match us, hl with | [_], _ => rfl
  have b_new_call := F_new_call.binds (ps := ["place", "numbers", "job"]) fun _ _ _ _ _ _ us hl => match us, hl with | [_, _, _], _ => rfl
  have b_after_step := F_after_step.binds (ps := ["line", "party", "call", "told"]) fun _ _ _ _ _ _ us hl => match us, hl with | [_, _, _, _], _ => rfl
  have b_answer_call := F_answer_call.binds (ps := ["line", "place", "numbers", "job"]) fun _ _ _ _ _ _ us hl => match us, hl with | [_, _, _, _], _ => rfl
  have b_answers := F_answers.binds (ps := ["calls"]) fun _ _ _ _ _ _ us hl => match us, hl with | [_], _ => rfl
  have b_Running_init := F_Running_init.binds (ps := ["self", "place"]) fun _ _ _ _ _ _ us hl => match us, hl with | [_, _], _ => rfl
  have b_Trying_init := F_Trying_init.binds (ps := ["self", "place"]) fun _ _ _ _ _ _ us hl => match us, hl with | [_, _], _ => rfl
  have b_Finishing_init := F_Finishing_init.binds (ps := ["self", "place", "ticket"]) fun _ _ _ _ _ _ us hl => match us, hl with | [_, _, _], _ => rfl
  have b_Slot_init := F_Slot_init.binds (ps := ["self"]) fun _ _ _ _ _ _ us hl => match us, hl with | [_], _ => rfl
  have b_Board_init := F_Board_init.binds (ps := ["self"]) fun _ _ _ _ _ _ us hl => match us, hl with | [_], _ => rfl
  have b_Again_init := F_Again_init.binds (ps := ["self", "place", "ticket"]) fun _ _ _ _ _ _ us hl => match us, hl with | [_, _, _], _ => rfl
  have b_Look_init := F_Look_init.binds (ps := ["self", "place", "ticket"]) fun _ _ _ _ _ _ us hl => match us, hl with | [_, _, _], _ => rfl
  have b_Offer_init := F_Offer_init.binds (ps := ["self", "place", "slices", "kind", "job"]) fun _ _ _ _ _ _ us hl => match us, hl with | [_, _, _, _, _], _ => rfl
  have b_Take_init := F_Take_init.binds (ps := ["self", "place"]) fun _ _ _ _ _ _ us hl => match us, hl with | [_, _], _ => rfl
  have b_Done_init := F_Done_init.binds (ps := ["self", "place", "ticket", "k"]) fun _ _ _ _ _ _ us hl => match us, hl with | [_, _, _, _], _ => rfl
  have b_Clear_init := F_Clear_init.binds (ps := ["self", "place", "ticket"]) fun _ _ _ _ _ _ us hl => match us, hl with | [_, _, _], _ => rfl
  have b_Sleep_init := F_Sleep_init.binds (ps := ["self", "place", "number"]) fun _ _ _ _ _ _ us hl => match us, hl with | [_, _, _], _ => rfl
  have b_Line_init := F_Line_init.binds (ps := ["self"]) fun _ _ _ _ _ _ us hl => match us, hl with | [_], _ => rfl
  have b_Offer_begin := F_Offer_begin.binds (ps := ["self", "board"]) fun _ _ _ _ _ _ us hl => match us, hl with | [_, _], _ => rfl
  have b_Offer_go_on := F_Offer_go_on.binds (ps := ["self", "board"]) fun _ _ _ _ _ _ us hl => match us, hl with | [_, _], _ => rfl
  have b_Offer_seek := F_Offer_seek.binds (ps := ["self", "board"]) fun _ _ _ _ _ _ us hl => match us, hl with | [_, _], _ => rfl
  have b_Offer_claim := F_Offer_claim.binds (ps := ["self", "board", "slot"]) fun _ _ _ _ _ _ us hl => match us, hl with | [_, _, _], _ => rfl
  have b_Offer_lay := F_Offer_lay.binds (ps := ["self", "slot"]) fun _ _ _ _ _ _ us hl => match us, hl with | [_, _], _ => rfl
  have b_Offer_show := F_Offer_show.binds (ps := ["self", "slot"]) fun _ _ _ _ _ _ us hl => match us, hl with | [_, _], _ => rfl
  have b_Take_begin := F_Take_begin.binds (ps := ["self", "board"]) fun _ _ _ _ _ _ us hl => match us, hl with | [_, _], _ => rfl
  have b_Take_go_on := F_Take_go_on.binds (ps := ["self", "board"]) fun _ _ _ _ _ _ us hl => match us, hl with | [_, _], _ => rfl
  have b_Take_seek := F_Take_seek.binds (ps := ["self", "board"]) fun _ _ _ _ _ _ us hl => match us, hl with | [_, _], _ => rfl
  have b_Take_keep := F_Take_keep.binds (ps := ["self", "slot"]) fun _ _ _ _ _ _ us hl => match us, hl with | [_, _], _ => rfl
  have b_Again_begin := F_Again_begin.binds (ps := ["self", "board"]) fun _ _ _ _ _ _ us hl => match us, hl with | [_, _], _ => rfl
  have b_Look_begin := F_Look_begin.binds (ps := ["self", "board"]) fun _ _ _ _ _ _ us hl => match us, hl with | [_, _], _ => rfl
  have b_Look_go_on := F_Look_go_on.binds (ps := ["self", "board"]) fun _ _ _ _ _ _ us hl => match us, hl with | [_, _], _ => rfl
  have b_Look_ended := F_Look_ended.binds (ps := ["self", "board", "number"]) fun _ _ _ _ _ _ us hl => match us, hl with | [_, _, _], _ => rfl
  have b_Done_begin := F_Done_begin.binds (ps := ["self", "board"]) fun _ _ _ _ _ _ us hl => match us, hl with | [_, _], _ => rfl
  have b_Done_look_up := F_Done_look_up.binds (ps := ["self", "board"]) fun _ _ _ _ _ _ us hl => match us, hl with | [_, _], _ => rfl
  have b_Done_judge := F_Done_judge.binds (ps := ["self"]) fun _ _ _ _ _ _ us hl => match us, hl with | [_], _ => rfl
  have b_Done_write := F_Done_write.binds (ps := ["self", "board"]) fun _ _ _ _ _ _ us hl => match us, hl with | [_, _], _ => rfl
  have b_Done_ended := F_Done_ended.binds (ps := ["self", "number"]) fun _ _ _ _ _ _ us hl => match us, hl with | [_, _], _ => rfl
  have b_Finishing_go_on := F_Finishing_go_on.binds (ps := ["self", "board"]) fun _ _ _ _ _ _ us hl => match us, hl with | [_, _], _ => rfl
  have b_Finishing_begin_finish := F_Finishing_begin_finish.binds (ps := ["self", "slot"]) fun _ _ _ _ _ _ us hl => match us, hl with | [_, _], _ => rfl
  have b_Finishing_finish := F_Finishing_finish.binds (ps := ["self", "board"]) fun _ _ _ _ _ _ us hl => match us, hl with | [_, _], _ => rfl
  have b_Stop_begin := F_Stop_begin.binds (ps := ["self", "board"]) fun _ _ _ _ _ _ us hl => match us, hl with | [_, _], _ => rfl
  have b_Stop_look_up := F_Stop_look_up.binds (ps := ["self", "board"]) fun _ _ _ _ _ _ us hl => match us, hl with | [_, _], _ => rfl
  have b_Stop_judge := F_Stop_judge.binds (ps := ["self"]) fun _ _ _ _ _ _ us hl => match us, hl with | [_], _ => rfl
  have b_Stop_write := F_Stop_write.binds (ps := ["self", "board"]) fun _ _ _ _ _ _ us hl => match us, hl with | [_, _], _ => rfl
  have b_Stop_ended := F_Stop_ended.binds (ps := ["self", "number"]) fun _ _ _ _ _ _ us hl => match us, hl with | [_, _], _ => rfl
  have b_Clear_begin := F_Clear_begin.binds (ps := ["self", "board"]) fun _ _ _ _ _ _ us hl => match us, hl with | [_, _], _ => rfl
  have b_Clear_go_on := F_Clear_go_on.binds (ps := ["self", "board"]) fun _ _ _ _ _ _ us hl => match us, hl with | [_, _], _ => rfl
  have b_Clear_look_up := F_Clear_look_up.binds (ps := ["self", "board"]) fun _ _ _ _ _ _ us hl => match us, hl with | [_, _], _ => rfl
  have b_Clear_judge := F_Clear_judge.binds (ps := ["self"]) fun _ _ _ _ _ _ us hl => match us, hl with | [_], _ => rfl
  have b_Clear_write := F_Clear_write.binds (ps := ["self", "board"]) fun _ _ _ _ _ _ us hl => match us, hl with | [_, _], _ => rfl
  have b_Wake_begin := F_Wake_begin.binds (ps := ["self", "board"]) fun _ _ _ _ _ _ us hl => match us, hl with | [_, _], _ => rfl
  have b_Wake_go_on := F_Wake_go_on.binds (ps := ["self", "board"]) fun _ _ _ _ _ _ us hl => match us, hl with | [_, _], _ => rfl
  have b_Wake_look_up := F_Wake_look_up.binds (ps := ["self", "board"]) fun _ _ _ _ _ _ us hl => match us, hl with | [_, _], _ => rfl
  have b_Wake_judge := F_Wake_judge.binds (ps := ["self"]) fun _ _ _ _ _ _ us hl => match us, hl with | [_], _ => rfl
  have b_Wake_write := F_Wake_write.binds (ps := ["self", "board"]) fun _ _ _ _ _ _ us hl => match us, hl with | [_, _], _ => rfl
  have b_Key_begin := F_Key_begin.binds (ps := ["self", "board"]) fun _ _ _ _ _ _ us hl => match us, hl with | [_, _], _ => rfl
  have b_Key_go_on := F_Key_go_on.binds (ps := ["self", "board"]) fun _ _ _ _ _ _ us hl => match us, hl with | [_, _], _ => rfl
  have b_Sleep_begin := F_Sleep_begin.binds (ps := ["self", "board"]) fun _ _ _ _ _ _ us hl => match us, hl with | [_, _], _ => rfl
  have b_Trying_attempt := F_Trying_attempt.binds (ps := ["self", "board"]) fun _ _ _ _ _ _ us hl => match us, hl with | [_, _], _ => rfl
  have b_Trying_compare := F_Trying_compare.binds (ps := ["self", "board"]) fun _ _ _ _ _ _ us hl => match us, hl with | [_, _], _ => rfl
  have b_Running_is_last_fail := F_Running_is_last_fail.binds (ps := ["self"]) fun _ _ _ _ _ _ us hl => match us, hl with | [_], _ => rfl
  refine ⟨fd_answers, fun s us hu => ?_, fun base _ _ => ?_⟩
  · obtain ⟨_, _, _, _, _, _, _, _, _, efd, _⟩ := F_answers.ex
    subst efd
    match us, hu with
    | [_], _ => exact .of_eq rfl
  have g_ticket_of : GF P w K mg base "ticket_of" 1 ["stamp", "number"] spTicket := ⟨_, _, PySem.W.mg_of X G x_ticket_of, F_ticket_of.kp, b_ticket_of, ok_ticket_of F_ticket_of T⟩
  have g_stamp_of : GF P w K mg base "stamp_of" 1 ["ticket"] spStamp := ⟨_, _, PySem.W.mg_of X G x_stamp_of, F_stamp_of.kp, b_stamp_of, ok_stamp_of F_stamp_of T⟩
  have g_is_even : GF P w K mg base "is_even" 1 ["event"] spEven := ⟨_, _, PySem.W.mg_of X G x_is_even, F_is_even.kp, b_is_even, ok_is_even F_is_even T⟩
  have g_slot_of : GF P w K mg base "slot_of" 1 ["board", "ticket"] (spSlotOf K Γ) := ⟨_, _, PySem.W.mg_of X G x_slot_of, F_slot_of.kp, b_slot_of, ok_slot_of F_slot_of T⟩
  have g_has_phase : GF P w K mg base "has_phase" 2 ["board", "ticket", "phase"] (spHas K Γ) := ⟨_, _, PySem.W.mg_of X G x_has_phase, F_has_phase.kp, b_has_phase, ok_has_phase F_has_phase T g_slot_of g_stamp_of⟩
  have g_limit_of : GF P w K mg base "limit_of" 1 ["slot"] (spLimit K Γ) := ⟨_, _, PySem.W.mg_of X G x_limit_of, F_limit_of.kp, b_limit_of, ok_limit_of F_limit_of T⟩
  have g_given_of : GF P w K mg base "given_of" 1 ["slot"] (spGiven K Γ) := ⟨_, _, PySem.W.mg_of X G x_given_of, F_given_of.kp, b_given_of, ok_given_of F_given_of T⟩
  have g_is_marked : GF P w K mg base "is_marked" 1 ["marks", "k"] (spMarked K) := ⟨_, _, PySem.W.mg_of X G x_is_marked, F_is_marked.kp, b_is_marked, ok_is_marked F_is_marked T⟩
  have g_with_mark : GF P w K mg base "with_mark" 1 ["marks", "k"] (spWith K) := ⟨_, _, PySem.W.mg_of X G x_with_mark, F_with_mark.kp, b_with_mark, ok_with_mark F_with_mark T⟩
  have g_is_done : GF P w K mg base "is_done" 2 ["slot", "k"] (spDone K Γ) := ⟨_, _, PySem.W.mg_of X G x_is_done, F_is_done.kp, b_is_done, ok_is_done F_is_done T g_is_marked⟩
  have g_count_done : GF P w K mg base "count_done" 3 ["slot"] (spCount K Γ) := ⟨_, _, PySem.W.mg_of X G x_count_done, F_count_done.kp, b_count_done, ok_count_done F_count_done T g_limit_of g_is_done⟩
  have g_is_complete : GF P w K mg base "is_complete" 4 ["slot"] (spComplete K Γ) := ⟨_, _, PySem.W.mg_of X G x_is_complete, F_is_complete.kp, b_is_complete, ok_is_complete F_is_complete T g_limit_of g_count_done⟩
  have g_unmarked_words : GF P w K mg base "unmarked_words" 1 ["stamp"] (spUnm K) := ⟨_, _, PySem.W.mg_of X G x_unmarked_words, F_unmarked_words.kp, b_unmarked_words, ok_unmarked_words F_unmarked_words T⟩
  have g_has_slice_left : GF P w K mg base "has_slice_left" 1 ["slot"] (spLeft K Γ) := ⟨_, _, PySem.W.mg_of X G x_has_slice_left, F_has_slice_left.kp, b_has_slice_left, ok_has_slice_left F_has_slice_left T⟩
  have b_Running : BF P w K mg base "Running" "__init__" 1 ["self", "place"] (spRunInit K) := ⟨_, _, _, PySem.W.mg_of X G a_Running, ⟨s_Running, ⟨_, r_Running, x_Running_init⟩, F_Running_init.kp⟩, b_Running_init, ok_Running_init F_Running_init⟩
  have b_Trying : BF P w K mg base "Trying" "__init__" 2 ["self", "place"] (spTryInit K) := ⟨_, _, _, PySem.W.mg_of X G a_Trying, ⟨s_Trying, ⟨_, r_Trying, x_Trying_init⟩, F_Trying_init.kp⟩, b_Trying_init, ok_Trying_init F_Trying_init b_Running⟩
  have b_Finishing : BF P w K mg base "Finishing" "__init__" 3 ["self", "place", "ticket"] (spFinInit K) := ⟨_, _, _, PySem.W.mg_of X G a_Finishing, ⟨s_Finishing, ⟨_, r_Finishing, x_Finishing_init⟩, F_Finishing_init.kp⟩, b_Finishing_init, ok_Finishing_init F_Finishing_init b_Trying g_stamp_of⟩
  have k_Offer : KF P w K mg base "Offer" Γ.offer 2 ["self", "place", "slices", "kind", "job"] (spOfferInit Γ.offer) := ⟨_, _, PySem.W.mg_of X G a_Offer, ⟨mk_offer, m_offer_init, i_Offer_init, kc_offer⟩, b_Offer_init, ok_Offer_init F_Offer_init T b_Running⟩
  have k_Take : KF P w K mg base "Take" Γ.take 2 ["self", "place"] (spTakeInit Γ.take) := ⟨_, _, PySem.W.mg_of X G a_Take, ⟨mk_take, m_take_init, i_Take_init, kc_take⟩, b_Take_init, ok_Take_init F_Take_init T b_Running⟩
  have k_Again : KF P w K mg base "Again" Γ.again 2 ["self", "place", "ticket"] (spTickInit Γ.again) := ⟨_, _, PySem.W.mg_of X G a_Again, ⟨mk_again, m_again_init, i_Again_init, kc_again⟩, b_Again_init, ok_Again_init F_Again_init T b_Running⟩
  have k_Done : KF P w K mg base "Done" Γ.done 4 ["self", "place", "ticket", "k"] (spDoneInit Γ.done) := ⟨_, _, PySem.W.mg_of X G a_Done, ⟨mk_done, m_done_init, i_Done_init, kc_done⟩, b_Done_init, ok_Done_init F_Done_init T b_Finishing⟩
  have k_Stop : KF P w K mg base "Stop" Γ.stop 3 ["self", "place", "ticket"] (spFinInit K) := ⟨_, _, PySem.W.mg_of X G a_Stop, ⟨mk_stop, m_stop_init, i_Finishing_init, kc_stop⟩, b_Finishing_init, ok_Finishing_init F_Finishing_init b_Trying g_stamp_of⟩
  have k_Look : KF P w K mg base "Look" Γ.look 2 ["self", "place", "ticket"] (spTickInit Γ.look) := ⟨_, _, PySem.W.mg_of X G a_Look, ⟨mk_look, m_look_init, i_Look_init, kc_look⟩, b_Look_init, ok_Look_init F_Look_init T b_Running⟩
  have k_Clear : KF P w K mg base "Clear" Γ.clear 3 ["self", "place", "ticket"] (spClearInit Γ.clear) := ⟨_, _, PySem.W.mg_of X G a_Clear, ⟨mk_clear, m_clear_init, i_Clear_init, kc_clear⟩, b_Clear_init, ok_Clear_init F_Clear_init T b_Trying g_stamp_of⟩
  have k_Key : KF P w K mg base "Key" Γ.key 1 ["self", "place"] (spRunInit K) := ⟨_, _, PySem.W.mg_of X G a_Key, ⟨mk_key, m_key_init, i_Running_init, kc_key⟩, b_Running_init, ok_Running_init F_Running_init⟩
  have k_Sleep : KF P w K mg base "Sleep" Γ.sleep 2 ["self", "place", "number"] (spSleepInit Γ.sleep) := ⟨_, _, PySem.W.mg_of X G a_Sleep, ⟨mk_sleep, m_sleep_init, i_Sleep_init, kc_sleep⟩, b_Sleep_init, ok_Sleep_init F_Sleep_init T b_Running⟩
  have k_Wake : KF P w K mg base "Wake" Γ.wake 2 ["self", "place"] (spTryInit K) := ⟨_, _, PySem.W.mg_of X G a_Wake, ⟨mk_wake, m_wake_init, i_Trying_init, kc_wake⟩, b_Trying_init, ok_Trying_init F_Trying_init b_Running⟩
  have k_Slot : KF P w K mg base "Slot" Γ.slot 2 ["self"] (spSlotInit K Γ) := ⟨_, _, PySem.W.mg_of X G a_Slot, ⟨mk_slot, m_slot_init, i_Slot_init, kc_slot⟩, b_Slot_init, ok_Slot_init F_Slot_init T g_unmarked_words⟩
  have k_Board : KF P w K mg base "Board" Γ.board 4 ["self"] (spBoardInit K Γ) := ⟨_, _, PySem.W.mg_of X G a_Board, ⟨mk_board, m_board_init, i_Board_init, kc_board⟩, b_Board_init, ok_Board_init F_Board_init T k_Slot⟩
  have k_Line : KF P w K mg base "Line" Γ.line 6 ["self"] (spLineInit K Γ) := ⟨_, _, PySem.W.mg_of X G a_Line, ⟨mk_line, m_line_init, i_Line_init, kc_line⟩, b_Line_init, ok_Line_init F_Line_init T k_Board⟩
  have m_offer_is_last_fail' : MF P w K mg base Γ.offer "is_last_fail" 1 ["self"] (spLast K) := ⟨_, _, T.cl_offer, ⟨m_offer_is_last_fail, i_Running_is_last_fail, F_Running_is_last_fail.kp⟩, b_Running_is_last_fail, (ok_is_last_fail F_Running_is_last_fail T)⟩
  have m_take_is_last_fail' : MF P w K mg base Γ.take "is_last_fail" 1 ["self"] (spLast K) := ⟨_, _, T.cl_take, ⟨m_take_is_last_fail, i_Running_is_last_fail, F_Running_is_last_fail.kp⟩, b_Running_is_last_fail, (ok_is_last_fail F_Running_is_last_fail T)⟩
  have m_done_is_last_fail' : MF P w K mg base Γ.done "is_last_fail" 1 ["self"] (spLast K) := ⟨_, _, T.cl_done, ⟨m_done_is_last_fail, i_Running_is_last_fail, F_Running_is_last_fail.kp⟩, b_Running_is_last_fail, (ok_is_last_fail F_Running_is_last_fail T)⟩
  have m_stop_is_last_fail' : MF P w K mg base Γ.stop "is_last_fail" 1 ["self"] (spLast K) := ⟨_, _, T.cl_stop, ⟨m_stop_is_last_fail, i_Running_is_last_fail, F_Running_is_last_fail.kp⟩, b_Running_is_last_fail, (ok_is_last_fail F_Running_is_last_fail T)⟩
  have m_clear_is_last_fail' : MF P w K mg base Γ.clear "is_last_fail" 1 ["self"] (spLast K) := ⟨_, _, T.cl_clear, ⟨m_clear_is_last_fail, i_Running_is_last_fail, F_Running_is_last_fail.kp⟩, b_Running_is_last_fail, (ok_is_last_fail F_Running_is_last_fail T)⟩
  have m_wake_is_last_fail' : MF P w K mg base Γ.wake "is_last_fail" 1 ["self"] (spLast K) := ⟨_, _, T.cl_wake, ⟨m_wake_is_last_fail, i_Running_is_last_fail, F_Running_is_last_fail.kp⟩, b_Running_is_last_fail, (ok_is_last_fail F_Running_is_last_fail T)⟩
  have m_key_begin' : MF P w K mg base Γ.key "begin" 8 ["self", "board"] (spBegin K Γ fun o => o = .key) := ⟨_, _, T.cl_key, ⟨m_key_begin, i_Key_begin, F_Key_begin.kp⟩, b_Key_begin, (ok_Key_begin F_Key_begin T).mono (by decide)⟩
  have m_key_go_on' : MF P w K mg base Γ.key "go_on" 8 ["self", "board"] (spGo K Γ fun o => o = .key) := ⟨_, _, T.cl_key, ⟨m_key_go_on, i_Key_go_on, F_Key_go_on.kp⟩, b_Key_go_on, (ok_Key_go_on F_Key_go_on T g_is_even).mono (by decide)⟩
  have m_sleep_begin' : MF P w K mg base Γ.sleep "begin" 8 ["self", "board"] (spBegin K Γ fun o => ∃ x, o = .sleep x) := ⟨_, _, T.cl_sleep, ⟨m_sleep_begin, i_Sleep_begin, F_Sleep_begin.kp⟩, b_Sleep_begin, (ok_Sleep_begin F_Sleep_begin T).mono (by decide)⟩
  have m_wake_look_up' : MF P w K mg base Γ.wake "look_up" 3 ["self", "board"] (spPure (LWake K Γ)) := ⟨_, _, T.cl_wake, ⟨m_wake_look_up, i_Wake_look_up, F_Wake_look_up.kp⟩, b_Wake_look_up, (ok_Wake_look_up F_Wake_look_up T).mono (by decide)⟩
  have m_wake_judge' : MF P w K mg base Γ.wake "judge" 3 ["self"] spJWake := ⟨_, _, T.cl_wake, ⟨m_wake_judge, i_Wake_judge, F_Wake_judge.kp⟩, b_Wake_judge, (ok_Wake_judge F_Wake_judge T).mono (by decide)⟩
  have m_wake_write' : MF P w K mg base Γ.wake "write" 6 ["self", "board"] (spWWake K Γ) := ⟨_, _, T.cl_wake, ⟨m_wake_write, i_Wake_write, F_Wake_write.kp⟩, b_Wake_write, (ok_Wake_write F_Wake_write T g_is_even).mono (by decide)⟩
  have m_wake_attempt' : MF P w K mg base Γ.wake "attempt" 4 ["self", "board"] (spAtt Γ.wake (LWake K Γ) spJWake) := ⟨_, _, T.cl_wake, ⟨m_wake_attempt, i_Trying_attempt, F_Trying_attempt.kp⟩, b_Trying_attempt, (ok_attempt F_Trying_attempt T.cl_wake T.n_wake_seen m_wake_look_up' m_wake_judge')⟩
  have m_wake_compare' : MF P w K mg base Γ.wake "compare" 7 ["self", "board"] (spCmp K Γ.wake (LWake K Γ) (spWWake K Γ) (spAtt Γ.wake (LWake K Γ) spJWake)) := ⟨_, _, T.cl_wake, ⟨m_wake_compare, i_Trying_compare, F_Trying_compare.kp⟩, b_Trying_compare, (ok_compare F_Trying_compare T T.cl_wake T.n_wake_seen T.n_wake_fails m_wake_look_up' m_wake_write' m_wake_is_last_fail' m_wake_attempt')⟩
  have m_wake_begin' : MF P w K mg base Γ.wake "begin" 8 ["self", "board"] (spBegin K Γ fun o => o = .wake) := ⟨_, _, T.cl_wake, ⟨m_wake_begin, i_Wake_begin, F_Wake_begin.kp⟩, b_Wake_begin, (ok_Wake_begin (Γ := Γ) F_Wake_begin m_wake_attempt').mono (by decide)⟩
  have m_wake_go_on' : MF P w K mg base Γ.wake "go_on" 8 ["self", "board"] (spGo K Γ fun o => o = .wake) := ⟨_, _, T.cl_wake, ⟨m_wake_go_on, i_Wake_go_on, F_Wake_go_on.kp⟩, b_Wake_go_on, (ok_Wake_go_on F_Wake_go_on T m_wake_compare')⟩
  have m_clear_look_up' : MF P w K mg base Γ.clear "look_up" 3 ["self", "board"] (spPure (LClear K Γ)) := ⟨_, _, T.cl_clear, ⟨m_clear_look_up, i_Clear_look_up, F_Clear_look_up.kp⟩, b_Clear_look_up, (ok_Clear_look_up F_Clear_look_up T g_slot_of).mono (by decide)⟩
  have m_clear_judge' : MF P w K mg base Γ.clear "judge" 3 ["self"] (spJClear K Γ) := ⟨_, _, T.cl_clear, ⟨m_clear_judge, i_Clear_judge, F_Clear_judge.kp⟩, b_Clear_judge, (ok_Clear_judge F_Clear_judge T).mono (by decide)⟩
  have m_clear_write' : MF P w K mg base Γ.clear "write" 6 ["self", "board"] (spWClear K Γ) := ⟨_, _, T.cl_clear, ⟨m_clear_write, i_Clear_write, F_Clear_write.kp⟩, b_Clear_write, (ok_Clear_write F_Clear_write T g_slot_of).mono (by decide)⟩
  have m_clear_attempt' : MF P w K mg base Γ.clear "attempt" 4 ["self", "board"] (spAtt Γ.clear (LClear K Γ) (spJClear K Γ)) := ⟨_, _, T.cl_clear, ⟨m_clear_attempt, i_Trying_attempt, F_Trying_attempt.kp⟩, b_Trying_attempt, (ok_attempt F_Trying_attempt T.cl_clear T.n_clear_seen m_clear_look_up' m_clear_judge')⟩
  have m_clear_compare' : MF P w K mg base Γ.clear "compare" 7 ["self", "board"] (spCmp K Γ.clear (LClear K Γ) (spWClear K Γ) (spAtt Γ.clear (LClear K Γ) (spJClear K Γ))) := ⟨_, _, T.cl_clear, ⟨m_clear_compare, i_Trying_compare, F_Trying_compare.kp⟩, b_Trying_compare, (ok_compare F_Trying_compare T T.cl_clear T.n_clear_seen T.n_clear_fails m_clear_look_up' m_clear_write' m_clear_is_last_fail' m_clear_attempt')⟩
  have m_clear_begin' : MF P w K mg base Γ.clear "begin" 8 ["self", "board"] (spBegin K Γ fun o => ∃ t, o = .clear t) := ⟨_, _, T.cl_clear, ⟨m_clear_begin, i_Clear_begin, F_Clear_begin.kp⟩, b_Clear_begin, (ok_Clear_begin F_Clear_begin T m_clear_attempt').mono (by decide)⟩
  have m_clear_go_on' : MF P w K mg base Γ.clear "go_on" 8 ["self", "board"] (spGo K Γ fun o => ∃ t, o = .clear t) := ⟨_, _, T.cl_clear, ⟨m_clear_go_on, i_Clear_go_on, F_Clear_go_on.kp⟩, b_Clear_go_on, (ok_Clear_go_on F_Clear_go_on T m_clear_compare')⟩
  have m_again_begin' : MF P w K mg base Γ.again "begin" 8 ["self", "board"] (spBegin K Γ fun o => ∃ t, o = .again t) := ⟨_, _, T.cl_again, ⟨m_again_begin, i_Again_begin, F_Again_begin.kp⟩, b_Again_begin, (ok_Again_begin F_Again_begin T g_has_phase g_slot_of g_given_of g_is_done).mono (by decide)⟩
  have m_look_ended' : MF P w K mg base Γ.look "ended" 4 ["self", "board", "number"] (spLookEnd K Γ) := ⟨_, _, T.cl_look, ⟨m_look_ended, i_Look_ended, F_Look_ended.kp⟩, b_Look_ended, (ok_Look_ended F_Look_ended T g_slot_of g_given_of g_count_done)⟩
  have m_look_begin' : MF P w K mg base Γ.look "begin" 8 ["self", "board"] (spBegin K Γ fun o => ∃ t, o = .look t) := ⟨_, _, T.cl_look, ⟨m_look_begin, i_Look_begin, F_Look_begin.kp⟩, b_Look_begin, (ok_Look_begin F_Look_begin T g_has_phase g_slot_of g_is_complete m_look_ended').mono (by decide)⟩
  have m_look_go_on' : MF P w K mg base Γ.look "go_on" 8 ["self", "board"] (spGo K Γ fun o => ∃ t, o = .look t) := ⟨_, _, T.cl_look, ⟨m_look_go_on, i_Look_go_on, F_Look_go_on.kp⟩, b_Look_go_on, (ok_Look_go_on F_Look_go_on T g_has_phase g_slot_of g_stamp_of m_look_ended').mono (by decide)⟩
  have m_stop_ended' : MF P w K mg base Γ.stop "ended" 1 ["self", "number"] (spEStop K Γ) := ⟨_, _, T.cl_stop, ⟨m_stop_ended, i_Stop_ended, F_Stop_ended.kp⟩, b_Stop_ended, (ok_Stop_ended F_Stop_ended T)⟩
  have m_stop_look_up' : MF P w K mg base Γ.stop "look_up" 3 ["self", "board"] (spPure (LStop K Γ)) := ⟨_, _, T.cl_stop, ⟨m_stop_look_up, i_Stop_look_up, F_Stop_look_up.kp⟩, b_Stop_look_up, (ok_Stop_look_up F_Stop_look_up T g_slot_of).mono (by decide)⟩
  have m_stop_judge' : MF P w K mg base Γ.stop "judge" 3 ["self"] (spJStop K Γ) := ⟨_, _, T.cl_stop, ⟨m_stop_judge, i_Stop_judge, F_Stop_judge.kp⟩, b_Stop_judge, (ok_Stop_judge F_Stop_judge T m_stop_ended').mono (by decide)⟩
  have m_stop_begin_finish' : MF P w K mg base Γ.stop "begin_finish" 5 ["self", "slot"] (spBegFin K Γ Γ.stop (spEStop K Γ)) := ⟨_, _, T.cl_stop, ⟨m_stop_begin_finish, i_Finishing_begin_finish, F_Finishing_begin_finish.kp⟩, b_Finishing_begin_finish, (ok_begin_finish F_Finishing_begin_finish T T.cl_stop T.n_stop_written g_is_complete m_stop_ended')⟩
  have m_stop_finish' : MF P w K mg base Γ.stop "finish" 3 ["self", "board"] (spFin K Γ Γ.stop (spEStop K Γ)) := ⟨_, _, T.cl_stop, ⟨m_stop_finish, i_Finishing_finish, F_Finishing_finish.kp⟩, b_Finishing_finish, (ok_finish F_Finishing_finish T T.cl_stop T.n_stop_ticket T.n_stop_stamp g_has_phase g_slot_of m_stop_ended')⟩
  have m_stop_write' : MF P w K mg base Γ.stop "write" 6 ["self", "board"] (spWStop K Γ) := ⟨_, _, T.cl_stop, ⟨m_stop_write, i_Stop_write, F_Stop_write.kp⟩, b_Stop_write, (ok_Stop_write F_Stop_write T g_slot_of m_stop_begin_finish')⟩
  have m_stop_attempt' : MF P w K mg base Γ.stop "attempt" 4 ["self", "board"] (spAtt Γ.stop (LStop K Γ) (spJStop K Γ)) := ⟨_, _, T.cl_stop, ⟨m_stop_attempt, i_Trying_attempt, F_Trying_attempt.kp⟩, b_Trying_attempt, (ok_attempt F_Trying_attempt T.cl_stop T.n_stop_seen m_stop_look_up' m_stop_judge')⟩
  have m_stop_compare' : MF P w K mg base Γ.stop "compare" 7 ["self", "board"] (spCmp K Γ.stop (LStop K Γ) (spWStop K Γ) (spAtt Γ.stop (LStop K Γ) (spJStop K Γ))) := ⟨_, _, T.cl_stop, ⟨m_stop_compare, i_Trying_compare, F_Trying_compare.kp⟩, b_Trying_compare, (ok_compare F_Trying_compare T T.cl_stop T.n_stop_seen T.n_stop_fails m_stop_look_up' m_stop_write' m_stop_is_last_fail' m_stop_attempt')⟩
  have m_stop_go_on' : MF P w K mg base Γ.stop "go_on" 8 ["self", "board"] (spFinGo Γ.stop (spFin K Γ Γ.stop (spEStop K Γ)) (spCmp K Γ.stop (LStop K Γ) (spWStop K Γ) (spAtt Γ.stop (LStop K Γ) (spJStop K Γ)))) := ⟨_, _, T.cl_stop, ⟨m_stop_go_on, i_Finishing_go_on, F_Finishing_go_on.kp⟩, b_Finishing_go_on, (ok_fin_go F_Finishing_go_on T.cl_stop T.n_stop_written m_stop_finish' m_stop_compare')⟩
  have m_done_ended' : MF P w K mg base Γ.done "ended" 1 ["self", "number"] spEDone := ⟨_, _, T.cl_done, ⟨m_done_ended, i_Done_ended, F_Done_ended.kp⟩, b_Done_ended, (ok_Done_ended F_Done_ended)⟩
  have m_done_look_up' : MF P w K mg base Γ.done "look_up" 3 ["self", "board"] (spPure (LDone K Γ)) := ⟨_, _, T.cl_done, ⟨m_done_look_up, i_Done_look_up, F_Done_look_up.kp⟩, b_Done_look_up, (ok_Done_look_up F_Done_look_up T g_slot_of).mono (by decide)⟩
  have m_done_judge' : MF P w K mg base Γ.done "judge" 3 ["self"] (spJDone K Γ) := ⟨_, _, T.cl_done, ⟨m_done_judge, i_Done_judge, F_Done_judge.kp⟩, b_Done_judge, (ok_Done_judge F_Done_judge T g_is_marked).mono (by decide)⟩
  have m_done_begin_finish' : MF P w K mg base Γ.done "begin_finish" 5 ["self", "slot"] (spBegFin K Γ Γ.done spEDone) := ⟨_, _, T.cl_done, ⟨m_done_begin_finish, i_Finishing_begin_finish, F_Finishing_begin_finish.kp⟩, b_Finishing_begin_finish, (ok_begin_finish F_Finishing_begin_finish T T.cl_done T.n_done_written g_is_complete m_done_ended')⟩
  have m_done_finish' : MF P w K mg base Γ.done "finish" 3 ["self", "board"] (spFin K Γ Γ.done spEDone) := ⟨_, _, T.cl_done, ⟨m_done_finish, i_Finishing_finish, F_Finishing_finish.kp⟩, b_Finishing_finish, (ok_finish F_Finishing_finish T T.cl_done T.n_done_ticket T.n_done_stamp g_has_phase g_slot_of m_done_ended')⟩
  have m_done_write' : MF P w K mg base Γ.done "write" 6 ["self", "board"] (spWDone K Γ) := ⟨_, _, T.cl_done, ⟨m_done_write, i_Done_write, F_Done_write.kp⟩, b_Done_write, (ok_Done_write F_Done_write T g_slot_of g_with_mark m_done_begin_finish')⟩
  have m_done_attempt' : MF P w K mg base Γ.done "attempt" 4 ["self", "board"] (spAtt Γ.done (LDone K Γ) (spJDone K Γ)) := ⟨_, _, T.cl_done, ⟨m_done_attempt, i_Trying_attempt, F_Trying_attempt.kp⟩, b_Trying_attempt, (ok_attempt F_Trying_attempt T.cl_done T.n_done_seen m_done_look_up' m_done_judge')⟩
  have m_done_compare' : MF P w K mg base Γ.done "compare" 7 ["self", "board"] (spCmp K Γ.done (LDone K Γ) (spWDone K Γ) (spAtt Γ.done (LDone K Γ) (spJDone K Γ))) := ⟨_, _, T.cl_done, ⟨m_done_compare, i_Trying_compare, F_Trying_compare.kp⟩, b_Trying_compare, (ok_compare F_Trying_compare T T.cl_done T.n_done_seen T.n_done_fails m_done_look_up' m_done_write' m_done_is_last_fail' m_done_attempt')⟩
  have m_done_go_on' : MF P w K mg base Γ.done "go_on" 8 ["self", "board"] (spFinGo Γ.done (spFin K Γ Γ.done spEDone) (spCmp K Γ.done (LDone K Γ) (spWDone K Γ) (spAtt Γ.done (LDone K Γ) (spJDone K Γ)))) := ⟨_, _, T.cl_done, ⟨m_done_go_on, i_Finishing_go_on, F_Finishing_go_on.kp⟩, b_Finishing_go_on, (ok_fin_go F_Finishing_go_on T.cl_done T.n_done_written m_done_finish' m_done_compare')⟩
  have m_stop_begin' : MF P w K mg base Γ.stop "begin" 8 ["self", "board"] (spBegin K Γ fun o => ∃ t, o = .halt_ t) := ⟨_, _, T.cl_stop, ⟨m_stop_begin, i_Stop_begin, F_Stop_begin.kp⟩, b_Stop_begin, (ok_Stop_begin F_Stop_begin T g_has_phase m_stop_attempt').mono (by decide)⟩
  have m_done_begin' : MF P w K mg base Γ.done "begin" 8 ["self", "board"] (spBegin K Γ fun o => ∃ t n, o = .done t n) := ⟨_, _, T.cl_done, ⟨m_done_begin, i_Done_begin, F_Done_begin.kp⟩, b_Done_begin, (ok_Done_begin F_Done_begin T g_has_phase g_slot_of m_done_attempt').mono (by decide)⟩
  have m_take_keep' : MF P w K mg base Γ.take "keep" 2 ["self", "slot"] (spKeep K Γ) := ⟨_, _, T.cl_take, ⟨m_take_keep, i_Take_keep, F_Take_keep.kp⟩, b_Take_keep, (ok_Take_keep F_Take_keep T g_ticket_of)⟩
  have m_take_seek' : MF P w K mg base Γ.take "seek" 3 ["self", "board"] (spSeekT K Γ) := ⟨_, _, T.cl_take, ⟨m_take_seek, i_Take_seek, F_Take_seek.kp⟩, b_Take_seek, (ok_Take_seek F_Take_seek T g_has_slice_left m_take_keep')⟩
  have m_take_begin' : MF P w K mg base Γ.take "begin" 8 ["self", "board"] (spBegin K Γ fun o => o = .take) := ⟨_, _, T.cl_take, ⟨m_take_begin, i_Take_begin, F_Take_begin.kp⟩, b_Take_begin, (ok_Take_begin (Γ := Γ) F_Take_begin m_take_seek').mono (by decide)⟩
  have m_take_go_on' : MF P w K mg base Γ.take "go_on" 8 ["self", "board"] (spGo K Γ fun o => o = .take) := ⟨_, _, T.cl_take, ⟨m_take_go_on, i_Take_go_on, F_Take_go_on.kp⟩, b_Take_go_on, (ok_Take_go_on F_Take_go_on T m_take_is_last_fail' m_take_seek').mono (by decide)⟩
  have m_offer_seek' : MF P w K mg base Γ.offer "seek" 1 ["self", "board"] (spSeekO K Γ) := ⟨_, _, T.cl_offer, ⟨m_offer_seek, i_Offer_seek, F_Offer_seek.kp⟩, b_Offer_seek, (ok_Offer_seek F_Offer_seek T)⟩
  have m_offer_claim' : MF P w K mg base Γ.offer "claim" 2 ["self", "board", "slot"] (spClaim K Γ) := ⟨_, _, T.cl_offer, ⟨m_offer_claim, i_Offer_claim, F_Offer_claim.kp⟩, b_Offer_claim, (ok_Offer_claim F_Offer_claim T m_offer_is_last_fail' m_offer_seek')⟩
  have m_offer_lay' : MF P w K mg base Γ.offer "lay" 2 ["self", "slot"] (spLay K Γ) := ⟨_, _, T.cl_offer, ⟨m_offer_lay, i_Offer_lay, F_Offer_lay.kp⟩, b_Offer_lay, (ok_Offer_lay F_Offer_lay T g_unmarked_words)⟩
  have m_offer_show' : MF P w K mg base Γ.offer "show" 2 ["self", "slot"] (spShow K Γ) := ⟨_, _, T.cl_offer, ⟨m_offer_show, i_Offer_show, F_Offer_show.kp⟩, b_Offer_show, (ok_Offer_show F_Offer_show T g_ticket_of)⟩
  have m_offer_begin' : MF P w K mg base Γ.offer "begin" 8 ["self", "board"] (spBegin K Γ fun o => ∃ n kind job, o = .offer n kind job) := ⟨_, _, T.cl_offer, ⟨m_offer_begin, i_Offer_begin, F_Offer_begin.kp⟩, b_Offer_begin, (ok_Offer_begin F_Offer_begin T m_offer_seek').mono (by decide)⟩
  have m_offer_go_on' : MF P w K mg base Γ.offer "go_on" 8 ["self", "board"] (spGo K Γ fun o => ∃ n kind job, o = .offer n kind job) := ⟨_, _, T.cl_offer, ⟨m_offer_go_on, i_Offer_go_on, F_Offer_go_on.kp⟩, b_Offer_go_on, (ok_Offer_go_on F_Offer_go_on T m_offer_claim' m_offer_lay' m_offer_show').mono (by decide)⟩
  have g_tell_board : GF P w K mg base "tell_board" 1 ["board"] (spTell K Γ) := ⟨_, _, PySem.W.mg_of X G x_tell_board, F_tell_board.kp, b_tell_board, ok_tell_board F_tell_board T⟩
  have g_new_call : GF P w K mg base "new_call" 6 ["place", "numbers", "job"] (spNew K Γ) := ⟨_, _, PySem.W.mg_of X G x_new_call, F_new_call.kp, b_new_call, ok_new_call F_new_call T k_Offer k_Take k_Again k_Done k_Stop k_Look k_Clear k_Key k_Sleep k_Wake⟩
  have g_after_step : GF P w K mg base "after_step" 1 ["line", "party", "call", "told"] (spAfter K Γ) := ⟨_, _, PySem.W.mg_of X G x_after_step, F_after_step.kp, b_after_step, ok_after_step F_after_step T⟩
  have m_begin : ∀ i : Ix_begin, MF P w K mg base (clsOf Γ i) "begin" 8 ["self", "board"] (spBegin K Γ fun o => o = i) := fun i => by
    have up : ∀ {ok : LwPool.Op → Prop} (vs : List V) (H : Hp) (Q : VK) (E : XK), ok i → spBegin K Γ (fun o => o = i) vs H Q E → spBegin K Γ ok vs H Q E := fun vs H Q E hk ⟨p, F, B, o, h1, h2, h3⟩ => ⟨p, F, B, o, h1, by rw [h2]; exact hk, h3⟩
    cases i with
    | offer n k j => exact m_offer_begin'.imp fun vs H Q E => up vs H Q E ⟨n, k, j, rfl⟩
    | take => exact m_take_begin'.imp fun vs H Q E => up vs H Q E rfl
    | again t => exact m_again_begin'.imp fun vs H Q E => up vs H Q E ⟨t, rfl⟩
    | done t k => exact m_done_begin'.imp fun vs H Q E => up vs H Q E ⟨t, k, rfl⟩
    | halt_ t => exact m_stop_begin'.imp fun vs H Q E => up vs H Q E ⟨t, rfl⟩
    | look t => exact m_look_begin'.imp fun vs H Q E => up vs H Q E ⟨t, rfl⟩
    | clear t => exact m_clear_begin'.imp fun vs H Q E => up vs H Q E ⟨t, rfl⟩
    | key => exact m_key_begin'.imp fun vs H Q E => up vs H Q E rfl
    | sleep x => exact m_sleep_begin'.imp fun vs H Q E => up vs H Q E ⟨x, rfl⟩
    | wake => exact m_wake_begin'.imp fun vs H Q E => up vs H Q E rfl
  have m_go_on : ∀ i : Ix_go_on, MF P w K mg base (clsOf Γ i.1) "go_on" 8 ["self", "board"] (spGo K Γ fun o => o = i.1) := fun ⟨i, hi⟩ => by
    have up : ∀ {ok : LwPool.Op → Prop} (vs : List V) (H : Hp) (Q : VK) (E : XK), ok i → spGo K Γ (fun o => o = i) vs H Q E → spGo K Γ ok vs H Q E := fun vs H Q E hk ⟨p, F, B, o, a, h1, h2, h3⟩ => ⟨p, F, B, o, a, h1, by rw [h2]; exact hk, h3⟩
    cases i with
    | offer n k j => exact m_offer_go_on'.imp fun vs H Q E => up vs H Q E ⟨n, k, j, rfl⟩
    | take => exact m_take_go_on'.imp fun vs H Q E => up vs H Q E rfl
    | again t => cases hi
    | done t k => exact m_done_go_on'.imp fun vs H Q E h => go_done T vs H Q E (up vs H Q E ⟨t, k, rfl⟩ h)
    | halt_ t => exact m_stop_go_on'.imp fun vs H Q E h => go_stop T vs H Q E (up vs H Q E ⟨t, rfl⟩ h)
    | look t => exact m_look_go_on'.imp fun vs H Q E => up vs H Q E ⟨t, rfl⟩
    | clear t => exact m_clear_go_on'.imp fun vs H Q E => up vs H Q E ⟨t, rfl⟩
    | key => exact m_key_go_on'.imp fun vs H Q E => up vs H Q E rfl
    | sleep x => cases hi
    | wake => exact m_wake_go_on'.imp fun vs H Q E => up vs H Q E rfl
  have g_answer_call : GF P w K mg base "answer_call" 9 ["line", "place", "numbers", "job"] (spCall K Γ) := ⟨_, _, PySem.W.mg_of X G x_answer_call, F_answer_call.kp, b_answer_call, ok_answer_call F_answer_call T g_tell_board g_new_call g_after_step m_begin m_go_on⟩
  exact ok_answers F_answers T k_Line g_answer_call
theorem top_mk {P : Program} {w : World} {K : PySem.W.Frag} {h : Heap} {mg : Str → Option Value} {fa : Addr} (X : K.In h) (G : h.Ns mainGlobals mg) (hfa : mg "answers" = some (.ref fa))
    {c_slot c_board c_again c_look c_offer c_take c_done c_stop c_clear c_key c_sleep c_wake c_line c_Running c_Trying c_Finishing nm nums : Addr} {t_NOT_THERE t_DISTURBED t_NO_SUCH_SLICE t_OUT_OF_RANGE t_TRIES t_SLOTS t_WORDS t_MARKS_OF_A_WORD t_MOST_SLICES t_PHASE_FREE t_PHASE_LAID t_PHASE_OPEN t_PHASE_FINISHED t_STAMP t_PHASE t_GIVEN t_STOPPED t_MARKS t_CLAIM t_LAY t_SHOW t_ALREADY t_PARTIES t_OFFER t_TAKE t_AGAIN t_DONE t_STOP t_LOOK t_CLEAR t_KEY t_SLEEP t_GO t_GONE t_BOARD t_AT_GAP t_AT_END t_IS_GONE t_IS_BOARD t_NO_PARTY t_OUT_OF_TURN : Tok} {o_nm o_nums : Obj} {f_ticket_of f_stamp_of f_is_even f_slot_of f_has_phase f_limit_of f_given_of f_is_marked f_with_mark f_is_done f_count_done f_is_complete f_unmarked_words f_has_slice_left f_tell_board f_new_call f_after_step f_answer_call f_answers f_Running_init f_Trying_init f_Finishing_init f_Slot_init f_Board_init f_Again_init f_Look_init f_Offer_init f_Take_init f_Done_init f_Clear_init f_Sleep_init f_Line_init f_Offer_begin f_Offer_go_on f_Offer_seek f_Offer_claim f_Offer_lay f_Offer_show f_Take_begin f_Take_go_on f_Take_seek f_Take_keep f_Again_begin f_Look_begin f_Look_go_on f_Look_ended f_Done_begin f_Done_look_up f_Done_judge f_Done_write f_Done_ended f_Finishing_go_on f_Finishing_begin_finish f_Finishing_finish f_Stop_begin f_Stop_look_up f_Stop_judge f_Stop_write f_Stop_ended f_Clear_begin f_Clear_go_on f_Clear_look_up f_Clear_judge f_Clear_write f_Wake_begin f_Wake_go_on f_Wake_look_up f_Wake_judge f_Wake_write f_Key_begin f_Key_go_on f_Sleep_begin f_Trying_attempt f_Trying_compare f_Running_is_last_fail : Addr}
    (a_Slot : PySem.W.nsIn K mainGlobals "Slot" = some (some (.ref c_slot)))
    (a_Board : PySem.W.nsIn K mainGlobals "Board" = some (some (.ref c_board)))
    (a_Again : PySem.W.nsIn K mainGlobals "Again" = some (some (.ref c_again)))
    (a_Look : PySem.W.nsIn K mainGlobals "Look" = some (some (.ref c_look)))
    (a_Offer : PySem.W.nsIn K mainGlobals "Offer" = some (some (.ref c_offer)))
    (a_Take : PySem.W.nsIn K mainGlobals "Take" = some (some (.ref c_take)))
    (a_Done : PySem.W.nsIn K mainGlobals "Done" = some (some (.ref c_done)))
    (a_Stop : PySem.W.nsIn K mainGlobals "Stop" = some (some (.ref c_stop)))
    (a_Clear : PySem.W.nsIn K mainGlobals "Clear" = some (some (.ref c_clear)))
    (a_Key : PySem.W.nsIn K mainGlobals "Key" = some (some (.ref c_key)))
    (a_Sleep : PySem.W.nsIn K mainGlobals "Sleep" = some (some (.ref c_sleep)))
    (a_Wake : PySem.W.nsIn K mainGlobals "Wake" = some (some (.ref c_wake)))
    (a_Line : PySem.W.nsIn K mainGlobals "Line" = some (some (.ref c_line)))
    (a_Running : PySem.W.nsIn K mainGlobals "Running" = some (some (.ref c_Running)))
    (a_Trying : PySem.W.nsIn K mainGlobals "Trying" = some (some (.ref c_Trying)))
    (a_Finishing : PySem.W.nsIn K mainGlobals "Finishing" = some (some (.ref c_Finishing)))
    (g_GAP : PySem.W.nsIn K mainGlobals "GAP" = some (some .none))
    (g_NOT_THERE : PySem.W.nsIn K mainGlobals "NOT_THERE" = some (some (.int (-1) t_NOT_THERE)))
    (g_DISTURBED : PySem.W.nsIn K mainGlobals "DISTURBED" = some (some (.int (-2) t_DISTURBED)))
    (g_NO_SUCH_SLICE : PySem.W.nsIn K mainGlobals "NO_SUCH_SLICE" = some (some (.int (-3) t_NO_SUCH_SLICE)))
    (g_OUT_OF_RANGE : PySem.W.nsIn K mainGlobals "OUT_OF_RANGE" = some (some (.int (-4) t_OUT_OF_RANGE)))
    (g_TRIES : PySem.W.nsIn K mainGlobals "TRIES" = some (some (.int 3 t_TRIES)))
    (g_SLOTS : PySem.W.nsIn K mainGlobals "SLOTS" = some (some (.int 2 t_SLOTS)))
    (g_WORDS : PySem.W.nsIn K mainGlobals "WORDS" = some (some (.int 4 t_WORDS)))
    (g_MARKS_OF_A_WORD : PySem.W.nsIn K mainGlobals "MARKS_OF_A_WORD" = some (some (.int 8 t_MARKS_OF_A_WORD)))
    (g_MOST_SLICES : PySem.W.nsIn K mainGlobals "MOST_SLICES" = some (some (.int 32 t_MOST_SLICES)))
    (g_PHASE_FREE : PySem.W.nsIn K mainGlobals "PHASE_FREE" = some (some (.int 0 t_PHASE_FREE)))
    (g_PHASE_LAID : PySem.W.nsIn K mainGlobals "PHASE_LAID" = some (some (.int 1 t_PHASE_LAID)))
    (g_PHASE_OPEN : PySem.W.nsIn K mainGlobals "PHASE_OPEN" = some (some (.int 2 t_PHASE_OPEN)))
    (g_PHASE_FINISHED : PySem.W.nsIn K mainGlobals "PHASE_FINISHED" = some (some (.int 4 t_PHASE_FINISHED)))
    (g_STAMP : PySem.W.nsIn K mainGlobals "STAMP" = some (some (.int 0 t_STAMP)))
    (g_PHASE : PySem.W.nsIn K mainGlobals "PHASE" = some (some (.int 1 t_PHASE)))
    (g_GIVEN : PySem.W.nsIn K mainGlobals "GIVEN" = some (some (.int 1 t_GIVEN)))
    (g_STOPPED : PySem.W.nsIn K mainGlobals "STOPPED" = some (some (.int 2 t_STOPPED)))
    (g_MARKS : PySem.W.nsIn K mainGlobals "MARKS" = some (some (.int 1 t_MARKS)))
    (g_CLAIM : PySem.W.nsIn K mainGlobals "CLAIM" = some (some (.int 0 t_CLAIM)))
    (g_LAY : PySem.W.nsIn K mainGlobals "LAY" = some (some (.int 1 t_LAY)))
    (g_SHOW : PySem.W.nsIn K mainGlobals "SHOW" = some (some (.int 2 t_SHOW)))
    (g_ALREADY : PySem.W.nsIn K mainGlobals "ALREADY" = some (some (.int 2 t_ALREADY)))
    (g_PARTIES : PySem.W.nsIn K mainGlobals "PARTIES" = some (some (.int 4 t_PARTIES)))
    (g_OFFER : PySem.W.nsIn K mainGlobals "OFFER" = some (some (.int 0 t_OFFER)))
    (g_TAKE : PySem.W.nsIn K mainGlobals "TAKE" = some (some (.int 1 t_TAKE)))
    (g_AGAIN : PySem.W.nsIn K mainGlobals "AGAIN" = some (some (.int 2 t_AGAIN)))
    (g_DONE : PySem.W.nsIn K mainGlobals "DONE" = some (some (.int 3 t_DONE)))
    (g_STOP : PySem.W.nsIn K mainGlobals "STOP" = some (some (.int 4 t_STOP)))
    (g_LOOK : PySem.W.nsIn K mainGlobals "LOOK" = some (some (.int 5 t_LOOK)))
    (g_CLEAR : PySem.W.nsIn K mainGlobals "CLEAR" = some (some (.int 6 t_CLEAR)))
    (g_KEY : PySem.W.nsIn K mainGlobals "KEY" = some (some (.int 7 t_KEY)))
    (g_SLEEP : PySem.W.nsIn K mainGlobals "SLEEP" = some (some (.int 8 t_SLEEP)))
    (g_GO : PySem.W.nsIn K mainGlobals "GO" = some (some (.int 10 t_GO)))
    (g_GONE : PySem.W.nsIn K mainGlobals "GONE" = some (some (.int 11 t_GONE)))
    (g_BOARD : PySem.W.nsIn K mainGlobals "BOARD" = some (some (.int 12 t_BOARD)))
    (g_AT_GAP : PySem.W.nsIn K mainGlobals "AT_GAP" = some (some (.int 0 t_AT_GAP)))
    (g_AT_END : PySem.W.nsIn K mainGlobals "AT_END" = some (some (.int 1 t_AT_END)))
    (g_IS_GONE : PySem.W.nsIn K mainGlobals "IS_GONE" = some (some (.int 2 t_IS_GONE)))
    (g_IS_BOARD : PySem.W.nsIn K mainGlobals "IS_BOARD" = some (some (.int 3 t_IS_BOARD)))
    (g_NO_PARTY : PySem.W.nsIn K mainGlobals "NO_PARTY" = some (some (.int (-1) t_NO_PARTY)))
    (g_OUT_OF_TURN : PySem.W.nsIn K mainGlobals "OUT_OF_TURN" = some (some (.int (-9) t_OUT_OF_TURN)))
    (b_len : PySem.W.nsIn K mainGlobals "len" = some none)
    (b_min : PySem.W.nsIn K mainGlobals "min" = some none)
    (b_list : PySem.W.nsIn K mainGlobals "list" = some none)
    (b_tuple : PySem.W.nsIn K mainGlobals "tuple" = some none)
    (b_range : PySem.W.nsIn K mainGlobals "range" = some none)
    (g_NO_MARKS : PySem.W.nsIn K mainGlobals "NO_MARKS" = some (some (.ref nm)))
    (g_NUMBERS : PySem.W.nsIn K mainGlobals "NUMBERS" = some (some (.ref nums)))
    (l_nm : K.lookup nm = some o_nm)
    (l_nums : K.lookup nums = some o_nums)
    (v_nm : tupV o_nm = some (List.replicate 8 (.int 0)))
    (v_nums : tupV o_nums = some numsV)
    (pg_slot : PySem.W.plainGet K c_slot Str.empty = true)
    (hd_slot : PySem.W.hasDictIn K c_slot = true)
    (po_slot : PySem.W.plainOver K c_slot = true)
    (sa_slot : PySem.W.findIn K (.ref c_slot) "__setattr__" = some (some (.builtin "object.__setattr__")))
    (n_slot_state : PySem.W.findIn K (.ref c_slot) "state" = some none)
    (n_slot_giving : PySem.W.findIn K (.ref c_slot) "giving" = some none)
    (n_slot_slices : PySem.W.findIn K (.ref c_slot) "slices" = some none)
    (n_slot_kind : PySem.W.findIn K (.ref c_slot) "kind" = some none)
    (n_slot_job : PySem.W.findIn K (.ref c_slot) "job" = some none)
    (n_slot_words : PySem.W.findIn K (.ref c_slot) "words" = some none)
    (pg_board : PySem.W.plainGet K c_board Str.empty = true)
    (hd_board : PySem.W.hasDictIn K c_board = true)
    (po_board : PySem.W.plainOver K c_board = true)
    (sa_board : PySem.W.findIn K (.ref c_board) "__setattr__" = some (some (.builtin "object.__setattr__")))
    (n_board_event : PySem.W.findIn K (.ref c_board) "event" = some none)
    (n_board_slots : PySem.W.findIn K (.ref c_board) "slots" = some none)
    (pg_again : PySem.W.plainGet K c_again Str.empty = true)
    (hd_again : PySem.W.hasDictIn K c_again = true)
    (po_again : PySem.W.plainOver K c_again = true)
    (sa_again : PySem.W.findIn K (.ref c_again) "__setattr__" = some (some (.builtin "object.__setattr__")))
    (n_again_place : PySem.W.findIn K (.ref c_again) "place" = some none)
    (n_again_fails : PySem.W.findIn K (.ref c_again) "fails" = some none)
    (n_again_ticket : PySem.W.findIn K (.ref c_again) "ticket" = some none)
    (pg_look : PySem.W.plainGet K c_look Str.empty = true)
    (hd_look : PySem.W.hasDictIn K c_look = true)
    (po_look : PySem.W.plainOver K c_look = true)
    (sa_look : PySem.W.findIn K (.ref c_look) "__setattr__" = some (some (.builtin "object.__setattr__")))
    (n_look_place : PySem.W.findIn K (.ref c_look) "place" = some none)
    (n_look_fails : PySem.W.findIn K (.ref c_look) "fails" = some none)
    (n_look_ticket : PySem.W.findIn K (.ref c_look) "ticket" = some none)
    (pg_offer : PySem.W.plainGet K c_offer Str.empty = true)
    (hd_offer : PySem.W.hasDictIn K c_offer = true)
    (po_offer : PySem.W.plainOver K c_offer = true)
    (sa_offer : PySem.W.findIn K (.ref c_offer) "__setattr__" = some (some (.builtin "object.__setattr__")))
    (n_offer_place : PySem.W.findIn K (.ref c_offer) "place" = some none)
    (n_offer_fails : PySem.W.findIn K (.ref c_offer) "fails" = some none)
    (n_offer_slices : PySem.W.findIn K (.ref c_offer) "slices" = some none)
    (n_offer_kind : PySem.W.findIn K (.ref c_offer) "kind" = some none)
    (n_offer_job : PySem.W.findIn K (.ref c_offer) "job" = some none)
    (n_offer_at : PySem.W.findIn K (.ref c_offer) "at" = some none)
    (n_offer_seen : PySem.W.findIn K (.ref c_offer) "seen" = some none)
    (n_offer_stage : PySem.W.findIn K (.ref c_offer) "stage" = some none)
    (pg_take : PySem.W.plainGet K c_take Str.empty = true)
    (hd_take : PySem.W.hasDictIn K c_take = true)
    (po_take : PySem.W.plainOver K c_take = true)
    (sa_take : PySem.W.findIn K (.ref c_take) "__setattr__" = some (some (.builtin "object.__setattr__")))
    (n_take_place : PySem.W.findIn K (.ref c_take) "place" = some none)
    (n_take_fails : PySem.W.findIn K (.ref c_take) "fails" = some none)
    (n_take_at : PySem.W.findIn K (.ref c_take) "at" = some none)
    (n_take_seen : PySem.W.findIn K (.ref c_take) "seen" = some none)
    (n_take_told : PySem.W.findIn K (.ref c_take) "told" = some none)
    (pg_done : PySem.W.plainGet K c_done Str.empty = true)
    (hd_done : PySem.W.hasDictIn K c_done = true)
    (po_done : PySem.W.plainOver K c_done = true)
    (sa_done : PySem.W.findIn K (.ref c_done) "__setattr__" = some (some (.builtin "object.__setattr__")))
    (n_done_place : PySem.W.findIn K (.ref c_done) "place" = some none)
    (n_done_fails : PySem.W.findIn K (.ref c_done) "fails" = some none)
    (n_done_seen : PySem.W.findIn K (.ref c_done) "seen" = some none)
    (n_done_ticket : PySem.W.findIn K (.ref c_done) "ticket" = some none)
    (n_done_stamp : PySem.W.findIn K (.ref c_done) "stamp" = some none)
    (n_done_written : PySem.W.findIn K (.ref c_done) "written" = some none)
    (n_done_k : PySem.W.findIn K (.ref c_done) "k" = some none)
    (pg_stop : PySem.W.plainGet K c_stop Str.empty = true)
    (hd_stop : PySem.W.hasDictIn K c_stop = true)
    (po_stop : PySem.W.plainOver K c_stop = true)
    (sa_stop : PySem.W.findIn K (.ref c_stop) "__setattr__" = some (some (.builtin "object.__setattr__")))
    (n_stop_place : PySem.W.findIn K (.ref c_stop) "place" = some none)
    (n_stop_fails : PySem.W.findIn K (.ref c_stop) "fails" = some none)
    (n_stop_seen : PySem.W.findIn K (.ref c_stop) "seen" = some none)
    (n_stop_ticket : PySem.W.findIn K (.ref c_stop) "ticket" = some none)
    (n_stop_stamp : PySem.W.findIn K (.ref c_stop) "stamp" = some none)
    (n_stop_written : PySem.W.findIn K (.ref c_stop) "written" = some none)
    (pg_clear : PySem.W.plainGet K c_clear Str.empty = true)
    (hd_clear : PySem.W.hasDictIn K c_clear = true)
    (po_clear : PySem.W.plainOver K c_clear = true)
    (sa_clear : PySem.W.findIn K (.ref c_clear) "__setattr__" = some (some (.builtin "object.__setattr__")))
    (n_clear_place : PySem.W.findIn K (.ref c_clear) "place" = some none)
    (n_clear_fails : PySem.W.findIn K (.ref c_clear) "fails" = some none)
    (n_clear_seen : PySem.W.findIn K (.ref c_clear) "seen" = some none)
    (n_clear_ticket : PySem.W.findIn K (.ref c_clear) "ticket" = some none)
    (n_clear_stamp : PySem.W.findIn K (.ref c_clear) "stamp" = some none)
    (pg_key : PySem.W.plainGet K c_key Str.empty = true)
    (hd_key : PySem.W.hasDictIn K c_key = true)
    (po_key : PySem.W.plainOver K c_key = true)
    (sa_key : PySem.W.findIn K (.ref c_key) "__setattr__" = some (some (.builtin "object.__setattr__")))
    (n_key_place : PySem.W.findIn K (.ref c_key) "place" = some none)
    (n_key_fails : PySem.W.findIn K (.ref c_key) "fails" = some none)
    (pg_sleep : PySem.W.plainGet K c_sleep Str.empty = true)
    (hd_sleep : PySem.W.hasDictIn K c_sleep = true)
    (po_sleep : PySem.W.plainOver K c_sleep = true)
    (sa_sleep : PySem.W.findIn K (.ref c_sleep) "__setattr__" = some (some (.builtin "object.__setattr__")))
    (n_sleep_place : PySem.W.findIn K (.ref c_sleep) "place" = some none)
    (n_sleep_fails : PySem.W.findIn K (.ref c_sleep) "fails" = some none)
    (n_sleep_number : PySem.W.findIn K (.ref c_sleep) "number" = some none)
    (pg_wake : PySem.W.plainGet K c_wake Str.empty = true)
    (hd_wake : PySem.W.hasDictIn K c_wake = true)
    (po_wake : PySem.W.plainOver K c_wake = true)
    (sa_wake : PySem.W.findIn K (.ref c_wake) "__setattr__" = some (some (.builtin "object.__setattr__")))
    (n_wake_place : PySem.W.findIn K (.ref c_wake) "place" = some none)
    (n_wake_fails : PySem.W.findIn K (.ref c_wake) "fails" = some none)
    (n_wake_seen : PySem.W.findIn K (.ref c_wake) "seen" = some none)
    (pg_line : PySem.W.plainGet K c_line Str.empty = true)
    (hd_line : PySem.W.hasDictIn K c_line = true)
    (po_line : PySem.W.plainOver K c_line = true)
    (sa_line : PySem.W.findIn K (.ref c_line) "__setattr__" = some (some (.builtin "object.__setattr__")))
    (n_line_board : PySem.W.findIn K (.ref c_line) "board" = some none)
    (n_line_running : PySem.W.findIn K (.ref c_line) "running" = some none)
    (x_ticket_of : PySem.W.nsIn K mainGlobals "ticket_of" = some (some (.ref f_ticket_of)))
    (x_stamp_of : PySem.W.nsIn K mainGlobals "stamp_of" = some (some (.ref f_stamp_of)))
    (x_is_even : PySem.W.nsIn K mainGlobals "is_even" = some (some (.ref f_is_even)))
    (x_slot_of : PySem.W.nsIn K mainGlobals "slot_of" = some (some (.ref f_slot_of)))
    (x_has_phase : PySem.W.nsIn K mainGlobals "has_phase" = some (some (.ref f_has_phase)))
    (x_limit_of : PySem.W.nsIn K mainGlobals "limit_of" = some (some (.ref f_limit_of)))
    (x_given_of : PySem.W.nsIn K mainGlobals "given_of" = some (some (.ref f_given_of)))
    (x_is_marked : PySem.W.nsIn K mainGlobals "is_marked" = some (some (.ref f_is_marked)))
    (x_with_mark : PySem.W.nsIn K mainGlobals "with_mark" = some (some (.ref f_with_mark)))
    (x_is_done : PySem.W.nsIn K mainGlobals "is_done" = some (some (.ref f_is_done)))
    (x_count_done : PySem.W.nsIn K mainGlobals "count_done" = some (some (.ref f_count_done)))
    (x_is_complete : PySem.W.nsIn K mainGlobals "is_complete" = some (some (.ref f_is_complete)))
    (x_unmarked_words : PySem.W.nsIn K mainGlobals "unmarked_words" = some (some (.ref f_unmarked_words)))
    (x_has_slice_left : PySem.W.nsIn K mainGlobals "has_slice_left" = some (some (.ref f_has_slice_left)))
    (x_tell_board : PySem.W.nsIn K mainGlobals "tell_board" = some (some (.ref f_tell_board)))
    (x_new_call : PySem.W.nsIn K mainGlobals "new_call" = some (some (.ref f_new_call)))
    (x_after_step : PySem.W.nsIn K mainGlobals "after_step" = some (some (.ref f_after_step)))
    (x_answer_call : PySem.W.nsIn K mainGlobals "answer_call" = some (some (.ref f_answer_call)))
    (x_answers : PySem.W.nsIn K mainGlobals "answers" = some (some (.ref f_answers)))
    (x_Running_init : PySem.W.findCls K (.ref c_Running) (.type "type") "__init__" = some (.val (.ref f_Running_init)))
    (r_Running : PySem.W.readsIn K c_Running (.type "type") = true)
    (s_Running : PySem.W.specialIn K (.ref c_Running) "__getattribute__" = some (some (.builtin "type.__getattribute__")))
    (x_Trying_init : PySem.W.findCls K (.ref c_Trying) (.type "type") "__init__" = some (.val (.ref f_Trying_init)))
    (r_Trying : PySem.W.readsIn K c_Trying (.type "type") = true)
    (s_Trying : PySem.W.specialIn K (.ref c_Trying) "__getattribute__" = some (some (.builtin "type.__getattribute__")))
    (x_Finishing_init : PySem.W.findCls K (.ref c_Finishing) (.type "type") "__init__" = some (.val (.ref f_Finishing_init)))
    (r_Finishing : PySem.W.readsIn K c_Finishing (.type "type") = true)
    (s_Finishing : PySem.W.specialIn K (.ref c_Finishing) "__getattribute__" = some (some (.builtin "type.__getattribute__")))
    (m_slot_init : PySem.W.findIn K (.ref c_slot) "__init__" = some (some (.ref f_Slot_init)))
    (mk_slot : PySem.W.makesIn K c_slot = true)
    (kc_slot : PySem.W.keepIn K (.ref c_slot) = true)
    (m_board_init : PySem.W.findIn K (.ref c_board) "__init__" = some (some (.ref f_Board_init)))
    (mk_board : PySem.W.makesIn K c_board = true)
    (kc_board : PySem.W.keepIn K (.ref c_board) = true)
    (m_again_init : PySem.W.findIn K (.ref c_again) "__init__" = some (some (.ref f_Again_init)))
    (mk_again : PySem.W.makesIn K c_again = true)
    (kc_again : PySem.W.keepIn K (.ref c_again) = true)
    (m_look_init : PySem.W.findIn K (.ref c_look) "__init__" = some (some (.ref f_Look_init)))
    (mk_look : PySem.W.makesIn K c_look = true)
    (kc_look : PySem.W.keepIn K (.ref c_look) = true)
    (m_offer_init : PySem.W.findIn K (.ref c_offer) "__init__" = some (some (.ref f_Offer_init)))
    (mk_offer : PySem.W.makesIn K c_offer = true)
    (kc_offer : PySem.W.keepIn K (.ref c_offer) = true)
    (m_take_init : PySem.W.findIn K (.ref c_take) "__init__" = some (some (.ref f_Take_init)))
    (mk_take : PySem.W.makesIn K c_take = true)
    (kc_take : PySem.W.keepIn K (.ref c_take) = true)
    (m_done_init : PySem.W.findIn K (.ref c_done) "__init__" = some (some (.ref f_Done_init)))
    (mk_done : PySem.W.makesIn K c_done = true)
    (kc_done : PySem.W.keepIn K (.ref c_done) = true)
    (m_stop_init : PySem.W.findIn K (.ref c_stop) "__init__" = some (some (.ref f_Finishing_init)))
    (mk_stop : PySem.W.makesIn K c_stop = true)
    (kc_stop : PySem.W.keepIn K (.ref c_stop) = true)
    (m_clear_init : PySem.W.findIn K (.ref c_clear) "__init__" = some (some (.ref f_Clear_init)))
    (mk_clear : PySem.W.makesIn K c_clear = true)
    (kc_clear : PySem.W.keepIn K (.ref c_clear) = true)
    (m_key_init : PySem.W.findIn K (.ref c_key) "__init__" = some (some (.ref f_Running_init)))
    (mk_key : PySem.W.makesIn K c_key = true)
    (kc_key : PySem.W.keepIn K (.ref c_key) = true)
    (m_sleep_init : PySem.W.findIn K (.ref c_sleep) "__init__" = some (some (.ref f_Sleep_init)))
    (mk_sleep : PySem.W.makesIn K c_sleep = true)
    (kc_sleep : PySem.W.keepIn K (.ref c_sleep) = true)
    (m_wake_init : PySem.W.findIn K (.ref c_wake) "__init__" = some (some (.ref f_Trying_init)))
    (mk_wake : PySem.W.makesIn K c_wake = true)
    (kc_wake : PySem.W.keepIn K (.ref c_wake) = true)
    (m_line_init : PySem.W.findIn K (.ref c_line) "__init__" = some (some (.ref f_Line_init)))
    (mk_line : PySem.W.makesIn K c_line = true)
    (kc_line : PySem.W.keepIn K (.ref c_line) = true)
    (m_offer_begin : PySem.W.findIn K (.ref c_offer) "begin" = some (some (.ref f_Offer_begin)))
    (m_offer_go_on : PySem.W.findIn K (.ref c_offer) "go_on" = some (some (.ref f_Offer_go_on)))
    (m_offer_seek : PySem.W.findIn K (.ref c_offer) "seek" = some (some (.ref f_Offer_seek)))
    (m_offer_claim : PySem.W.findIn K (.ref c_offer) "claim" = some (some (.ref f_Offer_claim)))
    (m_offer_lay : PySem.W.findIn K (.ref c_offer) "lay" = some (some (.ref f_Offer_lay)))
    (m_offer_show : PySem.W.findIn K (.ref c_offer) "show" = some (some (.ref f_Offer_show)))
    (m_take_begin : PySem.W.findIn K (.ref c_take) "begin" = some (some (.ref f_Take_begin)))
    (m_take_go_on : PySem.W.findIn K (.ref c_take) "go_on" = some (some (.ref f_Take_go_on)))
    (m_take_seek : PySem.W.findIn K (.ref c_take) "seek" = some (some (.ref f_Take_seek)))
    (m_take_keep : PySem.W.findIn K (.ref c_take) "keep" = some (some (.ref f_Take_keep)))
    (m_again_begin : PySem.W.findIn K (.ref c_again) "begin" = some (some (.ref f_Again_begin)))
    (m_look_begin : PySem.W.findIn K (.ref c_look) "begin" = some (some (.ref f_Look_begin)))
    (m_look_go_on : PySem.W.findIn K (.ref c_look) "go_on" = some (some (.ref f_Look_go_on)))
    (m_look_ended : PySem.W.findIn K (.ref c_look) "ended" = some (some (.ref f_Look_ended)))
    (m_done_begin : PySem.W.findIn K (.ref c_done) "begin" = some (some (.ref f_Done_begin)))
    (m_done_look_up : PySem.W.findIn K (.ref c_done) "look_up" = some (some (.ref f_Done_look_up)))
    (m_done_judge : PySem.W.findIn K (.ref c_done) "judge" = some (some (.ref f_Done_judge)))
    (m_done_write : PySem.W.findIn K (.ref c_done) "write" = some (some (.ref f_Done_write)))
    (m_done_ended : PySem.W.findIn K (.ref c_done) "ended" = some (some (.ref f_Done_ended)))
    (m_done_go_on : PySem.W.findIn K (.ref c_done) "go_on" = some (some (.ref f_Finishing_go_on)))
    (m_done_begin_finish : PySem.W.findIn K (.ref c_done) "begin_finish" = some (some (.ref f_Finishing_begin_finish)))
    (m_done_finish : PySem.W.findIn K (.ref c_done) "finish" = some (some (.ref f_Finishing_finish)))
    (m_stop_begin : PySem.W.findIn K (.ref c_stop) "begin" = some (some (.ref f_Stop_begin)))
    (m_stop_look_up : PySem.W.findIn K (.ref c_stop) "look_up" = some (some (.ref f_Stop_look_up)))
    (m_stop_judge : PySem.W.findIn K (.ref c_stop) "judge" = some (some (.ref f_Stop_judge)))
    (m_stop_write : PySem.W.findIn K (.ref c_stop) "write" = some (some (.ref f_Stop_write)))
    (m_stop_ended : PySem.W.findIn K (.ref c_stop) "ended" = some (some (.ref f_Stop_ended)))
    (m_stop_go_on : PySem.W.findIn K (.ref c_stop) "go_on" = some (some (.ref f_Finishing_go_on)))
    (m_stop_begin_finish : PySem.W.findIn K (.ref c_stop) "begin_finish" = some (some (.ref f_Finishing_begin_finish)))
    (m_stop_finish : PySem.W.findIn K (.ref c_stop) "finish" = some (some (.ref f_Finishing_finish)))
    (m_clear_begin : PySem.W.findIn K (.ref c_clear) "begin" = some (some (.ref f_Clear_begin)))
    (m_clear_go_on : PySem.W.findIn K (.ref c_clear) "go_on" = some (some (.ref f_Clear_go_on)))
    (m_clear_look_up : PySem.W.findIn K (.ref c_clear) "look_up" = some (some (.ref f_Clear_look_up)))
    (m_clear_judge : PySem.W.findIn K (.ref c_clear) "judge" = some (some (.ref f_Clear_judge)))
    (m_clear_write : PySem.W.findIn K (.ref c_clear) "write" = some (some (.ref f_Clear_write)))
    (m_wake_begin : PySem.W.findIn K (.ref c_wake) "begin" = some (some (.ref f_Wake_begin)))
    (m_wake_go_on : PySem.W.findIn K (.ref c_wake) "go_on" = some (some (.ref f_Wake_go_on)))
    (m_wake_look_up : PySem.W.findIn K (.ref c_wake) "look_up" = some (some (.ref f_Wake_look_up)))
    (m_wake_judge : PySem.W.findIn K (.ref c_wake) "judge" = some (some (.ref f_Wake_judge)))
    (m_wake_write : PySem.W.findIn K (.ref c_wake) "write" = some (some (.ref f_Wake_write)))
    (m_key_begin : PySem.W.findIn K (.ref c_key) "begin" = some (some (.ref f_Key_begin)))
    (m_key_go_on : PySem.W.findIn K (.ref c_key) "go_on" = some (some (.ref f_Key_go_on)))
    (m_sleep_begin : PySem.W.findIn K (.ref c_sleep) "begin" = some (some (.ref f_Sleep_begin)))
    (m_done_attempt : PySem.W.findIn K (.ref c_done) "attempt" = some (some (.ref f_Trying_attempt)))
    (m_done_compare : PySem.W.findIn K (.ref c_done) "compare" = some (some (.ref f_Trying_compare)))
    (m_stop_attempt : PySem.W.findIn K (.ref c_stop) "attempt" = some (some (.ref f_Trying_attempt)))
    (m_stop_compare : PySem.W.findIn K (.ref c_stop) "compare" = some (some (.ref f_Trying_compare)))
    (m_clear_attempt : PySem.W.findIn K (.ref c_clear) "attempt" = some (some (.ref f_Trying_attempt)))
    (m_clear_compare : PySem.W.findIn K (.ref c_clear) "compare" = some (some (.ref f_Trying_compare)))
    (m_wake_attempt : PySem.W.findIn K (.ref c_wake) "attempt" = some (some (.ref f_Trying_attempt)))
    (m_wake_compare : PySem.W.findIn K (.ref c_wake) "compare" = some (some (.ref f_Trying_compare)))
    (m_offer_is_last_fail : PySem.W.findIn K (.ref c_offer) "is_last_fail" = some (some (.ref f_Running_is_last_fail)))
    (m_take_is_last_fail : PySem.W.findIn K (.ref c_take) "is_last_fail" = some (some (.ref f_Running_is_last_fail)))
    (m_done_is_last_fail : PySem.W.findIn K (.ref c_done) "is_last_fail" = some (some (.ref f_Running_is_last_fail)))
    (m_stop_is_last_fail : PySem.W.findIn K (.ref c_stop) "is_last_fail" = some (some (.ref f_Running_is_last_fail)))
    (m_clear_is_last_fail : PySem.W.findIn K (.ref c_clear) "is_last_fail" = some (some (.ref f_Running_is_last_fail)))
    (m_wake_is_last_fail : PySem.W.findIn K (.ref c_wake) "is_last_fail" = some (some (.ref f_Running_is_last_fail)))
    (F_ticket_of : FF K "ticket_of" "ticket_of" s_ticket_of f_ticket_of)
    (F_stamp_of : FF K "stamp_of" "stamp_of" s_stamp_of f_stamp_of)
    (F_is_even : FF K "is_even" "is_even" s_is_even f_is_even)
    (F_slot_of : FF K "slot_of" "slot_of" s_slot_of f_slot_of)
    (F_has_phase : FF K "has_phase" "has_phase" s_has_phase f_has_phase)
    (F_limit_of : FF K "limit_of" "limit_of" s_limit_of f_limit_of)
    (F_given_of : FF K "given_of" "given_of" s_given_of f_given_of)
    (F_is_marked : FF K "is_marked" "is_marked" s_is_marked f_is_marked)
    (F_with_mark : FF K "with_mark" "with_mark" s_with_mark f_with_mark)
    (F_is_done : FF K "is_done" "is_done" s_is_done f_is_done)
    (F_count_done : FF K "count_done" "count_done" s_count_done f_count_done)
    (F_is_complete : FF K "is_complete" "is_complete" s_is_complete f_is_complete)
    (F_unmarked_words : FF K "unmarked_words" "unmarked_words" s_unmarked_words f_unmarked_words)
    (F_has_slice_left : FF K "has_slice_left" "has_slice_left" s_has_slice_left f_has_slice_left)
    (F_tell_board : FF K "tell_board" "tell_board" s_tell_board f_tell_board)
    (F_new_call : FF K "new_call" "new_call" s_new_call f_new_call)
    (F_after_step : FF K "after_step" "after_step" s_after_step f_after_step)
    (F_answer_call : FF K "answer_call" "answer_call" s_answer_call f_answer_call)
    (F_answers : FF K "answers" "answers" s_answers f_answers)
    (F_Running_init : FF K "__init__" "Running.__init__" s_Running_init f_Running_init)
    (i_Running_init : PySem.W.isFn K (.ref f_Running_init) = true)
    (F_Trying_init : FF K "__init__" "Trying.__init__" s_Trying_init f_Trying_init)
    (i_Trying_init : PySem.W.isFn K (.ref f_Trying_init) = true)
    (F_Finishing_init : FF K "__init__" "Finishing.__init__" s_Finishing_init f_Finishing_init)
    (i_Finishing_init : PySem.W.isFn K (.ref f_Finishing_init) = true)
    (F_Slot_init : FF K "__init__" "Slot.__init__" s_Slot_init f_Slot_init)
    (i_Slot_init : PySem.W.isFn K (.ref f_Slot_init) = true)
    (F_Board_init : FF K "__init__" "Board.__init__" s_Board_init f_Board_init)
    (i_Board_init : PySem.W.isFn K (.ref f_Board_init) = true)
    (F_Again_init : FF K "__init__" "Again.__init__" s_Again_init f_Again_init)
    (i_Again_init : PySem.W.isFn K (.ref f_Again_init) = true)
    (F_Look_init : FF K "__init__" "Look.__init__" s_Look_init f_Look_init)
    (i_Look_init : PySem.W.isFn K (.ref f_Look_init) = true)
    (F_Offer_init : FF K "__init__" "Offer.__init__" s_Offer_init f_Offer_init)
    (i_Offer_init : PySem.W.isFn K (.ref f_Offer_init) = true)
    (F_Take_init : FF K "__init__" "Take.__init__" s_Take_init f_Take_init)
    (i_Take_init : PySem.W.isFn K (.ref f_Take_init) = true)
    (F_Done_init : FF K "__init__" "Done.__init__" s_Done_init f_Done_init)
    (i_Done_init : PySem.W.isFn K (.ref f_Done_init) = true)
    (F_Clear_init : FF K "__init__" "Clear.__init__" s_Clear_init f_Clear_init)
    (i_Clear_init : PySem.W.isFn K (.ref f_Clear_init) = true)
    (F_Sleep_init : FF K "__init__" "Sleep.__init__" s_Sleep_init f_Sleep_init)
    (i_Sleep_init : PySem.W.isFn K (.ref f_Sleep_init) = true)
    (F_Line_init : FF K "__init__" "Line.__init__" s_Line_init f_Line_init)
    (i_Line_init : PySem.W.isFn K (.ref f_Line_init) = true)
    (F_Offer_begin : FF K "begin" "Offer.begin" s_Offer_begin f_Offer_begin)
    (i_Offer_begin : PySem.W.isFn K (.ref f_Offer_begin) = true)
    (F_Offer_go_on : FF K "go_on" "Offer.go_on" s_Offer_go_on f_Offer_go_on)
    (i_Offer_go_on : PySem.W.isFn K (.ref f_Offer_go_on) = true)
    (F_Offer_seek : FF K "seek" "Offer.seek" s_Offer_seek f_Offer_seek)
    (i_Offer_seek : PySem.W.isFn K (.ref f_Offer_seek) = true)
    (F_Offer_claim : FF K "claim" "Offer.claim" s_Offer_claim f_Offer_claim)
    (i_Offer_claim : PySem.W.isFn K (.ref f_Offer_claim) = true)
    (F_Offer_lay : FF K "lay" "Offer.lay" s_Offer_lay f_Offer_lay)
    (i_Offer_lay : PySem.W.isFn K (.ref f_Offer_lay) = true)
    (F_Offer_show : FF K "show" "Offer.show" s_Offer_show f_Offer_show)
    (i_Offer_show : PySem.W.isFn K (.ref f_Offer_show) = true)
    (F_Take_begin : FF K "begin" "Take.begin" s_Take_begin f_Take_begin)
    (i_Take_begin : PySem.W.isFn K (.ref f_Take_begin) = true)
    (F_Take_go_on : FF K "go_on" "Take.go_on" s_Take_go_on f_Take_go_on)
    (i_Take_go_on : PySem.W.isFn K (.ref f_Take_go_on) = true)
    (F_Take_seek : FF K "seek" "Take.seek" s_Take_seek f_Take_seek)
    (i_Take_seek : PySem.W.isFn K (.ref f_Take_seek) = true)
    (F_Take_keep : FF K "keep" "Take.keep" s_Take_keep f_Take_keep)
    (i_Take_keep : PySem.W.isFn K (.ref f_Take_keep) = true)
    (F_Again_begin : FF K "begin" "Again.begin" s_Again_begin f_Again_begin)
    (i_Again_begin : PySem.W.isFn K (.ref f_Again_begin) = true)
    (F_Look_begin : FF K "begin" "Look.begin" s_Look_begin f_Look_begin)
    (i_Look_begin : PySem.W.isFn K (.ref f_Look_begin) = true)
    (F_Look_go_on : FF K "go_on" "Look.go_on" s_Look_go_on f_Look_go_on)
    (i_Look_go_on : PySem.W.isFn K (.ref f_Look_go_on) = true)
    (F_Look_ended : FF K "ended" "Look.ended" s_Look_ended f_Look_ended)
    (i_Look_ended : PySem.W.isFn K (.ref f_Look_ended) = true)
    (F_Done_begin : FF K "begin" "Done.begin" s_Done_begin f_Done_begin)
    (i_Done_begin : PySem.W.isFn K (.ref f_Done_begin) = true)
    (F_Done_look_up : FF K "look_up" "Done.look_up" s_Done_look_up f_Done_look_up)
    (i_Done_look_up : PySem.W.isFn K (.ref f_Done_look_up) = true)
    (F_Done_judge : FF K "judge" "Done.judge" s_Done_judge f_Done_judge)
    (i_Done_judge : PySem.W.isFn K (.ref f_Done_judge) = true)
    (F_Done_write : FF K "write" "Done.write" s_Done_write f_Done_write)
    (i_Done_write : PySem.W.isFn K (.ref f_Done_write) = true)
    (F_Done_ended : FF K "ended" "Done.ended" s_Done_ended f_Done_ended)
    (i_Done_ended : PySem.W.isFn K (.ref f_Done_ended) = true)
    (F_Finishing_go_on : FF K "go_on" "Finishing.go_on" s_Finishing_go_on f_Finishing_go_on)
    (i_Finishing_go_on : PySem.W.isFn K (.ref f_Finishing_go_on) = true)
    (F_Finishing_begin_finish : FF K "begin_finish" "Finishing.begin_finish" s_Finishing_begin_finish f_Finishing_begin_finish)
    (i_Finishing_begin_finish : PySem.W.isFn K (.ref f_Finishing_begin_finish) = true)
    (F_Finishing_finish : FF K "finish" "Finishing.finish" s_Finishing_finish f_Finishing_finish)
    (i_Finishing_finish : PySem.W.isFn K (.ref f_Finishing_finish) = true)
    (F_Stop_begin : FF K "begin" "Stop.begin" s_Stop_begin f_Stop_begin)
    (i_Stop_begin : PySem.W.isFn K (.ref f_Stop_begin) = true)
    (F_Stop_look_up : FF K "look_up" "Stop.look_up" s_Stop_look_up f_Stop_look_up)
    (i_Stop_look_up : PySem.W.isFn K (.ref f_Stop_look_up) = true)
    (F_Stop_judge : FF K "judge" "Stop.judge" s_Stop_judge f_Stop_judge)
    (i_Stop_judge : PySem.W.isFn K (.ref f_Stop_judge) = true)
    (F_Stop_write : FF K "write" "Stop.write" s_Stop_write f_Stop_write)
    (i_Stop_write : PySem.W.isFn K (.ref f_Stop_write) = true)
    (F_Stop_ended : FF K "ended" "Stop.ended" s_Stop_ended f_Stop_ended)
    (i_Stop_ended : PySem.W.isFn K (.ref f_Stop_ended) = true)
    (F_Clear_begin : FF K "begin" "Clear.begin" s_Clear_begin f_Clear_begin)
    (i_Clear_begin : PySem.W.isFn K (.ref f_Clear_begin) = true)
    (F_Clear_go_on : FF K "go_on" "Clear.go_on" s_Clear_go_on f_Clear_go_on)
    (i_Clear_go_on : PySem.W.isFn K (.ref f_Clear_go_on) = true)
    (F_Clear_look_up : FF K "look_up" "Clear.look_up" s_Clear_look_up f_Clear_look_up)
    (i_Clear_look_up : PySem.W.isFn K (.ref f_Clear_look_up) = true)
    (F_Clear_judge : FF K "judge" "Clear.judge" s_Clear_judge f_Clear_judge)
    (i_Clear_judge : PySem.W.isFn K (.ref f_Clear_judge) = true)
    (F_Clear_write : FF K "write" "Clear.write" s_Clear_write f_Clear_write)
    (i_Clear_write : PySem.W.isFn K (.ref f_Clear_write) = true)
    (F_Wake_begin : FF K "begin" "Wake.begin" s_Wake_begin f_Wake_begin)
    (i_Wake_begin : PySem.W.isFn K (.ref f_Wake_begin) = true)
    (F_Wake_go_on : FF K "go_on" "Wake.go_on" s_Wake_go_on f_Wake_go_on)
    (i_Wake_go_on : PySem.W.isFn K (.ref f_Wake_go_on) = true)
    (F_Wake_look_up : FF K "look_up" "Wake.look_up" s_Wake_look_up f_Wake_look_up)
    (i_Wake_look_up : PySem.W.isFn K (.ref f_Wake_look_up) = true)
    (F_Wake_judge : FF K "judge" "Wake.judge" s_Wake_judge f_Wake_judge)
    (i_Wake_judge : PySem.W.isFn K (.ref f_Wake_judge) = true)
    (F_Wake_write : FF K "write" "Wake.write" s_Wake_write f_Wake_write)
    (i_Wake_write : PySem.W.isFn K (.ref f_Wake_write) = true)
    (F_Key_begin : FF K "begin" "Key.begin" s_Key_begin f_Key_begin)
    (i_Key_begin : PySem.W.isFn K (.ref f_Key_begin) = true)
    (F_Key_go_on : FF K "go_on" "Key.go_on" s_Key_go_on f_Key_go_on)
    (i_Key_go_on : PySem.W.isFn K (.ref f_Key_go_on) = true)
    (F_Sleep_begin : FF K "begin" "Sleep.begin" s_Sleep_begin f_Sleep_begin)
    (i_Sleep_begin : PySem.W.isFn K (.ref f_Sleep_begin) = true)
    (F_Trying_attempt : FF K "attempt" "Trying.attempt" s_Trying_attempt f_Trying_attempt)
    (i_Trying_attempt : PySem.W.isFn K (.ref f_Trying_attempt) = true)
    (F_Trying_compare : FF K "compare" "Trying.compare" s_Trying_compare f_Trying_compare)
    (i_Trying_compare : PySem.W.isFn K (.ref f_Trying_compare) = true)
    (F_Running_is_last_fail : FF K "is_last_fail" "Running.is_last_fail" s_Running_is_last_fail f_Running_is_last_fail)
    (i_Running_is_last_fail : PySem.W.isFn K (.ref f_Running_is_last_fail) = true) :
    ∃ fd : FuncData, (∀ (s : Shared) (us : List Value), us.length = (["calls"] : List Str).length → BindsTo s fd ⟨us, []⟩ ((["calls"] : List Str).zip us)) ∧ ∀ base : Heap, K.In base → base.Ns mainGlobals mg → FnOk P w K mg base CX0 10 fa fd ["calls"] (spAns K) :=
  comp_mk (Γ := ⟨c_slot, c_board, c_again, c_look, c_offer, c_take, c_done, c_stop, c_clear, c_key, c_sleep, c_wake, c_line, nm, nums⟩) X G hfa a_Slot a_Board a_Again a_Look a_Offer a_Take a_Done a_Stop a_Clear a_Key a_Sleep a_Wake a_Line a_Running a_Trying a_Finishing g_GAP g_NOT_THERE g_DISTURBED g_NO_SUCH_SLICE g_OUT_OF_RANGE g_TRIES g_SLOTS g_WORDS g_MARKS_OF_A_WORD g_MOST_SLICES g_PHASE_FREE g_PHASE_LAID g_PHASE_OPEN g_PHASE_FINISHED g_STAMP g_PHASE g_GIVEN g_STOPPED g_MARKS g_CLAIM g_LAY g_SHOW g_ALREADY g_PARTIES g_OFFER g_TAKE g_AGAIN g_DONE g_STOP g_LOOK g_CLEAR g_KEY g_SLEEP g_GO g_GONE g_BOARD g_AT_GAP g_AT_END g_IS_GONE g_IS_BOARD g_NO_PARTY g_OUT_OF_TURN b_len b_min b_list b_tuple b_range g_NO_MARKS g_NUMBERS l_nm l_nums v_nm v_nums pg_slot hd_slot po_slot sa_slot n_slot_state n_slot_giving n_slot_slices n_slot_kind n_slot_job n_slot_words pg_board hd_board po_board sa_board n_board_event n_board_slots pg_again hd_again po_again sa_again n_again_place n_again_fails n_again_ticket pg_look hd_look po_look sa_look n_look_place n_look_fails n_look_ticket pg_offer hd_offer po_offer sa_offer n_offer_place n_offer_fails n_offer_slices n_offer_kind n_offer_job n_offer_at n_offer_seen n_offer_stage pg_take hd_take po_take sa_take n_take_place n_take_fails n_take_at n_take_seen n_take_told pg_done hd_done po_done sa_done n_done_place n_done_fails n_done_seen n_done_ticket n_done_stamp n_done_written n_done_k pg_stop hd_stop po_stop sa_stop n_stop_place n_stop_fails n_stop_seen n_stop_ticket n_stop_stamp n_stop_written pg_clear hd_clear po_clear sa_clear n_clear_place n_clear_fails n_clear_seen n_clear_ticket n_clear_stamp pg_key hd_key po_key sa_key n_key_place n_key_fails pg_sleep hd_sleep po_sleep sa_sleep n_sleep_place n_sleep_fails n_sleep_number pg_wake hd_wake po_wake sa_wake n_wake_place n_wake_fails n_wake_seen pg_line hd_line po_line sa_line n_line_board n_line_running x_ticket_of x_stamp_of x_is_even x_slot_of x_has_phase x_limit_of x_given_of x_is_marked x_with_mark x_is_done x_count_done x_is_complete x_unmarked_words x_has_slice_left x_tell_board x_new_call x_after_step x_answer_call x_answers x_Running_init r_Running s_Running x_Trying_init r_Trying s_Trying x_Finishing_init r_Finishing s_Finishing m_slot_init mk_slot kc_slot m_board_init mk_board kc_board m_again_init mk_again kc_again m_look_init mk_look kc_look m_offer_init mk_offer kc_offer m_take_init mk_take kc_take m_done_init mk_done kc_done m_stop_init mk_stop kc_stop m_clear_init mk_clear kc_clear m_key_init mk_key kc_key m_sleep_init mk_sleep kc_sleep m_wake_init mk_wake kc_wake m_line_init mk_line kc_line m_offer_begin m_offer_go_on m_offer_seek m_offer_claim m_offer_lay m_offer_show m_take_begin m_take_go_on m_take_seek m_take_keep m_again_begin m_look_begin m_look_go_on m_look_ended m_done_begin m_done_look_up m_done_judge m_done_write m_done_ended m_done_go_on m_done_begin_finish m_done_finish m_stop_begin m_stop_look_up m_stop_judge m_stop_write m_stop_ended m_stop_go_on m_stop_begin_finish m_stop_finish m_clear_begin m_clear_go_on m_clear_look_up m_clear_judge m_clear_write m_wake_begin m_wake_go_on m_wake_look_up m_wake_judge m_wake_write m_key_begin m_key_go_on m_sleep_begin m_done_attempt m_done_compare m_stop_attempt m_stop_compare m_clear_attempt m_clear_compare m_wake_attempt m_wake_compare m_offer_is_last_fail m_take_is_last_fail m_done_is_last_fail m_stop_is_last_fail m_clear_is_last_fail m_wake_is_last_fail F_ticket_of F_stamp_of F_is_even F_slot_of F_has_phase F_limit_of F_given_of F_is_marked F_with_mark F_is_done F_count_done F_is_complete F_unmarked_words F_has_slice_left F_tell_board F_new_call F_after_step F_answer_call F_answers F_Running_init i_Running_init F_Trying_init i_Trying_init F_Finishing_init i_Finishing_init F_Slot_init i_Slot_init F_Board_init i_Board_init F_Again_init i_Again_init F_Look_init i_Look_init F_Offer_init i_Offer_init F_Take_init i_Take_init F_Done_init i_Done_init F_Clear_init i_Clear_init F_Sleep_init i_Sleep_init F_Line_init i_Line_init F_Offer_begin i_Offer_begin F_Offer_go_on i_Offer_go_on F_Offer_seek i_Offer_seek F_Offer_claim i_Offer_claim F_Offer_lay i_Offer_lay F_Offer_show i_Offer_show F_Take_begin i_Take_begin F_Take_go_on i_Take_go_on F_Take_seek i_Take_seek F_Take_keep i_Take_keep F_Again_begin i_Again_begin F_Look_begin i_Look_begin F_Look_go_on i_Look_go_on F_Look_ended i_Look_ended F_Done_begin i_Done_begin F_Done_look_up i_Done_look_up F_Done_judge i_Done_judge F_Done_write i_Done_write F_Done_ended i_Done_ended F_Finishing_go_on i_Finishing_go_on F_Finishing_begin_finish i_Finishing_begin_finish F_Finishing_finish i_Finishing_finish F_Stop_begin i_Stop_begin F_Stop_look_up i_Stop_look_up F_Stop_judge i_Stop_judge F_Stop_write i_Stop_write F_Stop_ended i_Stop_ended F_Clear_begin i_Clear_begin F_Clear_go_on i_Clear_go_on F_Clear_look_up i_Clear_look_up F_Clear_judge i_Clear_judge F_Clear_write i_Clear_write F_Wake_begin i_Wake_begin F_Wake_go_on i_Wake_go_on F_Wake_look_up i_Wake_look_up F_Wake_judge i_Wake_judge F_Wake_write i_Wake_write F_Key_begin i_Key_begin F_Key_go_on i_Key_go_on F_Sleep_begin i_Sleep_begin F_Trying_attempt i_Trying_attempt F_Trying_compare i_Trying_compare F_Running_is_last_fail i_Running_is_last_fail
end Po

/-! Names that are taken, so that the head makes no twin of its largest tables (the twins' equations are of quadratic size, and the head goes through without them). -/
def PySem.W.Fast.tw10006029522868605974 : Unit := ()
def PySem.W.Fast.tw10220476290403685530 : Unit := ()
def PySem.W.Fast.tw10645066332770222623 : Unit := ()
def PySem.W.Fast.tw10667906937602630054 : Unit := ()
def PySem.W.Fast.tw10763870112200378413 : Unit := ()
def PySem.W.Fast.tw1098054072722247216 : Unit := ()
def PySem.W.Fast.tw11031130926428086426 : Unit := ()
def PySem.W.Fast.tw11034986194494517069 : Unit := ()
def PySem.W.Fast.tw11066185353009677674 : Unit := ()
def PySem.W.Fast.tw11410464559652833458 : Unit := ()
def PySem.W.Fast.tw11497566660634448890 : Unit := ()
def PySem.W.Fast.tw11594182994005167362 : Unit := ()
def PySem.W.Fast.tw11698969324974611950 : Unit := ()
def PySem.W.Fast.tw11896749218021045397 : Unit := ()
def PySem.W.Fast.tw11947689469791917976 : Unit := ()
def PySem.W.Fast.tw11979290987904984143 : Unit := ()
def PySem.W.Fast.tw12110061207070634393 : Unit := ()
def PySem.W.Fast.tw12148483492682167853 : Unit := ()
def PySem.W.Fast.tw12181563634105986009 : Unit := ()
def PySem.W.Fast.tw12341453504288278828 : Unit := ()
def PySem.W.Fast.tw1237595128776779806 : Unit := ()
def PySem.W.Fast.tw12403699612283549768 : Unit := ()
def PySem.W.Fast.tw12519114588494471825 : Unit := ()
def PySem.W.Fast.tw12533157857104059937 : Unit := ()
def PySem.W.Fast.tw12624940162244023629 : Unit := ()
def PySem.W.Fast.tw12721983956296824889 : Unit := ()
def PySem.W.Fast.tw12735382918956538645 : Unit := ()
def PySem.W.Fast.tw12781894972292768215 : Unit := ()
def PySem.W.Fast.tw13151532915662590392 : Unit := ()
def PySem.W.Fast.tw13217498705531899387 : Unit := ()
def PySem.W.Fast.tw13229180383768341783 : Unit := ()
def PySem.W.Fast.tw13301673511194564024 : Unit := ()
def PySem.W.Fast.tw13324100152851895064 : Unit := ()
def PySem.W.Fast.tw13389568397668959315 : Unit := ()
def PySem.W.Fast.tw13453248785639104869 : Unit := ()
def PySem.W.Fast.tw13601756916711753588 : Unit := ()
def PySem.W.Fast.tw13609608335903526657 : Unit := ()
def PySem.W.Fast.tw13683815806565436447 : Unit := ()
def PySem.W.Fast.tw13693771880297795800 : Unit := ()
def PySem.W.Fast.tw13722547022362272485 : Unit := ()
def PySem.W.Fast.tw13911667818321392957 : Unit := ()
def PySem.W.Fast.tw13994299897753166941 : Unit := ()
def PySem.W.Fast.tw1419985311993083899 : Unit := ()
def PySem.W.Fast.tw14275841638047278254 : Unit := ()
def PySem.W.Fast.tw14524815351987945096 : Unit := ()
def PySem.W.Fast.tw14555044412511851370 : Unit := ()
def PySem.W.Fast.tw14585666261004030296 : Unit := ()
def PySem.W.Fast.tw14853100176039500845 : Unit := ()
def PySem.W.Fast.tw14887134806173233528 : Unit := ()
def PySem.W.Fast.tw14899312730291581972 : Unit := ()
def PySem.W.Fast.tw14981847970526182082 : Unit := ()
def PySem.W.Fast.tw15025346044902079074 : Unit := ()
def PySem.W.Fast.tw15085820661867570477 : Unit := ()
def PySem.W.Fast.tw15147849006070408151 : Unit := ()
def PySem.W.Fast.tw15315815261571177583 : Unit := ()
def PySem.W.Fast.tw15343153436002769633 : Unit := ()
def PySem.W.Fast.tw15973956510159670360 : Unit := ()
def PySem.W.Fast.tw15980521678872761419 : Unit := ()
def PySem.W.Fast.tw16013774521817047937 : Unit := ()
def PySem.W.Fast.tw16109815189088780301 : Unit := ()
def PySem.W.Fast.tw16178382291257153487 : Unit := ()
def PySem.W.Fast.tw16378111341018607665 : Unit := ()
def PySem.W.Fast.tw16404911994854343281 : Unit := ()
def PySem.W.Fast.tw16449473557035250038 : Unit := ()
def PySem.W.Fast.tw16464574505648414713 : Unit := ()
def PySem.W.Fast.tw1652746093840828491 : Unit := ()
def PySem.W.Fast.tw16649551417137606453 : Unit := ()
def PySem.W.Fast.tw16704938665683037168 : Unit := ()
def PySem.W.Fast.tw16715461723614852468 : Unit := ()
def PySem.W.Fast.tw16983571704107928617 : Unit := ()
def PySem.W.Fast.tw17220613111322111030 : Unit := ()
def PySem.W.Fast.tw17347493094437765514 : Unit := ()
def PySem.W.Fast.tw17370343306147799083 : Unit := ()
def PySem.W.Fast.tw17373913738159818110 : Unit := ()
def PySem.W.Fast.tw17441618797502965784 : Unit := ()
def PySem.W.Fast.tw17491019968032522604 : Unit := ()
def PySem.W.Fast.tw17562385452981516696 : Unit := ()
def PySem.W.Fast.tw17883828992944328261 : Unit := ()
def PySem.W.Fast.tw18298585419587875839 : Unit := ()
def PySem.W.Fast.tw18308231455478357415 : Unit := ()
def PySem.W.Fast.tw2057617389579420254 : Unit := ()
def PySem.W.Fast.tw2070696246998621310 : Unit := ()
def PySem.W.Fast.tw2422923305079318221 : Unit := ()
def PySem.W.Fast.tw248662431515075722 : Unit := ()
def PySem.W.Fast.tw2729399522477324264 : Unit := ()
def PySem.W.Fast.tw2757565587996204643 : Unit := ()
def PySem.W.Fast.tw2820760956833732840 : Unit := ()
def PySem.W.Fast.tw2846328769250799462 : Unit := ()
def PySem.W.Fast.tw2929506203894401488 : Unit := ()
def PySem.W.Fast.tw3120387457160772898 : Unit := ()
def PySem.W.Fast.tw3146975488692265201 : Unit := ()
def PySem.W.Fast.tw3243777690365717653 : Unit := ()
def PySem.W.Fast.tw3267738505741313490 : Unit := ()
def PySem.W.Fast.tw3268434833963752030 : Unit := ()
def PySem.W.Fast.tw3437231626628302321 : Unit := ()
def PySem.W.Fast.tw3552625966172175195 : Unit := ()
def PySem.W.Fast.tw3578560932397531446 : Unit := ()
def PySem.W.Fast.tw3649445739351406046 : Unit := ()
def PySem.W.Fast.tw3659551900353398044 : Unit := ()
def PySem.W.Fast.tw3682891523890050482 : Unit := ()
def PySem.W.Fast.tw3753220558332573715 : Unit := ()
def PySem.W.Fast.tw3780467914269798085 : Unit := ()
def PySem.W.Fast.tw3863471980252079454 : Unit := ()
def PySem.W.Fast.tw3916765643917517728 : Unit := ()
def PySem.W.Fast.tw4048891484350637929 : Unit := ()
def PySem.W.Fast.tw4345195366042093080 : Unit := ()
def PySem.W.Fast.tw442487008639807730 : Unit := ()
def PySem.W.Fast.tw4451815420089485206 : Unit := ()
def PySem.W.Fast.tw4470703948366653624 : Unit := ()
def PySem.W.Fast.tw4503623959074107237 : Unit := ()
def PySem.W.Fast.tw4575932117390744851 : Unit := ()
def PySem.W.Fast.tw4587393951001181893 : Unit := ()
def PySem.W.Fast.tw4639878699212989257 : Unit := ()
def PySem.W.Fast.tw4951184816554263398 : Unit := ()
def PySem.W.Fast.tw4959462478470094697 : Unit := ()
def PySem.W.Fast.tw4991954856920404927 : Unit := ()
def PySem.W.Fast.tw5013713712079909404 : Unit := ()
def PySem.W.Fast.tw5066188757020651271 : Unit := ()
def PySem.W.Fast.tw5096072941641755056 : Unit := ()
def PySem.W.Fast.tw5257254501901069089 : Unit := ()
def PySem.W.Fast.tw5289140403560694159 : Unit := ()
def PySem.W.Fast.tw5384845193376725574 : Unit := ()
def PySem.W.Fast.tw5391983150156121188 : Unit := ()
def PySem.W.Fast.tw549380133287763724 : Unit := ()
def PySem.W.Fast.tw5580966678436965205 : Unit := ()
def PySem.W.Fast.tw5598113273746489351 : Unit := ()
def PySem.W.Fast.tw5739186879746982120 : Unit := ()
def PySem.W.Fast.tw5757074541009695403 : Unit := ()
def PySem.W.Fast.tw5782592115062170175 : Unit := ()
def PySem.W.Fast.tw5957632485148475873 : Unit := ()
def PySem.W.Fast.tw5987932625726640428 : Unit := ()
def PySem.W.Fast.tw6047736080129000519 : Unit := ()
def PySem.W.Fast.tw6355196876159008027 : Unit := ()
def PySem.W.Fast.tw635684457207377280 : Unit := ()
def PySem.W.Fast.tw6367613244891715087 : Unit := ()
def PySem.W.Fast.tw6402757123117135772 : Unit := ()
def PySem.W.Fast.tw6443228897763750153 : Unit := ()
def PySem.W.Fast.tw6447827097975633579 : Unit := ()
def PySem.W.Fast.tw6462365751174240444 : Unit := ()
def PySem.W.Fast.tw6563201620048383793 : Unit := ()
def PySem.W.Fast.tw6571798789614377976 : Unit := ()
def PySem.W.Fast.tw6678270594562429219 : Unit := ()
def PySem.W.Fast.tw6706329494296844640 : Unit := ()
def PySem.W.Fast.tw6709631324325310533 : Unit := ()
def PySem.W.Fast.tw6713993242461675472 : Unit := ()
def PySem.W.Fast.tw6807502841690402383 : Unit := ()
def PySem.W.Fast.tw6892401759556149669 : Unit := ()
def PySem.W.Fast.tw6952285682343456820 : Unit := ()
def PySem.W.Fast.tw697112078547525035 : Unit := ()
def PySem.W.Fast.tw7018569466483401994 : Unit := ()
def PySem.W.Fast.tw7179361333768783829 : Unit := ()
def PySem.W.Fast.tw7239984581505895863 : Unit := ()
def PySem.W.Fast.tw7425555858272787180 : Unit := ()
def PySem.W.Fast.tw7432381338677785796 : Unit := ()
def PySem.W.Fast.tw763482786000462909 : Unit := ()
def PySem.W.Fast.tw7659194791772928696 : Unit := ()
def PySem.W.Fast.tw7876104156799222373 : Unit := ()
def PySem.W.Fast.tw7911897321746832864 : Unit := ()
def PySem.W.Fast.tw7976327113395922103 : Unit := ()
def PySem.W.Fast.tw8197473651815580799 : Unit := ()
def PySem.W.Fast.tw8240107010821842127 : Unit := ()
def PySem.W.Fast.tw8393588347438546672 : Unit := ()
def PySem.W.Fast.tw8428631344399908383 : Unit := ()
def PySem.W.Fast.tw8522293554113397207 : Unit := ()
def PySem.W.Fast.tw8565147083564553667 : Unit := ()
def PySem.W.Fast.tw8591676407298667530 : Unit := ()
def PySem.W.Fast.tw8684872447484785036 : Unit := ()
def PySem.W.Fast.tw8796085480988978013 : Unit := ()
def PySem.W.Fast.tw8826157756384036303 : Unit := ()
def PySem.W.Fast.tw8872908314228066356 : Unit := ()
def PySem.W.Fast.tw895565270411972497 : Unit := ()
def PySem.W.Fast.tw9057271116316203654 : Unit := ()
def PySem.W.Fast.tw916333601984407937 : Unit := ()
def PySem.W.Fast.tw9298110161065824875 : Unit := ()
def PySem.W.Fast.tw9467046248440787677 : Unit := ()
def PySem.W.Fast.tw9497342074416948749 : Unit := ()
def PySem.W.Fast.tw9639512840470029265 : Unit := ()
def PySem.W.Fast.tw9684188591760108722 : Unit := ()
def PySem.W.Fast.tw9684274312625257095 : Unit := ()
def PySem.W.Fast.tw9760814218713569328 : Unit := ()
def PySem.W.Fast.tw9847688938837273127 : Unit := ()
def PySem.W.Fast.tw996154252812195213 : Unit := ()
def PySem.W.Fast.tw9966331541651389579 : Unit := ()
open PySem PySem.W PyProof.Rows
set_option maxRecDepth 100000 in
set_option maxHeartbeats 0 in
theorem PySem.Challenge.cw_slicepool_s01_answers_holds : PySem.Challenge.rw_slicepool_s01_answers.Holds := by
  w_on; k_headS; (case hw => exact ⟨[.list [.int 12]], by decide +kernel, by decide +kernel⟩)
  k_fillS
  refine L2.walk_specK (r := PySem.Challenge.rw_slicepool_s01_answers) (k := 10) (CX := L2.CX0) (ps := ["calls"]) (sp := Po.spAns) (by decide +kernel) rfl rfl ⟨rfl, by decide, by decide⟩ (fun w h Y => PySem.W.kIn_of Y) ?F ?S (fun _ _ _ _ z => z)
  case F =>
    intro w mg fa h Y KX G hmg
    refine' Po.top_mk KX G hmg ?a_Slot ?a_Board ?a_Again ?a_Look ?a_Offer ?a_Take ?a_Done ?a_Stop ?a_Clear ?a_Key ?a_Sleep ?a_Wake ?a_Line ?a_Running ?a_Trying ?a_Finishing ?g_GAP ?g_NOT_THERE ?g_DISTURBED ?g_NO_SUCH_SLICE ?g_OUT_OF_RANGE ?g_TRIES ?g_SLOTS ?g_WORDS ?g_MARKS_OF_A_WORD ?g_MOST_SLICES ?g_PHASE_FREE ?g_PHASE_LAID ?g_PHASE_OPEN ?g_PHASE_FINISHED ?g_STAMP ?g_PHASE ?g_GIVEN ?g_STOPPED ?g_MARKS ?g_CLAIM ?g_LAY ?g_SHOW ?g_ALREADY ?g_PARTIES ?g_OFFER ?g_TAKE ?g_AGAIN ?g_DONE ?g_STOP ?g_LOOK ?g_CLEAR ?g_KEY ?g_SLEEP ?g_GO ?g_GONE ?g_BOARD ?g_AT_GAP ?g_AT_END ?g_IS_GONE ?g_IS_BOARD ?g_NO_PARTY ?g_OUT_OF_TURN ?b_len ?b_min ?b_list ?b_tuple ?b_range ?g_NO_MARKS ?g_NUMBERS ?l_nm ?l_nums ?v_nm ?v_nums ?pg_slot ?hd_slot ?po_slot ?sa_slot ?n_slot_state ?n_slot_giving ?n_slot_slices ?n_slot_kind ?n_slot_job ?n_slot_words ?pg_board ?hd_board ?po_board ?sa_board ?n_board_event ?n_board_slots ?pg_again ?hd_again ?po_again ?sa_again ?n_again_place ?n_again_fails ?n_again_ticket ?pg_look ?hd_look ?po_look ?sa_look ?n_look_place ?n_look_fails ?n_look_ticket ?pg_offer ?hd_offer ?po_offer ?sa_offer ?n_offer_place ?n_offer_fails ?n_offer_slices ?n_offer_kind ?n_offer_job ?n_offer_at ?n_offer_seen ?n_offer_stage ?pg_take ?hd_take ?po_take ?sa_take ?n_take_place ?n_take_fails ?n_take_at ?n_take_seen ?n_take_told ?pg_done ?hd_done ?po_done ?sa_done ?n_done_place ?n_done_fails ?n_done_seen ?n_done_ticket ?n_done_stamp ?n_done_written ?n_done_k ?pg_stop ?hd_stop ?po_stop ?sa_stop ?n_stop_place ?n_stop_fails ?n_stop_seen ?n_stop_ticket ?n_stop_stamp ?n_stop_written ?pg_clear ?hd_clear ?po_clear ?sa_clear ?n_clear_place ?n_clear_fails ?n_clear_seen ?n_clear_ticket ?n_clear_stamp ?pg_key ?hd_key ?po_key ?sa_key ?n_key_place ?n_key_fails ?pg_sleep ?hd_sleep ?po_sleep ?sa_sleep ?n_sleep_place ?n_sleep_fails ?n_sleep_number ?pg_wake ?hd_wake ?po_wake ?sa_wake ?n_wake_place ?n_wake_fails ?n_wake_seen ?pg_line ?hd_line ?po_line ?sa_line ?n_line_board ?n_line_running ?x_ticket_of ?x_stamp_of ?x_is_even ?x_slot_of ?x_has_phase ?x_limit_of ?x_given_of ?x_is_marked ?x_with_mark ?x_is_done ?x_count_done ?x_is_complete ?x_unmarked_words ?x_has_slice_left ?x_tell_board ?x_new_call ?x_after_step ?x_answer_call ?x_answers ?x_Running_init ?r_Running ?s_Running ?x_Trying_init ?r_Trying ?s_Trying ?x_Finishing_init ?r_Finishing ?s_Finishing ?m_slot_init ?mk_slot ?kc_slot ?m_board_init ?mk_board ?kc_board ?m_again_init ?mk_again ?kc_again ?m_look_init ?mk_look ?kc_look ?m_offer_init ?mk_offer ?kc_offer ?m_take_init ?mk_take ?kc_take ?m_done_init ?mk_done ?kc_done ?m_stop_init ?mk_stop ?kc_stop ?m_clear_init ?mk_clear ?kc_clear ?m_key_init ?mk_key ?kc_key ?m_sleep_init ?mk_sleep ?kc_sleep ?m_wake_init ?mk_wake ?kc_wake ?m_line_init ?mk_line ?kc_line ?m_offer_begin ?m_offer_go_on ?m_offer_seek ?m_offer_claim ?m_offer_lay ?m_offer_show ?m_take_begin ?m_take_go_on ?m_take_seek ?m_take_keep ?m_again_begin ?m_look_begin ?m_look_go_on ?m_look_ended ?m_done_begin ?m_done_look_up ?m_done_judge ?m_done_write ?m_done_ended ?m_done_go_on ?m_done_begin_finish ?m_done_finish ?m_stop_begin ?m_stop_look_up ?m_stop_judge ?m_stop_write ?m_stop_ended ?m_stop_go_on ?m_stop_begin_finish ?m_stop_finish ?m_clear_begin ?m_clear_go_on ?m_clear_look_up ?m_clear_judge ?m_clear_write ?m_wake_begin ?m_wake_go_on ?m_wake_look_up ?m_wake_judge ?m_wake_write ?m_key_begin ?m_key_go_on ?m_sleep_begin ?m_done_attempt ?m_done_compare ?m_stop_attempt ?m_stop_compare ?m_clear_attempt ?m_clear_compare ?m_wake_attempt ?m_wake_compare ?m_offer_is_last_fail ?m_take_is_last_fail ?m_done_is_last_fail ?m_stop_is_last_fail ?m_clear_is_last_fail ?m_wake_is_last_fail ?F_ticket_of ?F_stamp_of ?F_is_even ?F_slot_of ?F_has_phase ?F_limit_of ?F_given_of ?F_is_marked ?F_with_mark ?F_is_done ?F_count_done ?F_is_complete ?F_unmarked_words ?F_has_slice_left ?F_tell_board ?F_new_call ?F_after_step ?F_answer_call ?F_answers ?F_Running_init ?i_Running_init ?F_Trying_init ?i_Trying_init ?F_Finishing_init ?i_Finishing_init ?F_Slot_init ?i_Slot_init ?F_Board_init ?i_Board_init ?F_Again_init ?i_Again_init ?F_Look_init ?i_Look_init ?F_Offer_init ?i_Offer_init ?F_Take_init ?i_Take_init ?F_Done_init ?i_Done_init ?F_Clear_init ?i_Clear_init ?F_Sleep_init ?i_Sleep_init ?F_Line_init ?i_Line_init ?F_Offer_begin ?i_Offer_begin ?F_Offer_go_on ?i_Offer_go_on ?F_Offer_seek ?i_Offer_seek ?F_Offer_claim ?i_Offer_claim ?F_Offer_lay ?i_Offer_lay ?F_Offer_show ?i_Offer_show ?F_Take_begin ?i_Take_begin ?F_Take_go_on ?i_Take_go_on ?F_Take_seek ?i_Take_seek ?F_Take_keep ?i_Take_keep ?F_Again_begin ?i_Again_begin ?F_Look_begin ?i_Look_begin ?F_Look_go_on ?i_Look_go_on ?F_Look_ended ?i_Look_ended ?F_Done_begin ?i_Done_begin ?F_Done_look_up ?i_Done_look_up ?F_Done_judge ?i_Done_judge ?F_Done_write ?i_Done_write ?F_Done_ended ?i_Done_ended ?F_Finishing_go_on ?i_Finishing_go_on ?F_Finishing_begin_finish ?i_Finishing_begin_finish ?F_Finishing_finish ?i_Finishing_finish ?F_Stop_begin ?i_Stop_begin ?F_Stop_look_up ?i_Stop_look_up ?F_Stop_judge ?i_Stop_judge ?F_Stop_write ?i_Stop_write ?F_Stop_ended ?i_Stop_ended ?F_Clear_begin ?i_Clear_begin ?F_Clear_go_on ?i_Clear_go_on ?F_Clear_look_up ?i_Clear_look_up ?F_Clear_judge ?i_Clear_judge ?F_Clear_write ?i_Clear_write ?F_Wake_begin ?i_Wake_begin ?F_Wake_go_on ?i_Wake_go_on ?F_Wake_look_up ?i_Wake_look_up ?F_Wake_judge ?i_Wake_judge ?F_Wake_write ?i_Wake_write ?F_Key_begin ?i_Key_begin ?F_Key_go_on ?i_Key_go_on ?F_Sleep_begin ?i_Sleep_begin ?F_Trying_attempt ?i_Trying_attempt ?F_Trying_compare ?i_Trying_compare ?F_Running_is_last_fail ?i_Running_is_last_fail
    (case a_Slot => k_is)
    (case a_Board => k_is)
    (case a_Again => k_is)
    (case a_Look => k_is)
    (case a_Offer => k_is)
    (case a_Take => k_is)
    (case a_Done => k_is)
    (case a_Stop => k_is)
    (case a_Clear => k_is)
    (case a_Key => k_is)
    (case a_Sleep => k_is)
    (case a_Wake => k_is)
    (case a_Line => k_is)
    (case a_Running => k_is)
    (case a_Trying => k_is)
    (case a_Finishing => k_is)
    (case g_GAP => k_is)
    (case g_NOT_THERE => k_is)
    (case g_DISTURBED => k_is)
    (case g_NO_SUCH_SLICE => k_is)
    (case g_OUT_OF_RANGE => k_is)
    (case g_TRIES => k_is)
    (case g_SLOTS => k_is)
    (case g_WORDS => k_is)
    (case g_MARKS_OF_A_WORD => k_is)
    (case g_MOST_SLICES => k_is)
    (case g_PHASE_FREE => k_is)
    (case g_PHASE_LAID => k_is)
    (case g_PHASE_OPEN => k_is)
    (case g_PHASE_FINISHED => k_is)
    (case g_STAMP => k_is)
    (case g_PHASE => k_is)
    (case g_GIVEN => k_is)
    (case g_STOPPED => k_is)
    (case g_MARKS => k_is)
    (case g_CLAIM => k_is)
    (case g_LAY => k_is)
    (case g_SHOW => k_is)
    (case g_ALREADY => k_is)
    (case g_PARTIES => k_is)
    (case g_OFFER => k_is)
    (case g_TAKE => k_is)
    (case g_AGAIN => k_is)
    (case g_DONE => k_is)
    (case g_STOP => k_is)
    (case g_LOOK => k_is)
    (case g_CLEAR => k_is)
    (case g_KEY => k_is)
    (case g_SLEEP => k_is)
    (case g_GO => k_is)
    (case g_GONE => k_is)
    (case g_BOARD => k_is)
    (case g_AT_GAP => k_is)
    (case g_AT_END => k_is)
    (case g_IS_GONE => k_is)
    (case g_IS_BOARD => k_is)
    (case g_NO_PARTY => k_is)
    (case g_OUT_OF_TURN => k_is)
    (case b_len => k_is)
    (case b_min => k_is)
    (case b_list => k_is)
    (case b_tuple => k_is)
    (case b_range => k_is)
    (case g_NO_MARKS => k_is)
    (case g_NUMBERS => k_is)
    (case l_nm => k_is)
    (case l_nums => k_is)
    (case v_nm => rfl)
    (case v_nums => rfl)
    (case pg_slot => k_is)
    (case hd_slot => k_is)
    (case po_slot => k_is)
    (case sa_slot => k_is)
    (case n_slot_state => k_is)
    (case n_slot_giving => k_is)
    (case n_slot_slices => k_is)
    (case n_slot_kind => k_is)
    (case n_slot_job => k_is)
    (case n_slot_words => k_is)
    (case pg_board => k_is)
    (case hd_board => k_is)
    (case po_board => k_is)
    (case sa_board => k_is)
    (case n_board_event => k_is)
    (case n_board_slots => k_is)
    (case pg_again => k_is)
    (case hd_again => k_is)
    (case po_again => k_is)
    (case sa_again => k_is)
    (case n_again_place => k_is)
    (case n_again_fails => k_is)
    (case n_again_ticket => k_is)
    (case pg_look => k_is)
    (case hd_look => k_is)
    (case po_look => k_is)
    (case sa_look => k_is)
    (case n_look_place => k_is)
    (case n_look_fails => k_is)
    (case n_look_ticket => k_is)
    (case pg_offer => k_is)
    (case hd_offer => k_is)
    (case po_offer => k_is)
    (case sa_offer => k_is)
    (case n_offer_place => k_is)
    (case n_offer_fails => k_is)
    (case n_offer_slices => k_is)
    (case n_offer_kind => k_is)
    (case n_offer_job => k_is)
    (case n_offer_at => k_is)
    (case n_offer_seen => k_is)
    (case n_offer_stage => k_is)
    (case pg_take => k_is)
    (case hd_take => k_is)
    (case po_take => k_is)
    (case sa_take => k_is)
    (case n_take_place => k_is)
    (case n_take_fails => k_is)
    (case n_take_at => k_is)
    (case n_take_seen => k_is)
    (case n_take_told => k_is)
    (case pg_done => k_is)
    (case hd_done => k_is)
    (case po_done => k_is)
    (case sa_done => k_is)
    (case n_done_place => k_is)
    (case n_done_fails => k_is)
    (case n_done_seen => k_is)
    (case n_done_ticket => k_is)
    (case n_done_stamp => k_is)
    (case n_done_written => k_is)
    (case n_done_k => k_is)
    (case pg_stop => k_is)
    (case hd_stop => k_is)
    (case po_stop => k_is)
    (case sa_stop => k_is)
    (case n_stop_place => k_is)
    (case n_stop_fails => k_is)
    (case n_stop_seen => k_is)
    (case n_stop_ticket => k_is)
    (case n_stop_stamp => k_is)
    (case n_stop_written => k_is)
    (case pg_clear => k_is)
    (case hd_clear => k_is)
    (case po_clear => k_is)
    (case sa_clear => k_is)
    (case n_clear_place => k_is)
    (case n_clear_fails => k_is)
    (case n_clear_seen => k_is)
    (case n_clear_ticket => k_is)
    (case n_clear_stamp => k_is)
    (case pg_key => k_is)
    (case hd_key => k_is)
    (case po_key => k_is)
    (case sa_key => k_is)
    (case n_key_place => k_is)
    (case n_key_fails => k_is)
    (case pg_sleep => k_is)
    (case hd_sleep => k_is)
    (case po_sleep => k_is)
    (case sa_sleep => k_is)
    (case n_sleep_place => k_is)
    (case n_sleep_fails => k_is)
    (case n_sleep_number => k_is)
    (case pg_wake => k_is)
    (case hd_wake => k_is)
    (case po_wake => k_is)
    (case sa_wake => k_is)
    (case n_wake_place => k_is)
    (case n_wake_fails => k_is)
    (case n_wake_seen => k_is)
    (case pg_line => k_is)
    (case hd_line => k_is)
    (case po_line => k_is)
    (case sa_line => k_is)
    (case n_line_board => k_is)
    (case n_line_running => k_is)
    (case x_ticket_of => k_is)
    (case x_stamp_of => k_is)
    (case x_is_even => k_is)
    (case x_slot_of => k_is)
    (case x_has_phase => k_is)
    (case x_limit_of => k_is)
    (case x_given_of => k_is)
    (case x_is_marked => k_is)
    (case x_with_mark => k_is)
    (case x_is_done => k_is)
    (case x_count_done => k_is)
    (case x_is_complete => k_is)
    (case x_unmarked_words => k_is)
    (case x_has_slice_left => k_is)
    (case x_tell_board => k_is)
    (case x_new_call => k_is)
    (case x_after_step => k_is)
    (case x_answer_call => k_is)
    (case x_answers => k_is)
    (case x_Running_init => k_is)
    (case r_Running => k_is)
    (case s_Running => k_is)
    (case x_Trying_init => k_is)
    (case r_Trying => k_is)
    (case s_Trying => k_is)
    (case x_Finishing_init => k_is)
    (case r_Finishing => k_is)
    (case s_Finishing => k_is)
    (case m_slot_init => k_is)
    (case mk_slot => k_is)
    (case kc_slot => k_is)
    (case m_board_init => k_is)
    (case mk_board => k_is)
    (case kc_board => k_is)
    (case m_again_init => k_is)
    (case mk_again => k_is)
    (case kc_again => k_is)
    (case m_look_init => k_is)
    (case mk_look => k_is)
    (case kc_look => k_is)
    (case m_offer_init => k_is)
    (case mk_offer => k_is)
    (case kc_offer => k_is)
    (case m_take_init => k_is)
    (case mk_take => k_is)
    (case kc_take => k_is)
    (case m_done_init => k_is)
    (case mk_done => k_is)
    (case kc_done => k_is)
    (case m_stop_init => k_is)
    (case mk_stop => k_is)
    (case kc_stop => k_is)
    (case m_clear_init => k_is)
    (case mk_clear => k_is)
    (case kc_clear => k_is)
    (case m_key_init => k_is)
    (case mk_key => k_is)
    (case kc_key => k_is)
    (case m_sleep_init => k_is)
    (case mk_sleep => k_is)
    (case kc_sleep => k_is)
    (case m_wake_init => k_is)
    (case mk_wake => k_is)
    (case kc_wake => k_is)
    (case m_line_init => k_is)
    (case mk_line => k_is)
    (case kc_line => k_is)
    (case m_offer_begin => k_is)
    (case m_offer_go_on => k_is)
    (case m_offer_seek => k_is)
    (case m_offer_claim => k_is)
    (case m_offer_lay => k_is)
    (case m_offer_show => k_is)
    (case m_take_begin => k_is)
    (case m_take_go_on => k_is)
    (case m_take_seek => k_is)
    (case m_take_keep => k_is)
    (case m_again_begin => k_is)
    (case m_look_begin => k_is)
    (case m_look_go_on => k_is)
    (case m_look_ended => k_is)
    (case m_done_begin => k_is)
    (case m_done_look_up => k_is)
    (case m_done_judge => k_is)
    (case m_done_write => k_is)
    (case m_done_ended => k_is)
    (case m_done_go_on => k_is)
    (case m_done_begin_finish => k_is)
    (case m_done_finish => k_is)
    (case m_stop_begin => k_is)
    (case m_stop_look_up => k_is)
    (case m_stop_judge => k_is)
    (case m_stop_write => k_is)
    (case m_stop_ended => k_is)
    (case m_stop_go_on => k_is)
    (case m_stop_begin_finish => k_is)
    (case m_stop_finish => k_is)
    (case m_clear_begin => k_is)
    (case m_clear_go_on => k_is)
    (case m_clear_look_up => k_is)
    (case m_clear_judge => k_is)
    (case m_clear_write => k_is)
    (case m_wake_begin => k_is)
    (case m_wake_go_on => k_is)
    (case m_wake_look_up => k_is)
    (case m_wake_judge => k_is)
    (case m_wake_write => k_is)
    (case m_key_begin => k_is)
    (case m_key_go_on => k_is)
    (case m_sleep_begin => k_is)
    (case m_done_attempt => k_is)
    (case m_done_compare => k_is)
    (case m_stop_attempt => k_is)
    (case m_stop_compare => k_is)
    (case m_clear_attempt => k_is)
    (case m_clear_compare => k_is)
    (case m_wake_attempt => k_is)
    (case m_wake_compare => k_is)
    (case m_offer_is_last_fail => k_is)
    (case m_take_is_last_fail => k_is)
    (case m_done_is_last_fail => k_is)
    (case m_stop_is_last_fail => k_is)
    (case m_clear_is_last_fail => k_is)
    (case m_wake_is_last_fail => k_is)
    (case F_ticket_of => (refine' Po.ff_mk ?l ?c ?k; (case l => k_is); (case c => k_is); (case k => k_is)))
    (case F_stamp_of => (refine' Po.ff_mk ?l ?c ?k; (case l => k_is); (case c => k_is); (case k => k_is)))
    (case F_is_even => (refine' Po.ff_mk ?l ?c ?k; (case l => k_is); (case c => k_is); (case k => k_is)))
    (case F_slot_of => (refine' Po.ff_mk ?l ?c ?k; (case l => k_is); (case c => k_is); (case k => k_is)))
    (case F_has_phase => (refine' Po.ff_mk ?l ?c ?k; (case l => k_is); (case c => k_is); (case k => k_is)))
    (case F_limit_of => (refine' Po.ff_mk ?l ?c ?k; (case l => k_is); (case c => k_is); (case k => k_is)))
    (case F_given_of => (refine' Po.ff_mk ?l ?c ?k; (case l => k_is); (case c => k_is); (case k => k_is)))
    (case F_is_marked => (refine' Po.ff_mk ?l ?c ?k; (case l => k_is); (case c => k_is); (case k => k_is)))
    (case F_with_mark => (refine' Po.ff_mk ?l ?c ?k; (case l => k_is); (case c => k_is); (case k => k_is)))
    (case F_is_done => (refine' Po.ff_mk ?l ?c ?k; (case l => k_is); (case c => k_is); (case k => k_is)))
    (case F_count_done => (refine' Po.ff_mk ?l ?c ?k; (case l => k_is); (case c => k_is); (case k => k_is)))
    (case F_is_complete => (refine' Po.ff_mk ?l ?c ?k; (case l => k_is); (case c => k_is); (case k => k_is)))
    (case F_unmarked_words => (refine' Po.ff_mk ?l ?c ?k; (case l => k_is); (case c => k_is); (case k => k_is)))
    (case F_has_slice_left => (refine' Po.ff_mk ?l ?c ?k; (case l => k_is); (case c => k_is); (case k => k_is)))
    (case F_tell_board => (refine' Po.ff_mk ?l ?c ?k; (case l => k_is); (case c => k_is); (case k => k_is)))
    (case F_new_call => (refine' Po.ff_mk ?l ?c ?k; (case l => k_is); (case c => k_is); (case k => k_is)))
    (case F_after_step => (refine' Po.ff_mk ?l ?c ?k; (case l => k_is); (case c => k_is); (case k => k_is)))
    (case F_answer_call => (refine' Po.ff_mk ?l ?c ?k; (case l => k_is); (case c => k_is); (case k => k_is)))
    (case F_answers => (refine' Po.ff_mk ?l ?c ?k; (case l => k_is); (case c => k_is); (case k => k_is)))
    (case F_Running_init => (refine' Po.ff_mk ?l ?c ?k; (case l => k_is); (case c => k_is); (case k => k_is)))
    (case i_Running_init => k_is)
    (case F_Trying_init => (refine' Po.ff_mk ?l ?c ?k; (case l => k_is); (case c => k_is); (case k => k_is)))
    (case i_Trying_init => k_is)
    (case F_Finishing_init => (refine' Po.ff_mk ?l ?c ?k; (case l => k_is); (case c => k_is); (case k => k_is)))
    (case i_Finishing_init => k_is)
    (case F_Slot_init => (refine' Po.ff_mk ?l ?c ?k; (case l => k_is); (case c => k_is); (case k => k_is)))
    (case i_Slot_init => k_is)
    (case F_Board_init => (refine' Po.ff_mk ?l ?c ?k; (case l => k_is); (case c => k_is); (case k => k_is)))
    (case i_Board_init => k_is)
    (case F_Again_init => (refine' Po.ff_mk ?l ?c ?k; (case l => k_is); (case c => k_is); (case k => k_is)))
    (case i_Again_init => k_is)
    (case F_Look_init => (refine' Po.ff_mk ?l ?c ?k; (case l => k_is); (case c => k_is); (case k => k_is)))
    (case i_Look_init => k_is)
    (case F_Offer_init => (refine' Po.ff_mk ?l ?c ?k; (case l => k_is); (case c => k_is); (case k => k_is)))
    (case i_Offer_init => k_is)
    (case F_Take_init => (refine' Po.ff_mk ?l ?c ?k; (case l => k_is); (case c => k_is); (case k => k_is)))
    (case i_Take_init => k_is)
    (case F_Done_init => (refine' Po.ff_mk ?l ?c ?k; (case l => k_is); (case c => k_is); (case k => k_is)))
    (case i_Done_init => k_is)
    (case F_Clear_init => (refine' Po.ff_mk ?l ?c ?k; (case l => k_is); (case c => k_is); (case k => k_is)))
    (case i_Clear_init => k_is)
    (case F_Sleep_init => (refine' Po.ff_mk ?l ?c ?k; (case l => k_is); (case c => k_is); (case k => k_is)))
    (case i_Sleep_init => k_is)
    (case F_Line_init => (refine' Po.ff_mk ?l ?c ?k; (case l => k_is); (case c => k_is); (case k => k_is)))
    (case i_Line_init => k_is)
    (case F_Offer_begin => (refine' Po.ff_mk ?l ?c ?k; (case l => k_is); (case c => k_is); (case k => k_is)))
    (case i_Offer_begin => k_is)
    (case F_Offer_go_on => (refine' Po.ff_mk ?l ?c ?k; (case l => k_is); (case c => k_is); (case k => k_is)))
    (case i_Offer_go_on => k_is)
    (case F_Offer_seek => (refine' Po.ff_mk ?l ?c ?k; (case l => k_is); (case c => k_is); (case k => k_is)))
    (case i_Offer_seek => k_is)
    (case F_Offer_claim => (refine' Po.ff_mk ?l ?c ?k; (case l => k_is); (case c => k_is); (case k => k_is)))
    (case i_Offer_claim => k_is)
    (case F_Offer_lay => (refine' Po.ff_mk ?l ?c ?k; (case l => k_is); (case c => k_is); (case k => k_is)))
    (case i_Offer_lay => k_is)
    (case F_Offer_show => (refine' Po.ff_mk ?l ?c ?k; (case l => k_is); (case c => k_is); (case k => k_is)))
    (case i_Offer_show => k_is)
    (case F_Take_begin => (refine' Po.ff_mk ?l ?c ?k; (case l => k_is); (case c => k_is); (case k => k_is)))
    (case i_Take_begin => k_is)
    (case F_Take_go_on => (refine' Po.ff_mk ?l ?c ?k; (case l => k_is); (case c => k_is); (case k => k_is)))
    (case i_Take_go_on => k_is)
    (case F_Take_seek => (refine' Po.ff_mk ?l ?c ?k; (case l => k_is); (case c => k_is); (case k => k_is)))
    (case i_Take_seek => k_is)
    (case F_Take_keep => (refine' Po.ff_mk ?l ?c ?k; (case l => k_is); (case c => k_is); (case k => k_is)))
    (case i_Take_keep => k_is)
    (case F_Again_begin => (refine' Po.ff_mk ?l ?c ?k; (case l => k_is); (case c => k_is); (case k => k_is)))
    (case i_Again_begin => k_is)
    (case F_Look_begin => (refine' Po.ff_mk ?l ?c ?k; (case l => k_is); (case c => k_is); (case k => k_is)))
    (case i_Look_begin => k_is)
    (case F_Look_go_on => (refine' Po.ff_mk ?l ?c ?k; (case l => k_is); (case c => k_is); (case k => k_is)))
    (case i_Look_go_on => k_is)
    (case F_Look_ended => (refine' Po.ff_mk ?l ?c ?k; (case l => k_is); (case c => k_is); (case k => k_is)))
    (case i_Look_ended => k_is)
    (case F_Done_begin => (refine' Po.ff_mk ?l ?c ?k; (case l => k_is); (case c => k_is); (case k => k_is)))
    (case i_Done_begin => k_is)
    (case F_Done_look_up => (refine' Po.ff_mk ?l ?c ?k; (case l => k_is); (case c => k_is); (case k => k_is)))
    (case i_Done_look_up => k_is)
    (case F_Done_judge => (refine' Po.ff_mk ?l ?c ?k; (case l => k_is); (case c => k_is); (case k => k_is)))
    (case i_Done_judge => k_is)
    (case F_Done_write => (refine' Po.ff_mk ?l ?c ?k; (case l => k_is); (case c => k_is); (case k => k_is)))
    (case i_Done_write => k_is)
    (case F_Done_ended => (refine' Po.ff_mk ?l ?c ?k; (case l => k_is); (case c => k_is); (case k => k_is)))
    (case i_Done_ended => k_is)
    (case F_Finishing_go_on => (refine' Po.ff_mk ?l ?c ?k; (case l => k_is); (case c => k_is); (case k => k_is)))
    (case i_Finishing_go_on => k_is)
    (case F_Finishing_begin_finish => (refine' Po.ff_mk ?l ?c ?k; (case l => k_is); (case c => k_is); (case k => k_is)))
    (case i_Finishing_begin_finish => k_is)
    (case F_Finishing_finish => (refine' Po.ff_mk ?l ?c ?k; (case l => k_is); (case c => k_is); (case k => k_is)))
    (case i_Finishing_finish => k_is)
    (case F_Stop_begin => (refine' Po.ff_mk ?l ?c ?k; (case l => k_is); (case c => k_is); (case k => k_is)))
    (case i_Stop_begin => k_is)
    (case F_Stop_look_up => (refine' Po.ff_mk ?l ?c ?k; (case l => k_is); (case c => k_is); (case k => k_is)))
    (case i_Stop_look_up => k_is)
    (case F_Stop_judge => (refine' Po.ff_mk ?l ?c ?k; (case l => k_is); (case c => k_is); (case k => k_is)))
    (case i_Stop_judge => k_is)
    (case F_Stop_write => (refine' Po.ff_mk ?l ?c ?k; (case l => k_is); (case c => k_is); (case k => k_is)))
    (case i_Stop_write => k_is)
    (case F_Stop_ended => (refine' Po.ff_mk ?l ?c ?k; (case l => k_is); (case c => k_is); (case k => k_is)))
    (case i_Stop_ended => k_is)
    (case F_Clear_begin => (refine' Po.ff_mk ?l ?c ?k; (case l => k_is); (case c => k_is); (case k => k_is)))
    (case i_Clear_begin => k_is)
    (case F_Clear_go_on => (refine' Po.ff_mk ?l ?c ?k; (case l => k_is); (case c => k_is); (case k => k_is)))
    (case i_Clear_go_on => k_is)
    (case F_Clear_look_up => (refine' Po.ff_mk ?l ?c ?k; (case l => k_is); (case c => k_is); (case k => k_is)))
    (case i_Clear_look_up => k_is)
    (case F_Clear_judge => (refine' Po.ff_mk ?l ?c ?k; (case l => k_is); (case c => k_is); (case k => k_is)))
    (case i_Clear_judge => k_is)
    (case F_Clear_write => (refine' Po.ff_mk ?l ?c ?k; (case l => k_is); (case c => k_is); (case k => k_is)))
    (case i_Clear_write => k_is)
    (case F_Wake_begin => (refine' Po.ff_mk ?l ?c ?k; (case l => k_is); (case c => k_is); (case k => k_is)))
    (case i_Wake_begin => k_is)
    (case F_Wake_go_on => (refine' Po.ff_mk ?l ?c ?k; (case l => k_is); (case c => k_is); (case k => k_is)))
    (case i_Wake_go_on => k_is)
    (case F_Wake_look_up => (refine' Po.ff_mk ?l ?c ?k; (case l => k_is); (case c => k_is); (case k => k_is)))
    (case i_Wake_look_up => k_is)
    (case F_Wake_judge => (refine' Po.ff_mk ?l ?c ?k; (case l => k_is); (case c => k_is); (case k => k_is)))
    (case i_Wake_judge => k_is)
    (case F_Wake_write => (refine' Po.ff_mk ?l ?c ?k; (case l => k_is); (case c => k_is); (case k => k_is)))
    (case i_Wake_write => k_is)
    (case F_Key_begin => (refine' Po.ff_mk ?l ?c ?k; (case l => k_is); (case c => k_is); (case k => k_is)))
    (case i_Key_begin => k_is)
    (case F_Key_go_on => (refine' Po.ff_mk ?l ?c ?k; (case l => k_is); (case c => k_is); (case k => k_is)))
    (case i_Key_go_on => k_is)
    (case F_Sleep_begin => (refine' Po.ff_mk ?l ?c ?k; (case l => k_is); (case c => k_is); (case k => k_is)))
    (case i_Sleep_begin => k_is)
    (case F_Trying_attempt => (refine' Po.ff_mk ?l ?c ?k; (case l => k_is); (case c => k_is); (case k => k_is)))
    (case i_Trying_attempt => k_is)
    (case F_Trying_compare => (refine' Po.ff_mk ?l ?c ?k; (case l => k_is); (case c => k_is); (case k => k_is)))
    (case i_Trying_compare => k_is)
    (case F_Running_is_last_fail => (refine' Po.ff_mk ?l ?c ?k; (case l => k_is); (case c => k_is); (case k => k_is)))
    (case i_Running_is_last_fail => k_is)
  case S =>
    intro K H xs a hO hwi hask hx
    cases hx with
    | cons h1 h2 =>
      cases h2
      cases h1 with
      | lst hs ha =>
        have e := L2.ints_dw a.1 _ ha
        subst e
        exact ⟨_, a.1, rfl, hs, hask, fun H' p hp => .lst (L2.SqL.of hp) (L2.dw_ints _)⟩
#print axioms PySem.Challenge.cw_slicepool_s01_answers_holds
