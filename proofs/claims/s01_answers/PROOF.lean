import PyProof.Rows.All
import Wide.All
import OpenK.AllK
import Wide.FinOn
import PyProof.EqAt
import PyProof.EqKinds
import PyProof.TupleCall
import KE.BitLaws
import KE.OsGo
import Open.SpecLaws
import PySem.Challenge.RW_sixtybit_s01_answers
set_option Elab.async false
set_option linter.all false
set_option maxRecDepth 100000
/-! THE HAND LAYER, for ints, bools, texts, own classes, lists, tuples, dicts, comprehensions, walks over dicts, enumerate, zip, reversed, texts, calls, loops. Paste it whole ahead of your own text; what your proof does not reach may be deleted. -/
namespace L2
open PySem PySem.Spec PyProof.Rows
/-- a key: an int or a str -/
abbrev Key := Sum Int Str
def keyIs : Key → Value → Bool
  | .inl k, v => Value.isInt k v
  | .inr x, v => Value.isStrOf x v
def keyH (w : World) : Key → Int
  | .inl k => hashInt k
  | .inr x => hashStr w x
theorem keyIs_shape : ∀ {k : Key} {v : Value}, keyIs k v = true → (∃ i t, k = Sum.inl i ∧ v = Value.int i t) ∨ (∃ x t, k = Sum.inr x ∧ v = Value.str x t)
  | .inl i, v, h => by
    obtain ⟨t, e⟩ := Value.isInt_shape (k := i) (v := v) h
    exact .inl ⟨i, t, rfl, e⟩
  | .inr x, v, h => by
    obtain ⟨t, e⟩ := Value.isStrOf_shape (x := x) (v := v) h
    exact .inr ⟨x, t, rfl, e⟩
theorem key_ll (a b : Int) : decide ((Sum.inl a : Key) = Sum.inl b) = (a == b) := by
  by_cases e : a = b
  · subst e; simp
  · have h : ¬ (Sum.inl a : Key) = Sum.inl b := fun q => e (Sum.inl.inj q)
    rw [decide_eq_false h]
    exact (beq_eq_false_iff_ne.mpr e).symm
theorem key_rr (a b : Str) : decide ((Sum.inr a : Key) = Sum.inr b) = decide (a = b) := by
  by_cases e : a = b
  · subst e; simp
  · have h : ¬ (Sum.inr a : Key) = Sum.inr b := fun q => e (Sum.inr.inj q)
    rw [decide_eq_false h, decide_eq_false e]
theorem key_lr (a : Int) (b : Str) : decide ((Sum.inl a : Key) = Sum.inr b) = false := decide_eq_false (fun q => nomatch q)
theorem key_rl (a : Str) (b : Int) : decide ((Sum.inr a : Key) = Sum.inl b) = false := decide_eq_false (fun q => nomatch q)
def mixKind (prog : Program) (w : World) : PySem.KeyKind prog w Key where
  is := keyIs
  hash := keyH w
  inj := fun v a b ha hb => by
    rcases keyIs_shape ha with ⟨i, t, rfl, rfl⟩ | ⟨x, t, rfl, rfl⟩
    · rcases keyIs_shape hb with ⟨j, u, rfl, e⟩ | ⟨y, u, rfl, e⟩
      · injection e with e1 _; rw [e1]
      · exact nomatch e
    · rcases keyIs_shape hb with ⟨j, u, rfl, e⟩ | ⟨y, u, rfl, e⟩
      · exact nomatch e
      · injection e with e1 _; rw [e1]
  byValue := fun k v h => by
    rcases keyIs_shape h with ⟨i, t, rfl, rfl⟩ | ⟨x, t, rfl, rfl⟩ <;> rfl
  pyHash := fun hv h => by
    rcases keyIs_shape hv with ⟨i, t, rfl, rfl⟩ | ⟨x, t, rfl, rfl⟩
    · exact wpAny_pyHash_int h
    · exact wpAny_pyHash_str h
  eqBool := fun hu hv h => by
    rcases keyIs_shape hu with ⟨i, t, rfl, rfl⟩ | ⟨x, t, rfl, rfl⟩
    · rcases keyIs_shape hv with ⟨j, u, rfl, rfl⟩ | ⟨y, u, rfl, rfl⟩
      · rw [key_ll] at h; exact wpAny_eqBool_int h
      · rw [key_lr] at h; exact SeqAt.EqAt.int_str i t y u _ _ _ _ h
    · rcases keyIs_shape hv with ⟨j, u, rfl, rfl⟩ | ⟨y, u, rfl, rfl⟩
      · rw [key_rl] at h; exact SeqAt.EqAt.str_int x t j u _ _ _ _ h
      · rw [key_rr] at h; exact wpAny_eqBool_str h
  «strs» := fun k x t v h => by
    rcases keyIs_shape h with ⟨i, u, rfl, e⟩ | ⟨y, u, rfl, e⟩
    · exact nomatch e
    · injection e with e1 _
      subst e1
      cases v <;> rfl
end L2
namespace L2
open PySem PySem.Spec PyProof.Rows
/-- a value, without the heap -/
inductive V where
  | non | bl (b : Bool) | int (i : Int) | str (x : Str) | byt (b : Array UInt8) | flt (b : UInt64) | ref (a : Addr) | ty (n : String)
  deriving DecidableEq
def RelV : V → Value → Prop
  | .non, u => u = Value.none
  | .bl b, u => u = Value.bool b
  | .int i, u => ∃ t, u = Value.int i t
  | .str x, u => ∃ t, u = Value.str x t
  | .byt b, u => ∃ t, u = Value.bytes b t
  | .flt b, u => ∃ t, u = Value.float b t
  | .ref a, u => u = Value.ref a
  | .ty n, u => u = Value.type n
abbrev Vals : List V → List Value → Prop := Paired RelV
theorem Vals.length {xs : List V} {us : List Value} (r : Vals xs us) : xs.length = us.length := Paired.length r
theorem Vals.get : ∀ {xs : List V} {us : List Value} {i : Nat} {x : V}, Vals xs us → xs[i]? = some x → ∃ u, us[i]? = some u ∧ RelV x u
  | _, _, _, _, .nil, e => by simp at e
  | _, _, 0, _, .cons r _, e => by simp at e; subst e; exact ⟨_, rfl, r⟩
  | _, _, i + 1, x, .cons _ t, e => by
    obtain ⟨u, h1, h2⟩ := Vals.get (i := i) (x := x) t (by simpa using e)
    exact ⟨u, by simpa using h1, h2⟩
theorem Vals.set {x : V} {u : Value} (r : RelV x u) : ∀ {xs : List V} {us : List Value} (i : Nat), Vals xs us → Vals (xs.set i x) (us.set i u)
  | _, _, _, .nil => .nil
  | _, _, 0, .cons _ t => .cons r t
  | _, _, i + 1, .cons q t => .cons q (Vals.set r i t)
theorem Vals.append : ∀ {xs ys : List V} {us ws : List Value}, Vals xs us → Vals ys ws → Vals (xs ++ ys) (us ++ ws)
  | _, _, _, _, .nil, s => s
  | _, _, _, _, .cons r t, s => .cons r (Vals.append t s)
theorem Vals.take : ∀ {xs : List V} {us : List Value} (n : Nat), Vals xs us → Vals (xs.take n) (us.take n)
  | _, _, 0, _ => .nil
  | _, _, _ + 1, .nil => .nil
  | _, _, n + 1, .cons r t => .cons r (Vals.take n t)
theorem Vals.drop : ∀ {xs : List V} {us : List Value} (n : Nat), Vals xs us → Vals (xs.drop n) (us.drop n)
  | _, _, 0, r => r
  | _, _, _ + 1, .nil => .nil
  | _, _, n + 1, .cons _ t => Vals.drop n t
def RelO : Option V → Option Value → Prop
  | some v, some u => RelV v u
  | none, none => True
  | _, _ => False
def KV {κ : Type} : List (κ × V) → List (κ × Value) → Prop := Paired fun (p : κ × V) (q : κ × Value) => p.1 = q.1 ∧ RelV p.2 q.2
/-- a key of a dict (00_mix): an int or a text -/
def kV : Key → V
  | .inl i => .int i
  | .inr x => .str x
/-- what stands at a tracked address -/
inductive HO where
  /-- a list -/
  | lst (xs : List V)
  /-- a tuple (never changes) -/
  | tup (xs : List V)
  /-- a dict whose keys are ints and texts; one whose keys are tuples of ints and texts (the empty one is both) -/
  | dK (kvs : List (Key × V)) | dT (kvs : List (List Key × V))
  /-- a set of ints: its members, its size -/
  | set (S : Int → Bool) (n : Nat)
  /-- an instance of the class at C, its dict at dx, its attributes -/
  | ins (C dx : Addr) (fs : List (Str × V))
  /-- the dict of the instance at x -/
  | own (x : Addr)
  /-- the dict of an exception -/
  | xd (fs : List (Str × V))
  /-- a bound method, f of x -/
  | met (f x : Addr)
  /-- a range object lo, lo + 1, .. below hi -/
  | rng (lo hi : Int)
  /-- a thing that is known to the object (the script; a dict while a loop walks it): read, never written while it is so -/
  | frz (o : Obj) (u : HO)
  /-- a code object's table -/
  | tbl (ps : Array Value)
  /-- any other thing, by what is true of its one object (a def of one's own: SetO a S n := HO.ext fun h => ..) -/
  | ext (φ : Heap → Prop)
abbrev Hp := Addr → Option HO
def upd (H : Hp) (a : Addr) (o : HO) : Hp := fun b => if b = a then some o else H b
theorem upd_same {H : Hp} {a : Addr} {o : HO} : upd H a o a = some o := by unfold upd; rw [if_pos rfl]
theorem upd_ne {H : Hp} {a b : Addr} {o : HO} (h : b ≠ a) : upd H a o b = H b := by unfold upd; rw [if_neg h]
theorem upd_upd {H : Hp} {a : Addr} {o u : HO} : upd (upd H a o) a u = upd H a u := by
  funext b; unfold upd; split <;> rfl
/-- two objects of different content stand apart -/
theorem ne_of {H : Hp} {a b : Addr} {o u : HO} (h : H a = some o) (h' : H b = some u) (d : o ≠ u) : a ≠ b := by
  intro e; subst e; rw [h] at h'; exact d (Option.some.inj h')
theorem ne_of_none {H : Hp} {a b : Addr} {o : HO} (h : H a = some o) (h' : H b = none) : a ≠ b := by
  intro e; subst e; rw [h] at h'; cases h'
section
variable (P : Program) (w : World)
def ObjOk (H : Hp) (h : Heap) (a : Addr) : HO → Prop
  | .lst xs => xs.length ≤ sizeLine ∧ ∃ (its : List Value) (n : Nat), Vals xs its ∧ h.get? a = some { cls := .type "list", data := .seq its.toArray n }
  | .tup xs => xs.length ≤ sizeLine ∧ ∃ its : List Value, Vals xs its ∧ IsTup h a its.toArray
  | .dK kvs => kvs.length ≤ sizeLine ∧ (a == sysModules) = false ∧ ∃ vs, KV kvs vs ∧ h.DictOf (mixKind P w) a vs
  | .dT kvs => kvs.length ≤ sizeLine ∧ (a == sysModules) = false ∧ ∃ xs : List (List Key × Addr × Value),
      Paired (fun (p : List Key × V) (q : List Key × Addr × Value) => p.1 = q.1 ∧ H q.2.1 = some (.tup (p.1.map kV)) ∧ RelV p.2 q.2.2) kvs xs ∧
      ∃ o es ep, h.get? a = some o ∧ o.ExactDict ∧ o.data = .dict es ep ∧ es.toList = xs.map (entryOfKey (tupleKind (mixKind P w))) ∧ (xs.map (·.1)).Nodup
  | .set S n => h.SetOf (intKind P w) a S n
  | .ins C dx fs => H dx = some (.own a) ∧ fs.length ≤ 1000 ∧ dx ≠ a ∧ h.get? a = some (PySem.W.instObj C dx) ∧
      ∃ mA, h.Ns1 dx mA ∧ (∀ f, RelO (fs.lookup f) (mA f)) ∧ PySem.Within mA (fs.map (·.1))
  | .own _ => ∃ o, h.get? a = some o
  | .xd fs => ∃ mA, h.Ns1 a mA ∧ ∀ f, RelO (fs.lookup f) (mA f)
  | .rng lo hi => ∃ t u v, h.get? a = some { cls := .type "range", data := .fields #[.int lo t, .int hi u, .int 1 v] }
  | .frz o u => h.get? a = some o ∧ ObjOk H h a u
  | .tbl ps => h.get? a = some { cls := .none, data := .fields ps }
  | .met f x => h.get? a = some (PySem.W.methodObj (.ref f) (.ref x))
  | .ext φ => φ h ∧ (∃ o, h.get? a = some o) ∧ ∀ h1 h2 : Heap, φ h1 → (∀ o, h1.get? a = some o → h2.get? a = some o) → φ h2
/-- the abstract heap is held -/
def HOk (H : Hp) (h : Heap) : Prop := ∀ a o, H a = some o → ObjOk P w H h a o
end
section
variable {P : Program} {w : World} {H H' : Hp} {h h' : Heap} {a : Addr} {o : HO}
theorem ObjOk.lt (x : ObjOk P w H h a o) : a < h.objs.size := by
  cases o with
  | lst xs => obtain ⟨_, _, _, _, e⟩ := x; exact Heap.lt_size e
  | tup xs => obtain ⟨_, _, _, p⟩ := x; exact p.lt
  | dK kvs => obtain ⟨_, _, _, _, o, _, _, e, _⟩ := x; exact Heap.lt_size e
  | dT kvs => obtain ⟨_, _, _, _, o, _, _, e, _⟩ := x; exact Heap.lt_size e
  | set S n => obtain ⟨o, _, _, _, e, _⟩ := x; exact Heap.lt_size e
  | ins C dx fs => obtain ⟨_, _, _, e, _⟩ := x; exact Heap.lt_size e
  | own y => obtain ⟨_, e⟩ := x; exact Heap.lt_size e
  | xd fs => obtain ⟨_, ⟨_, _, _, e, _⟩, _⟩ := x; exact Heap.lt_size e
  | rng lo hi => obtain ⟨_, _, _, e⟩ := x; exact Heap.lt_size e
  | frz ob u => obtain ⟨e, _⟩ := x; exact Heap.lt_size e
  | tbl ps => exact Heap.lt_size (show h.get? a = some _ from x)
  | met f y => exact Heap.lt_size (show h.get? a = some _ from x)
  | ext φ => obtain ⟨_, ⟨_, e⟩, _⟩ := x; exact Heap.lt_size e
theorem Paired.mapP {α β : Type} {F G : α → β → Prop} : ∀ {l₁ : List α} {l₂ : List β}, Paired F l₁ l₂ → (∀ a b, F a b → G a b) → Paired G l₁ l₂
  | _, _, .nil, _ => .nil
  | _, _, .cons r t, f => .cons (f _ _ r) (Paired.mapP t f)
/-- what an object's description leans on: its own object, its own dict, the tuples -/
theorem ObjOk.stay (x : ObjOk P w H h a o) (k : ∀ b u, (b = a ∨ H b = some (.own a)) → h.get? b = some u → h'.get? b = some u)
    (ho : ∀ b, H b = some (.own a) → H' b = some (.own a)) (ht : ∀ b xs, H b = some (.tup xs) → H' b = some (.tup xs)) : ObjOk P w H' h' a o := by
  induction o with
  | lst xs => obtain ⟨z, its, n, r, e⟩ := x; exact ⟨z, its, n, r, k _ _ (.inl rfl) e⟩
  | tup xs => obtain ⟨z, its, r, ob, e, c⟩ := x; exact ⟨z, its, r, ob, k _ _ (.inl rfl) e, c⟩
  | dK kvs => obtain ⟨z, y, vs, r, ob, es, ep, e, c⟩ := x; exact ⟨z, y, vs, r, ob, es, ep, k _ _ (.inl rfl) e, c⟩
  | dT kvs =>
    obtain ⟨z, y, xs, r, ob, es, ep, e, c⟩ := x
    exact ⟨z, y, xs, Paired.mapP r fun p q z => ⟨z.1, ht _ _ z.2.1, z.2.2⟩, ob, es, ep, k _ _ (.inl rfl) e, c⟩
  | set S n => obtain ⟨ob, es, ep, t, e, c⟩ := x; exact ⟨ob, es, ep, t, k _ _ (.inl rfl) e, c⟩
  | ins C dx fs =>
    obtain ⟨d, z, ne, e, mA, ⟨od, es, ep, e2, c⟩, r⟩ := x
    exact ⟨ho _ d, z, ne, k _ _ (.inl rfl) e, mA, ⟨od, es, ep, k _ _ (.inr d) e2, c⟩, r⟩
  | own y => obtain ⟨ob, e⟩ := x; exact ⟨ob, k _ _ (.inl rfl) e⟩
  | xd fs => obtain ⟨mA, ⟨od, es, ep, e, c⟩, r⟩ := x; exact ⟨mA, ⟨od, es, ep, k _ _ (.inl rfl) e, c⟩, r⟩
  | rng lo hi => obtain ⟨t, u, v, e⟩ := x; exact ⟨t, u, v, k _ _ (.inl rfl) e⟩
  | frz ob u ih => obtain ⟨e, q⟩ := x; exact ⟨k _ _ (.inl rfl) e, ih q⟩
  | tbl ps =>
    have e : h.get? a = some { cls := .none, data := .fields ps } := x
    show h'.get? a = some { cls := .none, data := .fields ps }
    exact k a _ (.inl rfl) e
  | met f y =>
    have e : h.get? a = some (PySem.W.methodObj (.ref f) (.ref y)) := x
    show h'.get? a = some (PySem.W.methodObj (.ref f) (.ref y))
    exact k a _ (.inl rfl) e
  | ext φ => obtain ⟨p, ⟨o, e⟩, st⟩ := x; exact ⟨st _ _ p fun o q => k _ _ (.inl rfl) q, ⟨o, k _ _ (.inl rfl) e⟩, st⟩
theorem HOk.lt (x : HOk P w H h) (e : H a = some o) : a < h.objs.size := (x a o e).lt
theorem HOk.fresh (x : HOk P w H h) (e : h.objs.size ≤ a) : H a = none := by
  cases q : H a with
  | none => rfl
  | some u => exact absurd (Nat.lt_of_lt_of_le (x.lt q) e) (Nat.lt_irrefl _)
/-- every object of the heap is kept -/
theorem HOk.kept (x : HOk P w H h) (k : ∀ b u, h.get? b = some u → h'.get? b = some u) : HOk P w H h' := fun a o e =>
  (x a o e).stay (fun b u _ q => k b u q) (fun _ q => q) fun _ _ q => q
/-- a new object is laid and tracked -/
theorem HOk.laid (x : HOk P w H h) (k : ∀ b u, h.get? b = some u → h'.get? b = some u) (hp : h.objs.size ≤ a) (new : ObjOk P w (upd H a o) h' a o) : HOk P w (upd H a o) h' := fun b u e => by
  have hn := x.fresh hp
  by_cases hb : b = a
  · subst hb; rw [upd_same] at e; cases e; exact new
  · rw [upd_ne hb] at e
    exact (x b u e).stay (fun c v _ q => k c v q) (fun c q => by rw [upd_ne (ne_of_none q hn)]; exact q) fun c xs q => by rw [upd_ne (ne_of_none q hn)]; exact q
end
/-- what may be read as u: it is u, or a known u -/
def Rd (H : Hp) (a : Addr) (u : HO) : Prop := H a = some u ∨ ∃ o, H a = some (.frz o u)
theorem Rd.ok {P : Program} {w : World} {H : Hp} {h : Heap} {a : Addr} {u : HO} (r : Rd H a u) (x : HOk P w H h) : ObjOk P w H h a u := by
  rcases r with r | ⟨o, r⟩
  · exact x a u r
  · obtain ⟨_, q⟩ := x a _ r
    exact q
/-- what may be written -/
def Mut : Option HO → Prop
  | some (.lst _) => True
  | some (.dK _) => True
  | some (.dT _) => True
  | some (.set _ _) => True
  | some (.ins _ _ _) => True
  | some (.ext _) => True
  | _ => False
section
variable {P : Program} {w : World} {H : Hp} {h h' : Heap} {x e : Addr} {o' : HO}
/-- the object at e is changed: x itself, or the dict of the instance x -/
theorem HOk.write (ok : HOk P w H h) (mu : Mut (H x)) (he : e = x ∨ H e = some (.own x)) (k : ∀ b u, b ≠ e → h.get? b = some u → h'.get? b = some u) (heo : ∃ u, h'.get? e = some u)
    (new : ObjOk P w (upd H x o') h' x o') : HOk P w (upd H x o') h' := fun b u q => by
  have nown : ∀ c y, H c = some (.own y) → c ≠ x := fun c y r z => by subst z; rw [r] at mu; exact mu
  have ntup : ∀ c xs, H c = some (.tup xs) → c ≠ x := fun c xs r z => by subst z; rw [r] at mu; exact mu
  by_cases hb : b = x
  · subst hb; rw [upd_same] at q; cases q; exact new
  · rw [upd_ne hb] at q
    by_cases hbe : b = e
    · have q' : H b = some (.own x) := by
        rcases he with z | z
        · exact absurd (hbe.trans z) hb
        · rw [hbe]; exact z
      rw [q] at q'; cases q'
      obtain ⟨v, hv⟩ := heo
      exact ⟨v, by rw [hbe]; exact hv⟩
    · refine (ok b u q).stay (fun c v hc r => k c v ?_ r) (fun c r => by rw [upd_ne (nown c b r)]; exact r) fun c xs r => by rw [upd_ne (ntup c xs r)]; exact r
      rcases hc with rfl | hc
      · exact hbe
      · rintro rfl
        rcases he with z | z
        · exact nown c b hc z
        · rw [hc] at z; cases z; exact hb rfl
end
/-! ### kept unless tracked; of the frames at fs (the callers') the slots may change (an exception that passes writes there); of the records at ex (iterators) nothing is said -/
structure Un (fs ex : List Addr) (H H' : Hp) (h h' : Heap) : Prop where
  keep : ∀ b o, h.get? b = some o → H b = none → b ∉ fs → b ∉ ex → h'.get? b = some o
  slot : ∀ b o, h.get? b = some o → H b = none → b ∈ fs → b ∉ ex → ∃ sl, h'.get? b = some { o with slots := sl }
  free : ∀ b o, h.get? b = some o → H b = none → b ∉ ex → H' b = none
  there : ∀ b o, h.get? b = some o → b ∉ ex → ∃ o', h'.get? b = some o'
  tups : ∀ b xs, H b = some (.tup xs) → H' b = some (.tup xs)
  frzs : ∀ b o u, H b = some (.frz o u) → H' b = some (.frz o u)
  tbls : ∀ b ps, H b = some (.tbl ps) → ∃ more, H' b = some (.tbl (ps ++ more))
section
variable {fs fs' ex ex' : List Addr} {H H1 H2 : Hp} {h h1 h2 h' : Heap} {a x e : Addr} {o : HO}
theorem Un.any (u : Un fs ex H H1 h h1) {b : Addr} {ob : Obj} (q : h.get? b = some ob) (n : H b = none) (hx : b ∉ ex) : ∃ sl, h1.get? b = some { ob with slots := sl } := by
  by_cases hb : b ∈ fs
  · exact u.slot b ob q n hb hx
  · exact ⟨ob.slots, u.keep b ob q n hb hx⟩
theorem Un.kept (k : ∀ b u, h.get? b = some u → h'.get? b = some u) : Un fs ex H H h h' :=
  ⟨fun b ob q _ _ _ => k b ob q, fun b ob q _ _ _ => ⟨ob.slots, k b ob q⟩, fun _ _ _ n _ => n, fun b ob q _ => ⟨ob, k b ob q⟩, fun _ _ q => q, fun _ _ _ q => q, fun _ ps q => ⟨#[], by rw [q]; simp⟩⟩
theorem Un.refl : Un fs ex H H h h := Un.kept fun _ _ q => q
theorem Un.laid (k : ∀ b u, h.get? b = some u → h'.get? b = some u) (hp : h.objs.size ≤ a) (hn : H a = none) : Un fs ex H (upd H a o) h h' where
  keep := fun b u q _ _ _ => k b u q
  slot := fun b u q _ _ _ => ⟨u.slots, k b u q⟩
  free := fun b u q n _ => by rw [upd_ne (Nat.ne_of_lt (Nat.lt_of_lt_of_le (Heap.lt_size q) hp))]; exact n
  there := fun b u q _ => ⟨u, k b u q⟩
  tups := fun b xs q => by rw [upd_ne (ne_of_none q hn)]; exact q
  frzs := fun b u xs q => by rw [upd_ne (ne_of_none q hn)]; exact q
  tbls := fun b ps q => ⟨#[], by rw [upd_ne (ne_of_none q hn), q]; simp⟩
theorem Un.write (mu : Mut (H x)) (he : e = x ∨ H e = some (.own x)) (k : ∀ b u, b ≠ e → h.get? b = some u → h'.get? b = some u) (heo : ∃ u, h'.get? e = some u) : Un fs ex H (upd H x o) h h' := by
  have hx : ∀ b, H b = none → b ≠ x := fun b n z => by subst z; rw [n] at mu; exact mu
  have hb : ∀ b, H b = none → b ≠ e := fun b n z => by
    subst z
    rcases he with r | r
    · exact hx b n r
    · rw [n] at r; cases r
  have hm : ∀ b u, H b = some u → ¬ Mut (some u) → b ≠ x := fun b u q nm z => by subst z; rw [q] at mu; exact nm mu
  refine ⟨fun b u q n _ _ => k b u (hb b n) q, fun b u q n _ _ => ⟨u.slots, k b u (hb b n) q⟩, fun b u q n _ => by rw [upd_ne (hx b n)]; exact n, fun b u q _ => ?_,
    fun b xs q => by rw [upd_ne (hm b _ q fun z => z)]; exact q, fun b u xs q => by rw [upd_ne (hm b _ q fun z => z)]; exact q, fun b ps q => ⟨#[], by rw [upd_ne (hm b _ q fun z => z), q]; simp⟩⟩
  by_cases hbe : b = e
  · subst hbe; exact heo
  · exact ⟨u, k b u hbe q⟩
end
/-! ### the heap without what is tracked -/
def trk (h : Heap) (H : Hp) : List Addr := (List.range h.objs.size).filter fun a => (H a).isSome
def hidT (h : Heap) (H : Hp) : Heap := PySem.W.hideAll h (trk h H)
theorem hidT_size (h : Heap) (H : Hp) : (hidT h H).objs.size = h.objs.size := PySem.W.hideAll_size _ _
theorem hidT_get {h : Heap} {H : Hp} {b : Addr} {o : Obj} (e : h.get? b = some o) (n : H b = none) : (hidT h H).get? b = some o :=
  PySem.W.hideAll_get _ e fun hm => by
    have q : (H b).isSome = true := (List.mem_filter.mp hm).2
    rw [n] at q; simp at q
theorem of_hidT {h : Heap} {H : Hp} {b : Addr} {o : Obj} (e : (hidT h H).get? b = some o) : h.get? b = some o ∧ H b = none := by
  have e' : h.get? b = some o := PySem.W.of_hideAll (trk h H) e
  refine ⟨e', ?_⟩
  cases q : H b with
  | none => rfl
  | some x =>
    have hm : b ∈ trk h H := List.mem_filter.mpr ⟨List.mem_range.mpr (Heap.lt_size e'), by simp [q]⟩
    have z : (hidT h H).get? b = none := PySem.W.hideAll_none (trk h H) hm
    rw [z] at e; cases e
/-! ### OpenK's ledger, filled with every new object but one -/
end L2
namespace L2
open PySem PySem.Spec PyProof.Rows
/-- the module's facts, over the base: the heap at the law's entry without what is tracked there -/
structure Mod (K : PySem.W.Frag) (mg : Str → Option Value) (base : Heap) : Prop where
  kin : K.In base
  glob : base.Ns mainGlobals mg
  blt : ∃ mb, base.Ns builtinsNs mb ∧ ∀ x : Str, x ≠ "__name__" → mb x = bootBuiltins x
  nolimit : base.NoLimit
/-- the context: a def's body (or a comprehension's block) running. base: fixed through the whole law; s₀, H₀: the entry; outer: the frames whose slots others may change (a def's callers); stack: all frames that run;
   ex: iterators that were made ahead of the entry and are walked here (a comprehension's); fn: the names whose cells were made at the entry (a def: all; a comprehension's block: its own); calm: not within an except suite; pn: pins that every state bears; xe: what is wanted of an exception that leaves the code -/
structure Cx where
  prog : Program
  w : World
  K : PySem.W.Frag
  mg : Str → Option Value
  base : Heap
  A : Around
  N : List Str
  s₀ : Shared
  H₀ : Hp
  env : Env
  outer : List Env
  stack : List Env
  ex : List Addr
  fn : Str → Bool
  calm : Bool
  pn : List (Addr × Obj)
  xe : Value → Shared → Prop
/-- the callers' frames -/
def frs (l : List Env) : List Addr := l.filterMap (·.frame)
abbrev Cx.fs (X : Cx) : List Addr := frs X.outer
def Vis (sc : Scope) (x : Str) : Prop := sc.names.lookup x = some .local ∨ sc.names.lookup x = some .cell ∨ sc.names.lookup x = some .free
def Loc (sc : Scope) (x : Str) : Prop := sc.names.lookup x = some .local ∨ sc.names.lookup x = some .cell
def Look (env : Env) (h : Heap) (m : Str → Option Value) (x : Str) (u : Value) : Prop :=
  (env.kindOf x = some .local ∧ m x = some u) ∨ ((env.kindOf x = some .cell ∨ env.kindOf x = some .free) ∧ ∃ c, env.cells.lookup x = some c ∧ h.IsCell c (some u))
structure Cx.Ok (X : Cx) : Prop where
  mod : Mod X.K X.mg X.base
  kind : X.env.scope.kind = .function
  glob : X.env.globals = mainGlobals
  blt : X.env.builtins = builtinsNs
  above : X.s₀.heap.objs.size ≤ X.env.locals
  inj : ∀ x y c, X.env.cells.lookup x = some c → X.env.cells.lookup y = some c → x = y
  has : ∀ x, (X.env.kindOf x = some .cell ∨ X.env.kindOf x = some .free) → ∃ c, X.env.cells.lookup x = some c
  cab : ∀ x c, X.fn x = true → X.env.cells.lookup x = some c → X.s₀.heap.objs.size ≤ c
  hd : X.calm = true → X.A.handled = none
  frames : X.A.frames = some X.stack
  stk : X.stack = X.outer ∨ (X.stack = X.env :: X.outer ∧ X.env.frame = some X.env.locals)
  exf : ∀ b ∈ X.ex, b ≠ X.env.locals ∧ ∀ x c, X.env.cells.lookup x = some c → c ≠ b
  bs : ∀ b o, X.base.get? b = some o → X.s₀.heap.get? b = some o ∧ X.H₀ b = none
  bsz : X.base.objs.size ≤ X.s₀.heap.objs.size
  noex : ∀ b o, X.base.get? b = some o → b ∉ X.ex
  exfs : ∀ b ∈ X.ex, b ∉ X.fs
  funs : X.s₀.heap.FunFrames X.base X.outer
  frf : ∀ b ∈ X.fs, X.H₀ b = none
structure Inv (X : Cx) (pins : List (Addr × Obj)) (σ : List (Option V)) (H : Hp) (s : Shared) : Prop where
  ok : X.Ok
  os : s.os = X.s₀.os
  bare : AllBare s.gens
  base : Un X.fs X.ex X.H₀ H X.s₀.heap s.heap
  loc : ∃ m, s.heap.Ns X.env.locals m ∧ ∀ (i : Nat) (x : Str) (v : V), X.N[i]? = some x → σ[i]? = some (some v) → Vis X.env.scope x → ∃ u, RelV v u ∧ Look X.env s.heap m x u
  cell : ∀ x c, X.env.cells.lookup x = some c → ∃ v, s.heap.IsCell c v
  free : H X.env.locals = none
  freeC : ∀ x c, X.env.cells.lookup x = some c → H c = none
  pin : ∀ p ∈ X.pn ++ pins, s.heap.get? p.1 = some p.2 ∧ H p.1 = none ∧ p.1 ≠ X.env.locals ∧ p.1 ∉ X.fs ∧ ∀ v, p.2.data ≠ .cell v
  hok : HOk X.prog X.w H s.heap
  len : σ.length = X.N.length
section
variable {X : Cx} {pins : List (Addr × Obj)} {σ : List (Option V)} {H H' : Hp} {s : Shared} {h' : Heap}
theorem Cx.Ok.nofr (ok : X.Ok) {b : Addr} {o : Obj} (e : X.base.get? b = some o) : b ∉ X.fs := fun hb => by
  have := (ok.funs.mem hb).1
  rw [e] at this; cases this
theorem Inv.bs (I : Inv X pins σ H s) : ∀ b o, X.base.get? b = some o → s.heap.get? b = some o ∧ H b = none := fun b o e =>
  ⟨I.base.keep b o (I.ok.bs b o e).1 (I.ok.bs b o e).2 (I.ok.nofr e) (I.ok.noex b o e), I.base.free b o (I.ok.bs b o e).1 (I.ok.bs b o e).2 (I.ok.noex b o e)⟩
theorem Inv.bk (I : Inv X pins σ H s) : ∀ b o, X.base.get? b = some o → s.heap.get? b = some o := fun b o e => (I.bs b o e).1
theorem Inv.mod (I : Inv X pins σ H s) : Mod X.K X.mg X.base := I.ok.mod
theorem Inv.kIn (I : Inv X pins σ H s) : X.K.In s.heap := I.ok.mod.kin.keeps I.bk
theorem Inv.lt (I : Inv X pins σ H s) : X.env.locals < s.heap.objs.size := let ⟨_, hn, _⟩ := I.loc; hn.lt
theorem Inv.sz (I : Inv X pins σ H s) : X.s₀.heap.objs.size ≤ s.heap.objs.size := Nat.le_trans I.ok.above (Nat.le_of_lt I.lt)
theorem Inv.nofs (I : Inv X pins σ H s) {a : Addr} (h : s.heap.objs.size ≤ a) : a ∉ X.fs := fun hb => by
  obtain ⟨_, o, ho, _⟩ := I.ok.funs.mem hb
  exact absurd (Nat.lt_of_lt_of_le (Heap.lt_size ho) (Nat.le_trans I.sz h)) (Nat.lt_irrefl _)
theorem Inv.cne (I : Inv X pins σ H s) : ∀ x c, X.env.cells.lookup x = some c → c ≠ X.env.locals := fun x c e z => by
  obtain ⟨v, o, ho, hd⟩ := I.cell x c e
  obtain ⟨m, ⟨o', es, ep, ho', hd', _⟩, _⟩ := I.loc
  rw [z, ho'] at ho; cases ho; rw [hd'] at hd; cases hd
theorem Inv.funs (I : Inv X pins σ H s) : s.heap.FunFrames X.base X.outer := by
  have all : ∀ (l : List Env), (∀ b ∈ frs l, b ∈ X.fs) → X.s₀.heap.FunFrames X.base l → s.heap.FunFrames X.base l := by
    intro l
    induction l with
    | nil => intro _ _; trivial
    | cons env r ih =>
      intro hs hl
      obtain ⟨hk, ⟨L, o, hf, hn, ho, hd⟩, hr⟩ := hl
      have hL : L ∈ X.fs := hs L (by unfold frs; rw [List.filterMap_cons, hf]; exact List.mem_cons_self)
      obtain ⟨sl, e⟩ := I.base.slot L o ho (I.ok.frf L hL) hL fun z => I.ok.exfs L z hL
      exact ⟨hk, ⟨L, _, hf, hn, e, hd⟩, ih (fun b hb => hs b (by unfold frs; rw [List.filterMap_cons, hf]; exact List.mem_cons_of_mem _ hb)) hr⟩
  exact all X.outer (fun _ hb => hb) I.ok.funs
/-- the frames that run, for a call -/
theorem Inv.stack (I : Inv X pins σ H s) : s.heap.FunFrames X.base X.stack := by
  rcases I.ok.stk with e | ⟨e, hf⟩
  · rw [e]; exact I.funs
  · rw [e]
    obtain ⟨m, hn, _⟩ := I.loc
    refine .cons (by rw [I.ok.kind]; decide) hf hn ?_ I.funs
    exact Heap.get?_none_of_le (Nat.le_trans I.ok.bsz I.ok.above)
theorem Inv.stkSub (I : Inv X pins σ H s) : ∀ b ∈ frs X.stack, b ∈ X.env.locals :: X.fs := fun b hb => by
  rcases I.ok.stk with e | ⟨e, hf⟩
  · rw [e] at hb; exact List.mem_cons_of_mem _ hb
  · rw [e] at hb
    unfold frs at hb
    rw [List.filterMap_cons, hf] at hb
    exact hb
theorem Inv.stkFree (I : Inv X pins σ H s) : ∀ b ∈ frs X.stack, H b = none := fun b hb => by
  rcases List.mem_cons.mp (I.stkSub b hb) with e | hb
  · rw [e]; exact I.free
  · obtain ⟨_, o, ho, _⟩ := I.ok.funs.mem hb
    exact I.base.free b o ho (I.ok.frf b hb) fun z => I.ok.exfs b z hb
/-- THE STEP: the untracked objects but the frame and the records at ch are kept (the callers' frames up to slots), the frame's map is kept, the new abstract heap is held -/
theorem Inv.step {g' : Array GenState} {t' : Nat} {d' : Drawn} {ch : List Addr} (I : Inv X pins σ H s)
    (hch : ∀ b ∈ ch, (b ∈ X.ex ∨ X.s₀.heap.objs.size ≤ b) ∧ b ≠ X.env.locals ∧ (∀ x c, X.env.cells.lookup x = some c → c ≠ b) ∧ ∀ p ∈ X.pn ++ pins, p.1 ≠ b)
    (keep : ∀ b o, b ≠ X.env.locals → b ∉ X.fs → b ∉ ch → s.heap.get? b = some o → H b = none → h'.get? b = some o)
    (slot : ∀ b o, b ≠ X.env.locals → b ∈ X.fs → b ∉ ch → s.heap.get? b = some o → H b = none → ∃ sl, h'.get? b = some { o with slots := sl }) (free : ∀ b o, b ∉ ch → s.heap.get? b = some o → H b = none → H' b = none)
    (there : ∀ b o, b ∉ ch → s.heap.get? b = some o → ∃ o', h'.get? b = some o')
    (tups : ∀ b xs, H b = some (.tup xs) → H' b = some (.tup xs)) (frzs : ∀ b o u, H b = some (.frz o u) → H' b = some (.frz o u)) (tbls : ∀ b ps, H b = some (.tbl ps) → ∃ more, H' b = some (.tbl (ps ++ more)))
    (ns : ∀ m, s.heap.Ns X.env.locals m → h'.Ns X.env.locals m) (hok : HOk X.prog X.w H' h') (hg : AllBare g') :
    Inv X pins σ H' { s with heap := h', gens := g', drawn := d', toks := t' } := by
  have neL : ∀ b o, X.s₀.heap.get? b = some o → b ≠ X.env.locals := fun b o e => Nat.ne_of_lt (Nat.lt_of_lt_of_le (Heap.lt_size e) I.ok.above)
  have neC : ∀ b o, X.s₀.heap.get? b = some o → b ∉ X.ex → b ∉ ch := fun b o e hx hb => by
    rcases (hch b hb).1 with z | z
    · exact hx z
    · exact absurd (Nat.lt_of_lt_of_le (Heap.lt_size e) z) (Nat.lt_irrefl _)
  have cellK : ∀ x c, X.env.cells.lookup x = some c → ∀ v, s.heap.IsCell c v → h'.IsCell c v := fun x c e v ⟨o, ho, hd⟩ => by
    have nch : c ∉ ch := fun z => (hch c z).2.2.1 x c e rfl
    by_cases hc : c ∈ X.fs
    · obtain ⟨sl, q⟩ := slot c o (I.cne x c e) hc nch ho (I.freeC x c e)
      exact ⟨_, q, hd⟩
    · exact ⟨o, keep c o (I.cne x c e) hc nch ho (I.freeC x c e), hd⟩
  refine ⟨I.ok, I.os, hg, ⟨fun b o e n hb hx => ?_, fun b o e n hb hx => ?_, fun b o e n hx => ?_, fun b o e hx => ?_, fun b xs e => tups b xs (I.base.tups b xs e), fun b o xs e => frzs b o xs (I.base.frzs b o xs e), fun b ps e => ?_⟩, ?_, fun x c e => ?_, ?_, fun x c e => ?_, fun p hp => ?_, hok, I.len⟩
  · exact keep b o (neL b o e) hb (neC b o e hx) (I.base.keep b o e n hb hx) (I.base.free b o e n hx)
  · obtain ⟨sl, e1⟩ := I.base.slot b o e n hb hx
    obtain ⟨sl', e2⟩ := slot b _ (neL b o e) hb (neC b o e hx) e1 (I.base.free b o e n hx)
    exact ⟨sl', e2⟩
  · obtain ⟨o', e1⟩ := I.base.there b o e hx
    exact free b o' (neC b o e hx) e1 (I.base.free b o e n hx)
  · obtain ⟨o', e1⟩ := I.base.there b o e hx
    exact there b o' (neC b o e hx) e1
  · obtain ⟨m1, e1⟩ := I.base.tbls b ps e
    obtain ⟨m2, e2⟩ := tbls b _ e1
    exact ⟨m1 ++ m2, by rw [e2, Array.append_assoc]⟩
  · obtain ⟨m, hn, hl⟩ := I.loc
    refine ⟨m, ns m hn, fun i x v e1 e2 e3 => ?_⟩
    obtain ⟨u, r, l⟩ := hl i x v e1 e2 e3
    refine ⟨u, r, ?_⟩
    rcases l with l | ⟨k, c, e, z⟩
    · exact .inl l
    · exact .inr ⟨k, c, e, cellK x c e _ z⟩
  · obtain ⟨v, z⟩ := I.cell x c e
    exact ⟨v, cellK x c e v z⟩
  · obtain ⟨m, ⟨o, _, _, ho, _⟩, _⟩ := I.loc
    exact free _ o (fun z => (hch _ z).2.1 rfl) ho I.free
  · obtain ⟨v, o, ho, hd⟩ := I.cell x c e
    exact free c o (fun z => (hch c z).2.2.1 x c e rfl) ho (I.freeC x c e)
  · obtain ⟨e, n, ne, nf, d⟩ := I.pin p hp
    have nch : p.1 ∉ ch := fun z => (hch p.1 z).2.2.2 p hp rfl
    exact ⟨keep p.1 p.2 ne nf nch e n, free p.1 p.2 nch e n, ne, nf, d⟩
/-- .. where the frame's own object is kept too -/
theorem Inv.un {t' : Nat} (I : Inv X pins σ H s) (u : Un X.fs [] H H' s.heap h') (hok : HOk X.prog X.w H' h') : Inv X pins σ H' { s with heap := h', toks := t' } := by
  obtain ⟨m, ⟨o, es, ep, ho, r⟩, _⟩ := id I.loc
  obtain ⟨sl, hL⟩ := u.any ho I.free (by simp)
  exact I.step (g' := s.gens) (d' := s.drawn) (ch := []) (fun _ z => nomatch z) (fun b o _ hb _ e n => u.keep b o e n hb (by simp)) (fun b o _ hb _ e n => u.slot b o e n hb (by simp)) (fun b o _ e n => u.free b o e n (by simp)) (fun b o _ e => u.there b o e (by simp)) u.tups u.frzs u.tbls (fun m' hm => by
    obtain ⟨o', es', ep', ho', r'⟩ := hm
    rw [ho] at ho'; cases ho'
    exact ⟨_, es', ep', hL, r'⟩) hok I.bare
/-- behind a call (or a comprehension's block): the slots of this frame may have changed too, the records at ch may have turned -/
theorem Inv.call {g' : Array GenState} {t' : Nat} {d' : Drawn} {ch : List Addr} (I : Inv X pins σ H s) (u : Un (frs X.stack) ch H H' s.heap h') (hok : HOk X.prog X.w H' h') (hg : AllBare g')
    (hch : ∀ b ∈ ch, (b ∈ X.ex ∨ X.s₀.heap.objs.size ≤ b) ∧ b ≠ X.env.locals ∧ (∀ x c, X.env.cells.lookup x = some c → c ≠ b) ∧ ∀ p ∈ X.pn ++ pins, p.1 ≠ b) :
    Inv X pins σ H' { s with heap := h', gens := g', drawn := d', toks := t' } := by
  obtain ⟨m, ⟨o, es, ep, ho, r⟩, _⟩ := id I.loc
  obtain ⟨sl, hL⟩ := u.any ho I.free fun z => (hch _ z).2.1 rfl
  exact I.step (ch := ch) hch (fun b o hL hb hc e n => u.keep b o e n (fun z => (List.mem_cons.mp (I.stkSub b z)).elim hL hb) hc) (fun b o _ _ hc e n => u.any e n hc) (fun b o hc e n => u.free b o e n hc) (fun b o hc e => u.there b o e hc) u.tups u.frzs u.tbls (fun m' hm => by
    obtain ⟨o', es', ep', ho', r'⟩ := hm
    rw [ho] at ho'; cases ho'
    exact ⟨_, es', ep', hL, r'⟩) hok hg
/-- an untracked record of ours (an iterator) has turned -/
theorem Inv.turned {t' : Nat} {it : Addr} (I : Inv X pins σ H s) (k : ∀ b o, b ≠ it → s.heap.get? b = some o → h'.get? b = some o) (hn : H it = none) (hL : it ≠ X.env.locals)
    (h1 : it ∈ X.ex ∨ X.s₀.heap.objs.size ≤ it) (h2 : ∀ x c, X.env.cells.lookup x = some c → c ≠ it) (h3 : ∀ p ∈ X.pn ++ pins, p.1 ≠ it) : Inv X pins σ H { s with heap := h', toks := t' } := by
  have nit : ∀ b u, H b = some u → b ≠ it := fun b u e z => by rw [z, hn] at e; cases e
  refine I.step (g' := s.gens) (d' := s.drawn) (ch := [it]) (fun b hb => ?_) (fun b o _ _ hc e _ => k b o (fun z => hc (by simp [z])) e) (fun b o _ _ hc e _ => ⟨o.slots, k b o (fun z => hc (by simp [z])) e⟩) (fun _ _ _ _ n => n)
    (fun b o hc e => ⟨o, k b o (fun z => hc (by simp [z])) e⟩) (fun _ _ e => e) (fun _ _ _ e => e) (fun b ps e => ⟨#[], by rw [e]; simp⟩) (fun m hm => ?_) (fun b u e => ?_) I.bare
  · have e : b = it := by simpa using hb
    subst e
    exact ⟨h1, hL, h2, h3⟩
  · obtain ⟨o, es, ep, ho, r⟩ := hm
    exact ⟨o, es, ep, k _ o (Ne.symm hL) ho, r⟩
  · refine (I.hok b u e).stay (fun c v hc q => k c v ?_ q) (fun _ q => q) fun _ _ q => q
    rcases hc with z | z
    · rw [z]; exact nit b u e
    · exact nit c _ z
theorem Inv.tok (I : Inv X pins σ H s) (t : Nat) : Inv X pins σ H { s with toks := t } := I.un (h' := s.heap) (t' := t) Un.refl I.hok
/-- all objects kept -/
theorem Inv.kept {t' : Nat} (I : Inv X pins σ H s) (k : ∀ b u, s.heap.get? b = some u → h'.get? b = some u) : Inv X pins σ H { s with heap := h', toks := t' } := I.un (Un.kept k) (I.hok.kept k)
/-- a new object laid and tracked -/
theorem Inv.laid {a : Addr} {o : HO} {t' : Nat} (I : Inv X pins σ H s) (k : ∀ b u, s.heap.get? b = some u → h'.get? b = some u) (hp : s.heap.objs.size ≤ a) (new : ObjOk X.prog X.w (upd H a o) h' a o) :
    Inv X pins σ (upd H a o) { s with heap := h', toks := t' } := I.un (Un.laid k hp (I.hok.fresh hp)) (I.hok.laid k hp new)
/-- an object written -/
theorem Inv.write {x e : Addr} {o : HO} {t' : Nat} (I : Inv X pins σ H s) (mu : Mut (H x)) (he : e = x ∨ H e = some (.own x)) (k : ∀ b u, b ≠ e → s.heap.get? b = some u → h'.get? b = some u) (heo : ∃ u, h'.get? e = some u)
    (new : ObjOk X.prog X.w (upd H x o) h' x o) : Inv X pins σ (upd H x o) { s with heap := h', toks := t' } := I.un (Un.write mu he k heo) (I.hok.write mu he k heo new)
theorem Inv.pins_of {pins' : List (Addr × Obj)} (I : Inv X pins σ H s) (h : ∀ p ∈ pins', s.heap.get? p.1 = some p.2 ∧ H p.1 = none ∧ p.1 ≠ X.env.locals ∧ p.1 ∉ X.fs ∧ ∀ v, p.2.data ≠ .cell v) : Inv X pins' σ H s :=
  ⟨I.ok, I.os, I.bare, I.base, I.loc, I.cell, I.free, I.freeC, fun p hp => (List.mem_append.mp hp).elim (fun z => I.pin p (List.mem_append_left _ z)) (h p), I.hok, I.len⟩
theorem nodup_ix {N : List Str} (hN : N.Nodup) {i j : Nat} {x : Str} (a : N[i]? = some x) (b : N[j]? = some x) : i = j := by
  obtain ⟨h1, e1⟩ := List.getElem?_eq_some_iff.mp a
  obtain ⟨h2, e2⟩ := List.getElem?_eq_some_iff.mp b
  exact (List.getElem_inj hN).mp (e1.trans e2.symm)
/-- a name is stored; what changed -/
theorem store_ok2 {M : Model} {A : Around} {E : Value → Shared → Prop} {i : Nat} {x : Str} {v : V} {u : Value} {Q : Unit → Shared → Prop} (I : Inv X pins σ H s) (hN : X.N.Nodup) (hi : X.N[i]? = some x) (hx : Loc X.env.scope x) (r : RelV v u)
    (h : ∀ s', Inv X pins (σ.set i (some v)) H s' → (∃ a, Heap.SameBut a s.heap s'.heap ∧ (a = X.env.locals ∨ X.env.cells.lookup x = some a)) → Q () s') (hf : X.fn x = true ∨ X.env.scope.names.lookup x = some .local := by first | exact .inl rfl | exact .inr rfl | assumption) : wpAny M A (storeName X.env x u) Q E s := by
  obtain ⟨m, hn, hl⟩ := id I.loc
  have hcls : (X.env.scope.kind == .class || (X.env.scope.kind == .module && X.env.locals != X.env.globals)) = false := by rw [I.ok.kind]; rfl
  have hiσ : i < σ.length := by rw [I.len]; exact (List.getElem?_eq_some_iff.mp hi).1
  have cne := I.cne
  have tracked : ∀ {a : Addr} {h' : Heap}, (∃ o, s.heap.get? a = some o ∧ H a = none) → Heap.SameBut a s.heap h' → HOk X.prog X.w H h' := fun {a h'} ha hs b ob e => by
    obtain ⟨_, _, hfree⟩ := ha
    refine (I.hok b ob e).stay (fun c w' hc q => (hs.2 c ?_).trans q) (fun _ q => q) fun _ _ q => q
    rintro rfl
    rcases hc with rfl | hc
    · rw [hfree] at e; cases e
    · rw [hfree] at hc; cases hc
  rcases hx with hk | hk
  · refine wpAny_storeName_local hk hn (fun h' hn' hs => ?_) hcls
    obtain ⟨oL, _, _, hoL, _⟩ := id hn
    refine h _ ⟨I.ok, I.os, I.bare, ⟨fun b o e n hb hx => ?_, fun b o e n hb hx => ?_, I.base.free, fun b o e hx => ?_, I.base.tups, I.base.frzs, I.base.tbls⟩, ⟨_, hn', fun j y v' e1 e2 e3 => ?_⟩, fun y c e => ?_, I.free, I.freeC, fun p hp => ?_, tracked ⟨oL, hoL, I.free⟩ hs, by simpa using I.len⟩ ⟨_, hs, .inl rfl⟩
    · exact (hs.2 b (Nat.ne_of_lt (Nat.lt_of_lt_of_le (Heap.lt_size e) I.ok.above))).trans (I.base.keep b o e n hb hx)
    · obtain ⟨sl, e1⟩ := I.base.slot b o e n hb hx
      exact ⟨sl, (hs.2 b (Nat.ne_of_lt (Nat.lt_of_lt_of_le (Heap.lt_size e) I.ok.above))).trans e1⟩
    · obtain ⟨o', e1⟩ := I.base.there b o e hx
      exact ⟨o', (hs.2 b (Nat.ne_of_lt (Nat.lt_of_lt_of_le (Heap.lt_size e) I.ok.above))).trans e1⟩
    · by_cases hj : j = i
      · subst hj
        rw [hi] at e1; cases e1
        rw [List.getElem?_set_self hiσ] at e2
        cases e2
        exact ⟨u, r, .inl ⟨hk, by simp⟩⟩
      · rw [List.getElem?_set_ne (Ne.symm hj)] at e2
        obtain ⟨u', r', q⟩ := hl j y v' e1 e2 e3
        refine ⟨u', r', ?_⟩
        rcases q with ⟨k, e⟩ | ⟨k, c, e, z⟩
        · refine .inl ⟨k, ?_⟩
          have : y ≠ x := fun e => hj (nodup_ix hN e1 (e ▸ hi))
          simp [this, e]
        · exact .inr ⟨k, c, e, z.sameBut hs (cne y c e)⟩
    · obtain ⟨w', z⟩ := I.cell y c e
      exact ⟨w', z.sameBut hs (cne y c e)⟩
    · obtain ⟨e, n, ne, nf, d⟩ := I.pin p hp
      exact ⟨(hs.2 p.1 ne).trans e, n, ne, nf, d⟩
  · have hfn : X.fn x = true := by
      rcases hf with z | z
      · exact z
      · rw [z] at hk; cases hk
    obtain ⟨c, hc⟩ := I.ok.has x (.inl hk)
    obtain ⟨w', z⟩ := I.cell x c hc
    refine wpAny_storeName_cell I.ok.kind hk hc z (fun h' hc' hs => ?_)
    obtain ⟨oc, hoc, hocd⟩ := id z
    refine h { s with heap := h' } ⟨I.ok, I.os, I.bare, ⟨fun b o e n hb hx => ?_, fun b o e n hb hx => ?_, I.base.free, fun b o e hx => ?_, I.base.tups, I.base.frzs, I.base.tbls⟩, ⟨m, hn.sameBut hs (Ne.symm (cne x c hc)), fun j y v' e1 e2 e3 => ?_⟩, fun y c' e => ?_, I.free, I.freeC, fun p hp => ?_, tracked ⟨oc, hoc, I.freeC x c hc⟩ hs, by simpa using I.len⟩ ⟨c, hs, .inr hc⟩
    · exact (hs.2 b (Nat.ne_of_lt (Nat.lt_of_lt_of_le (Heap.lt_size e) (I.ok.cab x c hfn hc)))).trans (I.base.keep b o e n hb hx)
    · obtain ⟨sl, e1⟩ := I.base.slot b o e n hb hx
      exact ⟨sl, (hs.2 b (Nat.ne_of_lt (Nat.lt_of_lt_of_le (Heap.lt_size e) (I.ok.cab x c hfn hc)))).trans e1⟩
    · obtain ⟨o', e1⟩ := I.base.there b o e hx
      exact ⟨o', (hs.2 b (Nat.ne_of_lt (Nat.lt_of_lt_of_le (Heap.lt_size e) (I.ok.cab x c hfn hc)))).trans e1⟩
    · by_cases hj : j = i
      · subst hj
        rw [hi] at e1; cases e1
        rw [List.getElem?_set_self hiσ] at e2
        cases e2
        exact ⟨u, r, .inr ⟨.inl hk, c, hc, hc'⟩⟩
      · rw [List.getElem?_set_ne (Ne.symm hj)] at e2
        obtain ⟨u', r', q⟩ := hl j y v' e1 e2 e3
        refine ⟨u', r', ?_⟩
        rcases q with q | ⟨k, c', e, z'⟩
        · exact .inl q
        · refine .inr ⟨k, c', e, z'.sameBut hs ?_⟩
          rintro rfl
          exact hj (nodup_ix hN e1 (I.ok.inj _ _ _ e hc ▸ hi))
    · by_cases hcc : c' = c
      · subst hcc; exact ⟨_, hc'⟩
      · obtain ⟨w2, z2⟩ := I.cell y c' e
        exact ⟨w2, z2.sameBut hs hcc⟩
    · obtain ⟨e, n, ne, nf, d⟩ := I.pin p hp
      refine ⟨(hs.2 p.1 ?_).trans e, n, ne, nf, d⟩
      intro q
      rw [q, hoc] at e
      have q' : oc = p.2 := Option.some.inj e
      exact d w' (by rw [← q']; exact hocd)
theorem store_ok {M : Model} {A : Around} {E : Value → Shared → Prop} {i : Nat} {x : Str} {v : V} {u : Value} {Q : Unit → Shared → Prop} (I : Inv X pins σ H s) (hN : X.N.Nodup) (hi : X.N[i]? = some x) (hx : Loc X.env.scope x) (r : RelV v u)
    (h : ∀ s', Inv X pins (σ.set i (some v)) H s' → Q () s') (hf : X.fn x = true ∨ X.env.scope.names.lookup x = some .local := by first | exact .inl rfl | exact .inr rfl | assumption) : wpAny M A (storeName X.env x u) Q E s :=
  store_ok2 I hN hi hx r (fun s' I' _ => h s' I') hf
end
/-! ### the judgements -/
/-- an exception: its class, its own dict's address (where it has one), the abstract heap behind it -/
abbrev XK := Value → Option Addr → Hp → Prop
abbrev St := List (Option V)
abbrev VK := V → Hp → Prop
/-- an expression's reading; a test's; an argument list's -/
abbrev TE := St → Hp → VK → Prop
abbrev TT := St → Hp → (Bool → Hp → Prop) → Prop
abbrev TA := St → Hp → (List V → Hp → Prop) → Prop
/-- what is wanted behind a statement -/
structure Ends where
  nx : St → Hp → Prop
  rt : VK
  bk : St → Hp → Prop := fun _ _ => False
  ct : St → Hp → Prop := fun _ _ => False
abbrev TS := Ends → St → Hp → Prop
def EP (X : Cx) (pins : List (Addr × Obj)) (σ : St) (Q : VK) (u : Value) (s' : Shared) : Prop := ∃ v H', Inv X pins σ H' s' ∧ RelV v u ∧ Q v H'
def TP (X : Cx) (pins : List (Addr × Obj)) (σ : St) (Q : Bool → Hp → Prop) (b : Bool) (s' : Shared) : Prop := ∃ H', Inv X pins σ H' s' ∧ Q b H'
def AP (X : Cx) (pins : List (Addr × Obj)) (σ : St) (Q : List V → Hp → Prop) (us : List Value) (s' : Shared) : Prop := ∃ vs H', Inv X pins σ H' s' ∧ Vals vs us ∧ Q vs H'
def SP (X : Cx) (pins : List (Addr × Obj)) (D : Ends) (f : Flow) (s' : Shared) : Prop :=
  match f with
  | .next => ∃ σ' H', Inv X pins σ' H' s' ∧ D.nx σ' H'
  | .brk => ∃ σ' H', Inv X pins σ' H' s' ∧ D.bk σ' H'
  | .cont => ∃ σ' H', Inv X pins σ' H' s' ∧ D.ct σ' H'
  | .ret u => ∃ v σ' H', Inv X pins σ' H' s' ∧ RelV v u ∧ D.rt v H'
def PE (X : Cx) (e : Expr) (t : TE) : Prop :=
  ∀ (pins : List (Addr × Obj)) (s : Shared) (σ : St) (H : Hp) (Q : VK), Inv X pins σ H s → t σ H Q → wpAny (model X.prog X.w) X.A (eval e X.env) (EP X pins σ Q) X.xe s
def PT (X : Cx) (e : Expr) (t : TT) : Prop :=
  ∀ (pins : List (Addr × Obj)) (s : Shared) (σ : St) (H : Hp) (Q : Bool → Hp → Prop), Inv X pins σ H s → t σ H Q → wpAny (model X.prog X.w) X.A (isTrue e X.env (eval e X.env)) (TP X pins σ Q) X.xe s
/-- a test whatever its 'whole' is (and, or) -/
def PW (X : Cx) (e : Expr) (t : TT) : Prop :=
  ∀ (whole : Sem Value) (pins : List (Addr × Obj)) (s : Shared) (σ : St) (H : Hp) (Q : Bool → Hp → Prop), Inv X pins σ H s → t σ H Q → wpAny (model X.prog X.w) X.A (isTrue e X.env whole) (TP X pins σ Q) X.xe s
theorem PW.pt {X : Cx} {e : Expr} {t : TT} (h : PW X e t) : PT X e t := h _
/-- an argument list (no star), from the left -/
def PA (X : Cx) (es : List Expr) (t : TA) : Prop :=
  ∀ (pos : Pos) (pins : List (Addr × Obj)) (s : Shared) (σ : St) (H : Hp) (Q : List V → Hp → Prop), Inv X pins σ H s → t σ H Q → wpAny (model X.prog X.w) X.A (spliced (backTo pos (starEach es X.env))) (AP X pins σ Q) X.xe s
def PS (X : Cx) (st : Stmt) (t : TS) : Prop :=
  ∀ (pins : List (Addr × Obj)) (s : Shared) (σ : St) (H : Hp) (D : Ends), Inv X pins σ H s → t D σ H → wpAny (model X.prog X.w) X.A (exec st X.env) (SP X pins D) X.xe s
def PSs (X : Cx) (st : List Stmt) (t : TS) : Prop :=
  ∀ (pins : List (Addr × Obj)) (s : Shared) (σ : St) (H : Hp) (D : Ends), Inv X pins σ H s → t D σ H → wpAny (model X.prog X.w) X.A (execs st X.env) (SP X pins D) X.xe s
/-- weaken the end -/
theorem thn {α : Type} {t : Sem α} {Q Q' : α → Shared → Prop} {M : Model} {A : Around} {E : Value → Shared → Prop} {s : Shared} (h : wpAny M A t Q E s) (hQ : ∀ a s, Q a s → Q' a s) : wpAny M A t Q' E s := wpAny_mono h hQ fun _ _ x => x
end L2
namespace L2
open PySem PySem.Spec PyProof.Rows
section
variable {X : Cx}
/-! ### names and constants -/
def tVar (i : Nat) : TE := fun σ H Q => ∃ v, σ[i]? = some (some v) ∧ Q v H
def tC (v : V) : TE := fun _ H Q => Q v H
theorem pe_var {i : Nat} {x : Str} {pos : Pos} (hN : X.N[i]? = some x) (hv : Vis X.env.scope x) (hd : (x == ("__debug__" : Str)) = false := by decide) (hcd : (x == ("__classdict__" : Str)) = false := by decide) : PE X (.Name x pos) (tVar i) := by
  intro pins s σ H Q I h
  obtain ⟨v, e, h⟩ := h
  obtain ⟨m, hn, hl⟩ := I.loc
  obtain ⟨u, r, l⟩ := hl i x v hN e hv
  have fin : EP X pins σ Q u s := ⟨v, H, I, r, h⟩
  rcases l with ⟨hk, hm⟩ | ⟨hk, c, hc, hcell⟩
  · exact wpAny_Name (wpAny_loadName_local I.ok.kind hk hn hm fin) hd
  · rcases hk with hk | hk
    · exact wpAny_Name (wpAny_loadName_cell I.ok.kind hk hc hcell fin) hd
    · exact wpAny_Name (wpAny_loadName_free I.ok.kind hk hc hcell fin hcd) hd
theorem pe_int {i j pos} : PE X (.Constant (.int i) j pos) (tC (.int i)) := fun _ _ _ H _ I h => wpAny_Constant_int ⟨.int i, H, I.tok _, ⟨_, rfl⟩, h⟩
theorem pe_bl {b j pos} : PE X (.Constant (.bool b) j pos) (tC (.bl b)) := fun _ _ _ H _ I h => Constant_bool ⟨.bl b, H, I, rfl, h⟩
/-- a global name of the def -/
def Gl (X : Cx) (x : Str) : Prop := X.env.kindOf x = some .globalImplicit
theorem ld_glob {E : Value → Shared → Prop} {pins : List (Addr × Obj)} {s : Shared} {σ : St} {H : Hp} {x : Str} {u : Value} {pos : Pos} {Q : Value → Shared → Prop} (I : Inv X pins σ H s) (hg : Gl X x) (hm : X.mg x = some u) (h : Q u s)
    (hd : (x == ("__debug__" : Str)) = false := by decide) : wpAny (model X.prog X.w) X.A (eval (.Name x pos) X.env) Q E s :=
  Calls.Name_function_global I.ok.kind hg (Calls.loadGlobal_global (by rw [I.ok.glob]; exact I.mod.glob.keeps I.bk) hm h) hd
theorem ld_blt {E : Value → Shared → Prop} {pins : List (Addr × Obj)} {s : Shared} {σ : St} {H : Hp} {x : Str} {u : Value} {pos : Pos} {Q : Value → Shared → Prop} (I : Inv X pins σ H s) (hg : Gl X x) (hm : X.mg x = none) (hv : bootBuiltins x = some u) (h : Q u s)
    (hn : x ≠ "__name__" := by decide) (hd : (x == ("__debug__" : Str)) = false := by decide) : wpAny (model X.prog X.w) X.A (eval (.Name x pos) X.env) Q E s := by
  obtain ⟨mb, h1, h2⟩ := I.mod.blt
  exact Calls.Name_function_global I.ok.kind hg (Calls.loadGlobal_builtin (by rw [I.ok.glob]; exact I.mod.glob.keeps I.bk) hm (by rw [I.ok.blt]; exact h1.keeps I.bk) ((h2 x hn).trans hv) h) hd
/-- a module's constant, a class, a function, as a value -/
theorem pe_glob {x : Str} {v : V} {u : Value} {pos : Pos} (hg : Gl X x) (hm : X.mg x = some u) (r : RelV v u) (hd : (x == ("__debug__" : Str)) = false := by decide) : PE X (.Name x pos) (tC v) :=
  fun _ _ _ H _ I h => ld_glob I hg hm ⟨v, H, I, r, h⟩ hd
/-! ### arithmetic -/
variable {a b : Expr} {ta tb : TE} {pos : Pos}
/-! ### comparisons -/
/-- a comparison as a value, as a test -/
def tB (t : TE) : TT := fun σ H Q => t σ H fun x H1 => ∃ c, x = .bl c ∧ Q c H1
/-- an expression whose value is a bool, as a test -/
theorem pt_val {e : Expr} {t : TE} (h : PE X e t) (he : ∀ whole, isTrue e X.env whole = (do let v ← whole; standAt e.pos; holding [v] (truthy v)) := by intro _; rfl) : PT X e (tB t) := by
  intro pins s σ H Q I hw
  refine isTrue_plain (thn (h pins s σ H _ I hw) fun v s1 ⟨x, H1, I1, r1, q1⟩ => ?_) (he _)
  obtain ⟨d, rfl, q⟩ := q1
  cases r1
  exact wpAny_truthy_bool ⟨H1, I1, q⟩
/-! ### and, or, not -/
variable {tA tB' : TT} {rest : List Expr}
def tAnd (t u : TT) : TT := fun σ H Q => t σ H fun c H1 => if c = true then u σ H1 Q else Q false H1
def tOr (t u : TT) : TT := fun σ H Q => t σ H fun c H1 => if c = true then Q true H1 else u σ H1 Q
theorem pw_and1 (ha : PT X a tA) : PW X (.BoolOp .And [a] pos) tA := by
  intro wh pins s σ H Q I h
  refine isTrue_and (thn (ha pins s σ H Q I h) fun c s1 e => ?_)
  cases c with
  | true => exact isTrue_and_nil e
  | false => exact e
theorem pw_or1 (ha : PT X a tA) : PW X (.BoolOp .Or [a] pos) tA := by
  intro wh pins s σ H Q I h
  refine isTrue_or (thn (ha pins s σ H Q I h) fun c s1 e => ?_)
  cases c with
  | false => exact isTrue_or_nil e
  | true => exact e
theorem pw_and (ha : PT X a tA) (hb : PW X (.BoolOp .And (b :: rest) pos) tB') : PW X (.BoolOp .And (a :: b :: rest) pos) (tAnd tA tB') := by
  intro wh pins s σ H Q I h
  refine isTrue_and (thn (ha pins s σ H _ I h) fun c s1 ⟨H1, I1, q1⟩ => ?_)
  cases c with
  | true => exact hb wh pins s1 σ H1 Q I1 q1
  | false => exact ⟨H1, I1, q1⟩
theorem pw_or (ha : PT X a tA) (hb : PW X (.BoolOp .Or (b :: rest) pos) tB') : PW X (.BoolOp .Or (a :: b :: rest) pos) (tOr tA tB') := by
  intro wh pins s σ H Q I h
  refine isTrue_or (thn (ha pins s σ H _ I h) fun c s1 ⟨H1, I1, q1⟩ => ?_)
  cases c with
  | true => exact ⟨H1, I1, q1⟩
  | false => exact hb wh pins s1 σ H1 Q I1 q1
/-- .. as values (bools) -/
def tAndV (ta tb : TE) : TE := fun σ H Q => ta σ H fun x H1 => ∃ c, x = .bl c ∧ if c = true then tb σ H1 Q else Q (.bl false) H1
def tOrV (ta tb : TE) : TE := fun σ H Q => ta σ H fun x H1 => ∃ c, x = .bl c ∧ if c = true then Q (.bl true) H1 else tb σ H1 Q
def tNotV (ta : TE) : TE := fun σ H Q => ta σ H fun x H1 => ∃ c, x = .bl c ∧ Q (.bl (!c)) H1
theorem pe_one {op} {t : TE} (h : PE X a t) : PE X (.BoolOp op [a] pos) t := fun pins s σ H Q I hw => BoolOp_one (h pins s σ H Q I hw)
theorem pe_and (ha : PE X a ta) (hb : PE X (.BoolOp .And (b :: rest) pos) tb) : PE X (.BoolOp .And (a :: b :: rest) pos) (tAndV ta tb) := by
  intro pins s σ H Q I h
  refine BoolOp_and (thn (ha pins s σ H _ I h) fun v s1 ⟨x, H1, I1, r1, q1⟩ => ?_)
  obtain ⟨c, rfl, q1⟩ := q1
  cases r1
  refine wpAny_truthy_bool ?_
  cases c with
  | true => exact hb pins s1 σ H1 Q I1 q1
  | false => exact ⟨.bl false, H1, I1, rfl, q1⟩
theorem pe_or (ha : PE X a ta) (hb : PE X (.BoolOp .Or (b :: rest) pos) tb) : PE X (.BoolOp .Or (a :: b :: rest) pos) (tOrV ta tb) := by
  intro pins s σ H Q I h
  refine BoolOp_or (thn (ha pins s σ H _ I h) fun v s1 ⟨x, H1, I1, r1, q1⟩ => ?_)
  obtain ⟨c, rfl, q1⟩ := q1
  cases r1
  refine wpAny_truthy_bool ?_
  cases c with
  | false => exact hb pins s1 σ H1 Q I1 q1
  | true => exact ⟨.bl true, H1, I1, rfl, q1⟩
theorem pe_not (ha : PE X a ta) : PE X (.UnaryOp .Not a pos) (tNotV ta) := by
  intro pins s σ H Q I h
  refine UnaryOp_ (thn (ha pins s σ H _ I h) fun v s1 ⟨x, H1, I1, r1, q1⟩ => ?_)
  obtain ⟨c, rfl, q1⟩ := q1
  cases r1
  exact not_of (wpAny_truthy_bool ⟨.bl (!c), H1, I1, rfl, q1⟩)
/-- a if t else b -/
def tIf (t : TT) (ta tb : TE) : TE := fun σ H Q => t σ H fun c H1 => if c = true then ta σ H1 Q else tb σ H1 Q
theorem pe_ifExp {c : Expr} (hc : PT X c tA) (ha : PE X a ta) (hb : PE X b tb) : PE X (.IfExp c a b pos) (tIf tA ta tb) := by
  intro pins s σ H Q I h
  refine wpAny_IfExp (thn (hc pins s σ H _ I h) fun d s1 ⟨H1, I1, q1⟩ => ?_)
  cases d with
  | true => exact ha pins s1 σ H1 Q I1 q1
  | false => exact hb pins s1 σ H1 Q I1 q1
end
end L2
namespace L2
open PySem PySem.Spec PyProof.Rows
/-! ### a list, a tuple that is read: tracked, frozen, or an object of the module -/
def SqL (K : PySem.W.Frag) (H : Hp) (a : Addr) (xs : List V) : Prop :=
  Rd H a (.lst xs) ∨
    ∃ (o : Obj) (its : Array Value) (n : Nat), K.lookup a = some o ∧ o.cls = .type "list" ∧ o.dict = none ∧ o.data = .seq its n ∧ its.size ≤ sizeLine ∧ Vals xs its.toList
def SqT (K : PySem.W.Frag) (H : Hp) (a : Addr) (xs : List V) : Prop :=
  Rd H a (.tup xs) ∨
    ∃ (o : Obj) (its : Array Value) (n : Nat), K.lookup a = some o ∧ o.cls = .type "tuple" ∧ o.data = .seq its n ∧ its.size ≤ sizeLine ∧ Vals xs its.toList
def absV : Value → Option V
  | .none => some .non
  | .bool b => some (.bl b)
  | .int i _ => some (.int i)
  | .str x _ => some (.str x)
  | .bytes b _ => some (.byt b)
  | .float b _ => some (.flt b)
  | .ref a => some (.ref a)
  | .type n => some (.ty n)
  | _ => none
theorem RelV.abs {x : V} {u : Value} (r : RelV x u) : absV u = some x := by
  cases x with
  | non => cases r; rfl
  | bl _ => cases r; rfl
  | int _ => obtain ⟨t, rfl⟩ := r; rfl
  | str _ => obtain ⟨t, rfl⟩ := r; rfl
  | byt _ => obtain ⟨t, rfl⟩ := r; rfl
  | flt _ => obtain ⟨t, rfl⟩ := r; rfl
  | ref _ => cases r; rfl
  | ty _ => cases r; rfl
theorem RelV.inj {x y : V} {u : Value} (r : RelV x u) (q : RelV y u) : x = y := Option.some.inj (r.abs.symm.trans q.abs)
theorem Vals.inj : ∀ {xs ys : List V} {us : List Value}, Vals xs us → Vals ys us → xs = ys
  | _, _, _, .nil, .nil => rfl
  | _, _, _, .cons r t, .cons r' t' => by rw [r.inj r', Vals.inj t t']
section
variable {X : Cx} {pins : List (Addr × Obj)} {σ : St} {H : Hp} {s : Shared} {a : Addr} {xs ys : List V}
theorem SqL.of {K : PySem.W.Frag} (h : H a = some (.lst xs)) : SqL K H a xs := .inl (.inl h)
theorem SqT.of {K : PySem.W.Frag} (h : H a = some (.tup xs)) : SqT K H a xs := .inl (.inl h)
theorem Inv.list (I : Inv X pins σ H s) (h : SqL X.K H a xs) : ∃ its : List Value, Vals xs its ∧ PlainL s.heap a its.toArray ∧ xs.length ≤ sizeLine := by
  rcases h with h | ⟨o, its, n, hk, hc, hd, hs, hz, r⟩
  · obtain ⟨z, its, n, r, e⟩ := h.ok I.hok
    exact ⟨its, r, ⟨_, n, e, rfl, rfl, rfl⟩, z⟩
  · refine ⟨its.toList, r, ⟨o, n, I.kIn a o hk, hc, hd, by simpa using hs⟩, ?_⟩
    have e := r.length
    simp only [Array.length_toList] at e
    omega
theorem Inv.tuple (I : Inv X pins σ H s) (h : SqT X.K H a xs) : ∃ its : List Value, Vals xs its ∧ IsTup s.heap a its.toArray ∧ xs.length ≤ sizeLine := by
  rcases h with h | ⟨o, its, n, hk, hc, hs, hz, r⟩
  · obtain ⟨z, its, r, p⟩ := h.ok I.hok
    exact ⟨its, r, p, z⟩
  · refine ⟨its.toList, r, ⟨o, I.kIn a o hk, hc, n, by simpa using hs⟩, ?_⟩
    have e := r.length
    simp only [Array.length_toList] at e
    omega
theorem Inv.list_inj (I : Inv X pins σ H s) (h : SqL X.K H a xs) (h' : SqL X.K H a ys) : xs = ys := by
  obtain ⟨its, r, ⟨o, n, e, _, _, d⟩, _⟩ := I.list h
  obtain ⟨its', r', ⟨o', n', e', _, _, d'⟩, _⟩ := I.list h'
  rw [e] at e'; cases e'
  rw [d] at d'
  injection d' with d1 _
  have : its = its' := by simpa using congrArg Array.toList d1
  subst this
  exact r.inj r'
end
/-! ### another wish about exceptions -/
abbrev Cx.wish (X : Cx) (E : Value → Shared → Prop) : Cx := { X with xe := E }
/-- no exception leaves -/
abbrev Cx.nox (X : Cx) : Cx := X.wish fun _ _ => False
theorem Cx.Ok.wish {X : Cx} (ok : X.Ok) (E : Value → Shared → Prop) : (X.wish E).Ok :=
  ⟨ok.mod, ok.kind, ok.glob, ok.blt, ok.above, ok.inj, ok.has, ok.cab, ok.hd, ok.frames, ok.stk, ok.exf, ok.bs, ok.bsz, ok.noex, ok.exfs, ok.funs, ok.frf⟩
theorem Cx.Ok.unwish {X : Cx} {E : Value → Shared → Prop} (ok : (X.wish E).Ok) : X.Ok :=
  ⟨ok.mod, ok.kind, ok.glob, ok.blt, ok.above, ok.inj, ok.has, ok.cab, ok.hd, ok.frames, ok.stk, ok.exf, ok.bs, ok.bsz, ok.noex, ok.exfs, ok.funs, ok.frf⟩
section
variable {X : Cx} {pins : List (Addr × Obj)} {σ : St} {H : Hp} {s : Shared} {E : Value → Shared → Prop}
theorem Inv.wish (I : Inv X pins σ H s) (E : Value → Shared → Prop) : Inv (X.wish E) pins σ H s := ⟨I.ok.wish E, I.os, I.bare, I.base, I.loc, I.cell, I.free, I.freeC, I.pin, I.hok, I.len⟩
theorem Inv.unwish (I : Inv (X.wish E) pins σ H s) : Inv X pins σ H s := ⟨I.ok.unwish, I.os, I.bare, I.base, I.loc, I.cell, I.free, I.freeC, I.pin, I.hok, I.len⟩
theorem SP.unwish {D : Ends} {f : Flow} {s' : Shared} (h : SP (X.wish E) pins D f s') : SP X pins D f s' := by
  cases f with
  | next => obtain ⟨σ', H', I, q⟩ := h; exact ⟨σ', H', I.unwish, q⟩
  | brk => obtain ⟨σ', H', I, q⟩ := h; exact ⟨σ', H', I.unwish, q⟩
  | cont => obtain ⟨σ', H', I, q⟩ := h; exact ⟨σ', H', I.unwish, q⟩
  | ret u => obtain ⟨v, σ', H', I, r, q⟩ := h; exact ⟨v, σ', H', I.unwish, r, q⟩
theorem PSs.nox {st : List Stmt} {t : TS} (h : PSs X.nox st t) : PSs X st t := fun pins s σ H D I hw =>
  wpAny_mono (h pins s σ H D (I.wish _) hw) (fun _ _ q => q.unwish) fun _ _ z => False.elim z
end
/-! ### blocks and small statements -/
section
variable {X : Cx} {st : Stmt} {rest : List Stmt} {t u : TS} {e : Expr} {te : TE} {pos : Pos}
def tNext : TS := fun D σ H => D.nx σ H
def tSeq (t u : TS) : TS := fun D σ H => t { D with nx := u D } σ H
theorem pss_nil : PSs X [] tNext := fun _ _ σ H _ I h => wpAny_execs_nil ⟨σ, H, I, h⟩
theorem pss_cons (h1 : PS X st t) (h2 : PSs X rest u) : PSs X (st :: rest) (tSeq t u) := by
  intro pins s σ H D I h
  refine wpAny_execs_cons (thn (h1 pins s σ H { D with nx := u D } I h) fun f s1 q => ?_)
  cases f with
  | next =>
    obtain ⟨σ', H', I', q⟩ := q
    exact h2 pins s1 σ' H' D I' q
  | ret v => exact q
  | brk => exact q
  | cont => exact q
theorem pss_one (h1 : PS X st t) : PSs X [st] t := by
  intro pins s σ H D I h
  refine wpAny_execs_cons (thn (h1 pins s σ H D I h) fun f s1 q => ?_)
  cases f with
  | next => exact wpAny_execs_nil q
  | ret v => exact q
  | brk => exact q
  | cont => exact q
/-- in a def's body nothing is shown -/
theorem Inv.quiet {pins : List (Addr × Obj)} {σ : St} {H : Hp} {s : Shared} (I : Inv X pins σ H s) : interactive X.env = false := by simp [interactive, I.ok.kind]
/-- an expression whose value is dropped -/
def tDrop (te : TE) : TS := fun D σ H => te σ H fun _ H1 => D.nx σ H1
theorem ps_expr (he : PE X e te) (hs : swapsWith e none pos.line X.env = pure false := by rfl) : PS X (.Expr e pos) (tDrop te) := by
  intro pins s σ H D I h
  exact wpAny_Expr_any (thn (he pins s σ H _ I h) fun v s1 ⟨x, H1, I1, r1, q1⟩ => ⟨σ, H1, I1, q1⟩) I.quiet hs
def tRet (te : TE) : TS := fun D σ H => te σ H D.rt
theorem ps_ret (he : PE X e te) : PS X (.Return (some e) pos) (tRet te) := by
  intro pins s σ H D I h
  exact wpAny_Return_some (thn (he pins s σ H _ I h) fun v s1 ⟨x, H1, I1, r1, q1⟩ => ⟨x, σ, H1, I1, r1, q1⟩)
def tIfS (c : TT) (t u : TS) : TS := fun D σ H => c σ H fun b H1 => if b = true then t D σ H1 else u D σ H1
theorem ps_if {c : Expr} {a b : List Stmt} {tc : TT} (hc : PT X c tc) (ha : PSs X a t) (hb : PSs X b u) : PS X (.If c a b pos) (tIfS tc t u) := by
  intro pins s σ H D I h
  refine wpAny_If (thn (hc pins s σ H _ I h) fun d s1 ⟨H1, I1, q1⟩ => ?_)
  cases d with
  | true => exact ha pins s1 σ H1 D I1 q1
  | false => exact hb pins s1 σ H1 D I1 q1
end
/-! ### targets -/
abbrev TG := V → St → Hp → (St → Hp → Prop) → Prop
abbrev TGs := List V → St → Hp → (St → Hp → Prop) → Prop
def PG (X : Cx) (target : Expr) (t : TG) : Prop :=
  ∀ (pins : List (Addr × Obj)) (s : Shared) (σ : St) (H : Hp) (v : V) (u : Value) (Q : St → Hp → Prop), Inv X pins σ H s → RelV v u → t v σ H Q →
    wpAny (model X.prog X.w) X.A (assign target X.env u) (fun _ s' => ∃ σ' H', Inv X pins σ' H' s' ∧ Q σ' H') X.xe s
/-- several targets, one after another -/
def PGs (X : Cx) (ts : List Expr) (t : TGs) : Prop :=
  ∀ (pins : List (Addr × Obj)) (s : Shared) (σ : St) (H : Hp) (vs : List V) (us : List Value) (Q : St → Hp → Prop), Inv X pins σ H s → Vals vs us → t vs σ H Q →
    wpAny (model X.prog X.w) X.A (assignInOrder ((assignEach ts X.env).map (·.2)) us) (fun _ s' => ∃ σ' H', Inv X pins σ' H' s' ∧ Q σ' H') X.xe s
/-- o[i] = v, by values -/
abbrev TSet := V → V → V → Hp → (Hp → Prop) → Prop
def PSet (X : Cx) (t : TSet) : Prop :=
  ∀ (pins : List (Addr × Obj)) (s : Shared) (σ : St) (H : Hp) (o i v : V) (ov iv u : Value) (Q : Hp → Prop), Inv X pins σ H s → RelV o ov → RelV i iv → RelV v u → t o i v H Q →
    wpAny (model X.prog X.w) X.A (setItem ov iv u) (fun _ s' => ∃ H', Inv X pins σ H' s' ∧ Q H') X.xe s
section
variable {X : Cx} {pos : Pos}
def gName (i : Nat) : TG := fun v σ H Q => Q (σ.set i (some v)) H
theorem pg_name {i : Nat} {x : Str} (hN : X.N.Nodup) (hi : X.N[i]? = some x) (hx : Loc X.env.scope x) (hf : X.fn x = true ∨ X.env.scope.names.lookup x = some .local := by first | exact .inl rfl | exact .inr rfl | assumption) : PG X (.Name x pos) (gName i) := by
  intro pins s σ H v u Q I r h
  exact wpAny_assign_Name (store_ok I hN hi hx r (fun s' I' => ⟨_, H, I', h⟩) hf)
def gNil : TGs := fun vs σ H Q => vs = [] ∧ Q σ H
def gCons (t : TG) (u : TGs) : TGs := fun vs σ H Q => ∃ v r, vs = v :: r ∧ t v σ H fun σ' H' => u r σ' H' Q
theorem pgs_nil : PGs X [] gNil := by
  intro pins s σ H vs us Q I r h
  obtain ⟨e, h⟩ := h
  subst e
  cases r
  exact assignInOrder_nil ⟨σ, H, I, h⟩
theorem pgs_cons {e : Expr} {es : List Expr} {t : TG} {u : TGs} (h1 : PG X e t) (h2 : PGs X es u)
    (hs : (assignEach (e :: es) X.env).map (·.2) = assign e X.env :: (assignEach es X.env).map (·.2) := by rfl) : PGs X (e :: es) (gCons t u) := by
  intro pins s σ H vs us Q I r h
  obtain ⟨v, vr, e1, h⟩ := h
  subst e1
  cases r with
  | cons r rr =>
    rw [hs]
    refine assignInOrder_cons (thn (h1 pins s σ H _ _ _ I r h) fun _ s1 ⟨σ1, H1, I1, q1⟩ => ?_)
    exact h2 pins s1 σ1 H1 _ _ Q I1 rr q1
/-- (a, b, ..) = a tuple of that length -/
def gTup (K : PySem.W.Frag) (n : Nat) (t : TGs) : TG := fun v σ H Q => ∃ a xs, v = .ref a ∧ SqT K H a xs ∧ xs.length = n ∧ t xs σ H Q
theorem pg_tup {es : List Expr} {k : Nat} {t : TGs} {n : Nat} (hc : X.calm = true) (h : PGs X es t)
    (hn : (assignEach es X.env).length = n := by rfl) (hst : (assignEach es X.env).findIdx? (·.1) = none := by rfl) : PG X (.Tuple es k pos) (gTup X.K n t) := by
  intro pins s σ H v u Q I r hw
  obtain ⟨a, xs, e1, hq, hl, hw⟩ := hw
  subst e1
  cases r
  obtain ⟨its, rv, ht, hz⟩ := I.tuple hq
  refine assign_Tuple_tuple (I.ok.hd hc) ht (by simp [hn, ← hl, rv.length]) hst fun h' hx => ?_
  have I1 : Inv X pins σ H { s with heap := h' } := I.kept (t' := s.toks) fun b o e => hx b o (Nat.ne_of_lt (Heap.lt_size e)) e
  exact h pins _ σ H xs _ Q I1 (by simpa using rv) hw
/-- o[i] = .. -/
def gSub (to ti : TE) (t : TSet) : TG := fun v σ H Q => to σ H fun o H1 => ti σ H1 fun i H2 => t o i v H2 fun H3 => Q σ H3
theorem pg_sub {o i : Expr} {to ti : TE} {t : TSet} (ho : PE X o to) (hi : PE X i ti) (hs : PSet X t)
    (ha : ∀ v, assign (.Subscript o i pos) X.env v = (do
      let ov ← holding [v] (eval o X.env)
      let iv ← holding [v, ov] (eval i X.env)
      standAt pos
      holding [v, ov, iv] (setItem ov iv v)
      release [v, ov, iv] []) := by intro _; rfl) : PG X (.Subscript o i pos) (gSub to ti t) := by
  intro pins s σ H v u Q I r h
  rw [ha]
  refine wpAny_bind (wpAny_holding (thn (ho pins s σ H _ I h) fun ov s1 ⟨x, H1, I1, r1, q1⟩ => ?_))
  refine wpAny_bind (wpAny_holding (thn (hi pins s1 σ H1 _ I1 q1) fun iv s2 ⟨y, H2, I2, r2, q2⟩ => ?_))
  refine wpAny_bind (wpAny_standAt (wpAny_bind (wpAny_holding (thn (hs pins s2 σ H2 x y v ov iv u _ I2 r1 r2 r q2) fun _ s3 ⟨H3, I3, q3⟩ => ?_))))
  exact wpAny_release ⟨σ, H3, I3, q3⟩
/-- target = value -/
def tAsg (te : TE) (g : TG) : TS := fun D σ H => te σ H fun x H1 => g x σ H1 D.nx
theorem ps_asg {tg e : Expr} {te : TE} {g : TG} (he : PE X e te) (hg : PG X tg g) (hs : swapsWithSole [tg] e pos.line X.env = pure false := by rfl) (hw : swappedStores [tg] e X.env = pure none := by rfl)
    (h1 : (assignEach [tg] X.env).map (·.2) = [assign tg X.env] := by rfl) : PS X (.Assign [tg] e pos) (tAsg te g) := by
  intro pins s σ H D I h
  refine wpAny_Assign_stores (thn (he pins s σ H _ I h) fun v s1 ⟨x, H1, I1, r1, q1⟩ => ?_) hs hw
  rw [h1]
  exact thn (hg pins s1 σ H1 x v _ I1 r1 q1) fun _ s2 q => q
/-- name = value -/
theorem ps_set {i : Nat} {x : Str} {e : Expr} {te : TE} {pos' : Pos} (hN : X.N.Nodup) (hi : X.N[i]? = some x) (hx : Loc X.env.scope x) (he : PE X e te) (hs : swapsWith e (some (.Name x pos')) pos.line X.env = pure false := by rfl) (hf : X.fn x = true ∨ X.env.scope.names.lookup x = some .local := by first | exact .inl rfl | exact .inr rfl | assumption) :
    PS X (.Assign [.Name x pos'] e pos) (tAsg te (gName i)) := by
  intro pins s σ H D I h
  refine wpAny_Assign_Name (thn (he pins s σ H _ I h) fun v s1 ⟨y, H1, I1, r1, q1⟩ => ?_) hs
  exact store_ok I1 hN hi hx r1 (fun s2 I2 => ⟨_, H1, I2, q1⟩) hf
end
/-! ### while -/
section
variable {X : Cx} {pos : Pos}
/-- the invariant W with its measure -/
def tWhile (c : TT) (tb : TS) : TS := fun D σ H => ∃ W : Nat → St → Hp → Prop, (∃ m, W m σ H) ∧ ∀ m σ H, W m σ H →
  c σ H fun b H1 => if b = true then ∃ N : St → Hp → Prop, (∀ σ' H', N σ' H' → ∃ m', m' < m ∧ W m' σ' H') ∧ tb { D with nx := N, ct := N, bk := D.nx } σ H1 else D.nx σ H1
theorem ps_while {c : Expr} {body : List Stmt} {tc : TT} {tb : TS} (hp : PassesOwn (model X.prog X.w) X.A X.env X.xe) (hc : PT X c tc) (hb : PSs X body tb) : PS X (.While c body [] pos) (tWhile tc tb) := by
  intro pins s σ H D I h
  obtain ⟨W, ⟨m0, w0⟩, turn⟩ := h
  refine wpAny_While (codeAny_whileLoop (fun n s' => ∃ σ' H', Inv X pins σ' H' s' ∧ W n σ' H') ?_ m0 ⟨σ, H, I, w0⟩)
  rintro n s1 ⟨σ1, H1, I1, w1⟩
  refine wpAny_passesOwn hp (thn (hc pins s1 σ1 H1 _ I1 (turn n σ1 H1 w1)) fun b s2 ⟨H2, I2, q2⟩ => ?_)
  cases b with
  | true =>
    obtain ⟨N, hN, q2⟩ := q2
    rw [if_pos rfl]
    refine wpAny_passesOwn hp (thn (hb pins s2 σ1 H2 _ I2 q2) fun f s3 q3 => ?_)
    cases f with
    | next =>
      obtain ⟨σ3, H3, I3, n3⟩ := q3
      obtain ⟨m', hm, w3⟩ := hN σ3 H3 n3
      exact ⟨m', hm, σ3, H3, I3, w3⟩
    | cont =>
      obtain ⟨σ3, H3, I3, n3⟩ := q3
      obtain ⟨m', hm, w3⟩ := hN σ3 H3 n3
      exact ⟨m', hm, σ3, H3, I3, w3⟩
    | brk => exact q3
    | ret v => exact q3
  | false =>
    rw [if_neg Bool.false_ne_true]
    exact wpAny_execs_nil ⟨σ1, H2, I2, q2⟩
end
/-! ### what a loop or a comprehension walks -/
/-- at turn i: it yields x (the heap may grow), or it stops -/
structure It where
  go : Nat → Hp → Prop
  yld : Nat → Hp → V → Hp → Prop
  stop : Nat → Hp → Prop
/-- the iterator's own objects may turn: they are not the frame's, not pinned, younger than the entry (or a comprehension's own) -/
def FpOk (X : Cx) (pins : List (Addr × Obj)) (H : Hp) (b : Addr) : Prop :=
  H b = none ∧ b ≠ X.env.locals ∧ b ∉ X.fs ∧ (b ∈ X.ex ∨ X.s₀.heap.objs.size ≤ b) ∧ (∀ x c, X.env.cells.lookup x = some c → c ≠ b) ∧ ∀ p ∈ X.pn ++ pins, p.1 ≠ b
theorem Inv.fpOk {X : Cx} {pins : List (Addr × Obj)} {σ : St} {H H' : Hp} {s : Shared} {b : Addr} (I : Inv X pins σ H s) (hb : s.heap.objs.size ≤ b) (hn : H' b = none) : FpOk X pins H' b := by
  refine ⟨hn, Nat.ne_of_gt (Nat.lt_of_lt_of_le I.lt hb), I.nofs hb, .inr (Nat.le_trans I.sz hb), fun x c e z => ?_, fun p hp z => ?_⟩
  · obtain ⟨v, q⟩ := I.cell x c e
    exact absurd (Nat.lt_of_lt_of_le q.lt (by rw [z]; exact hb)) (Nat.lt_irrefl _)
  · exact absurd (Nat.lt_of_lt_of_le (Heap.lt_size (I.pin p hp).1) (by rw [z]; exact hb)) (Nat.lt_irrefl _)
structure Turn (P : Program) (w : World) (K : PySem.W.Frag) (tg : Expr) (J : It) (fp : List Addr) (it : Addr) (tn : Nat → Heap → Prop) : Prop where
  mem : it ∈ fp
  obj : ∀ i h, tn i h → ∀ b ∈ fp, ∃ o, h.get? b = some o ∧ ∀ v, o.data ≠ .cell v
  keep : ∀ i h h', tn i h → (∀ b ∈ fp, ∀ o, h.get? b = some o → h'.get? b = some o) → tn i h'
  item : ∀ (X : Cx), X.prog = P → X.w = w → X.K = K → X.calm = true → ∀ (i : Nat) (pins : List (Addr × Obj)) (s : Shared) (σ : St) (H : Hp) (E : Value → Shared → Prop), Inv X pins σ H s → (∀ b ∈ fp, FpOk X pins H b) → tn i s.heap → J.go i H →
    wpAny (model P w) X.A (pyNext (.ref it)) (fun r s1 => ∃ u, r = some u ∧
      wpAny (model P w) X.A (letOwnedTupleGo tg (.ref it) u) (fun _ s2 => ∃ x H', Inv X pins σ H' s2 ∧ RelV x u ∧ J.yld i H x H' ∧ tn (i + 1) s2.heap ∧ ∀ b ∈ fp, H' b = none) E s1) E s
  done : ∀ (X : Cx), X.prog = P → X.w = w → X.K = K → X.calm = true → ∀ (i : Nat) (pins : List (Addr × Obj)) (s : Shared) (σ : St) (H : Hp) (E : Value → Shared → Prop), Inv X pins σ H s → (∀ b ∈ fp, FpOk X pins H b) → tn i s.heap → J.stop i H →
    wpAny (model P w) X.A (pyNext (.ref it)) (fun r s1 => r = none ∧ Inv X pins σ H s1) E s
  self : ∀ (A : Around) (i : Nat) (s : Shared) (Q : Value → Shared → Prop) (E : Value → Shared → Prop), tn i s.heap → Q (.ref it) s → wpAny (model P w) A (pyIter (.ref it)) Q E s
abbrev TI := St → Hp → (It → Hp → Prop) → Prop
/-- an iterator has come -/
def PIE (X : Cx) (pins : List (Addr × Obj)) (σ : St) (tg : Expr) (R : It → Hp → Prop) (itv : Value) (s2 : Shared) : Prop :=
  ∃ (it : Addr) (fp : List Addr) (tn : Nat → Heap → Prop) (J : It) (H' : Hp), itv = .ref it ∧ Inv X pins σ H' s2 ∧ Turn X.prog X.w X.K tg J fp it tn ∧ tn 0 s2.heap ∧ (∀ b ∈ fp, FpOk X pins H' b) ∧ R J H'
def PI (X : Cx) (tg iter : Expr) (wi : TI) : Prop :=
  ∀ (pins : List (Addr × Obj)) (s : Shared) (σ : St) (H : Hp) (R : It → Hp → Prop), Inv X pins σ H s → wi σ H R →
    wpAny (model X.prog X.w) X.A (eval iter X.env) (fun v s1 => wpAny (model X.prog X.w) X.A (pyIter v) (PIE X pins σ tg R) X.xe s1) X.xe s
end L2
namespace L2
open PySem PySem.Spec PyProof.Rows
section
variable {X : Cx} {tg : Expr}
/-! ### for -/
/-- W: the invariant by the turn and a measure; N: what the body is to reach -/
def tFor (wi : TI) (g : TG) (tb : TS) : TS := fun D σ H => wi σ H fun J H1 => ∃ W : Nat → Nat → St → Hp → Prop, (∃ m, W 0 m σ H1) ∧ ∀ i m σ H, W i m σ H →
  (J.stop i H ∧ D.nx σ H) ∨ (J.go i H ∧ ∃ N : St → Hp → Prop, (∀ σ' H', N σ' H' → ∃ m', m' < m ∧ W (i + 1) m' σ' H') ∧ ∀ x H', J.yld i H x H' → g x σ H' fun σ2 H2 => tb { D with nx := N, ct := N, bk := D.nx } σ2 H2)
/-- the records at fp as they stand -/
def pinsAt (fp : List Addr) (h : Heap) : List (Addr × Obj) := fp.filterMap fun b => (h.get? b).map fun o => (b, o)
theorem mem_pinsAt {fp : List Addr} {h : Heap} {b : Addr} {o : Obj} (hb : b ∈ fp) (e : h.get? b = some o) : (b, o) ∈ pinsAt fp h := List.mem_filterMap.mpr ⟨b, hb, by rw [e]; rfl⟩
theorem of_pinsAt {fp : List Addr} {h : Heap} {p : Addr × Obj} (hp : p ∈ pinsAt fp h) : p.1 ∈ fp ∧ h.get? p.1 = some p.2 := by
  obtain ⟨b, hb, e⟩ := List.mem_filterMap.mp hp
  cases q : h.get? b with
  | none => rw [q] at e; cases e
  | some o =>
    rw [q] at e
    have e' : (b, o) = p := Option.some.inj e
    subst e'
    exact ⟨hb, q⟩
theorem Inv.pinned {pins : List (Addr × Obj)} {σ : St} {H : Hp} {s : Shared} {fp : List Addr} (I : Inv X pins σ H s) (hf : ∀ b ∈ fp, FpOk X pins H b) (ho : ∀ b ∈ fp, ∃ o, s.heap.get? b = some o ∧ ∀ v, o.data ≠ .cell v) : Inv X (pins ++ pinsAt fp s.heap) σ H s :=
  I.pins_of fun p hp => (List.mem_append.mp hp).elim (fun z => I.pin p (List.mem_append_right _ z)) fun z => by
    obtain ⟨hb, e⟩ := of_pinsAt z
    obtain ⟨f0, f1, f2, _⟩ := hf p.1 hb
    obtain ⟨o, e', d⟩ := ho p.1 hb
    rw [e] at e'; cases e'
    exact ⟨e, f0, f1, f2, d⟩
theorem Inv.unpinned {pins pl : List (Addr × Obj)} {σ : St} {H : Hp} {s : Shared} (I : Inv X (pins ++ pl) σ H s) : Inv X pins σ H s := I.pins_of fun p hp => I.pin p (List.mem_append_right _ (List.mem_append_left _ hp))
theorem ps_for {iter : Expr} {body : List Stmt} {wi : TI} {g : TG} {tb : TS} {pos : Pos} (hp : PassesOwn (model X.prog X.w) X.A X.env X.xe) (hc : X.calm = true) (hi : PI X tg iter wi) (hg : PG X tg g) (hb : PSs X body tb)
    (hs : ∀ x, foldedSetIterable iter X.env x = pure x := by intro _; rfl) : PS X (.For tg iter body [] pos) (tFor wi g tb) := by
  intro pins s σ H D I h
  refine wpAny_For (thn (hi pins s σ H _ I h) fun v s1 h1 => thn h1 fun itv s2 h2 => ?_) hs
  obtain ⟨it, fp, tn, J, H2, e, I2, T, st2, f2, W, ⟨m0, w0⟩, turn⟩ := h2
  subst e
  -- what stays true of the iterator's objects through the loop
  have stat : ∀ {H' : Hp}, (∀ b ∈ fp, H' b = none) → ∀ b ∈ fp, FpOk X pins H' b := fun hn b hb => ⟨hn b hb, (f2 b hb).2⟩
  refine codeAny_forLoop_any (fun n s' => ∃ i σ' H', Inv X pins σ' H' s' ∧ tn i s'.heap ∧ (∀ b ∈ fp, H' b = none) ∧ W i n σ' H') ?_ m0 ⟨0, σ, H2, I2, st2, fun b hb => (f2 b hb).1, w0⟩
  rintro n s3 ⟨i, σ3, H3, I3, st3, fr3, w3⟩
  rcases turn i n σ3 H3 w3 with ⟨stop, qn⟩ | ⟨go, N, hN, step⟩
  · refine wpAny_passesOwn hp (thn (T.done X rfl rfl rfl hc i pins s3 σ3 H3 X.xe I3 (stat fr3) st3 stop) fun r s4 ⟨hr, I4⟩ => ?_)
    subst hr
    exact wpAny_execs_nil ⟨σ3, H3, I4, qn⟩
  · refine wpAny_passesOwn hp (thn (T.item X rfl rfl rfl hc i pins s3 σ3 H3 X.xe I3 (stat fr3) st3 go) fun r s4 ⟨u, hr, h4⟩ => ?_)
    subst hr
    refine wpAny_passesOwn hp (thn h4 fun _ s5 ⟨x, H5, I5, r5, y5, st5, fr5⟩ => ?_)
    have I5' := I5.pinned (stat fr5) (T.obj _ _ st5)
    refine wpAny_passesOwn hp (thn (hg _ s5 σ3 H5 x u _ I5' r5 (step x H5 y5)) fun _ s6 ⟨σ6, H6, I6, q6⟩ => ?_)
    refine wpAny_passesOwn hp (thn (hb _ s6 σ6 H6 _ I6 q6) fun f s7 q7 => ?_)
    have again : ∀ {σ7 : St} {H7 : Hp}, Inv X (pins ++ pinsAt fp s5.heap) σ7 H7 s7 → N σ7 H7 → ∃ m, m < n ∧ ∃ i σ' H', Inv X pins σ' H' s7 ∧ tn i s7.heap ∧ (∀ b ∈ fp, H' b = none) ∧ W i m σ' H' := fun {σ7 H7} I7 n7 => by
      obtain ⟨m', hm, w7⟩ := hN σ7 H7 n7
      refine ⟨m', hm, i + 1, σ7, H7, I7.unpinned, T.keep _ _ _ st5 fun b hb o e => (I7.pin (b, o) (List.mem_append_right _ (List.mem_append_right _ (mem_pinsAt hb e)))).1, fun b hb => ?_, w7⟩
      obtain ⟨o, e, d⟩ := T.obj _ _ st5 b hb
      exact (I7.pin (b, o) (List.mem_append_right _ (List.mem_append_right _ (mem_pinsAt hb e)))).2.1
    cases f with
    | next => obtain ⟨σ7, H7, I7, n7⟩ := q7; exact again I7 n7
    | cont => obtain ⟨σ7, H7, I7, n7⟩ := q7; exact again I7 n7
    | brk => obtain ⟨σ7, H7, I7, q7⟩ := q7; exact ⟨σ7, H7, I7.unpinned, q7⟩
    | ret v => obtain ⟨x7, σ7, H7, I7, r7, q7⟩ := q7; exact ⟨x7, σ7, H7, I7.unpinned, r7, q7⟩
end
/-! ### the forms one uses -/
end L2
namespace L2
open PySem PySem.Spec PyProof.Rows
abbrev R2 := V → V → Hp → VK → Prop
/-- a two-place operation on values: f is binaryOp op, inplaceOp op or compareOp op -/
def OpR (X : Cx) (f : Value → Value → Sem Value) (r : R2) : Prop :=
  ∀ (pins : List (Addr × Obj)) (s : Shared) (σ : St) (H : Hp) (x y : V) (v u : Value) (Q : VK), Inv X pins σ H s → RelV x v → RelV y u → r x y H Q →
    wpAny (model X.prog X.w) X.A (f v u) (EP X pins σ Q) X.xe s
/-- a one-place operation -/
def UnR (X : Cx) (f : Value → Sem Value) (r : V → Hp → VK → Prop) : Prop :=
  ∀ (pins : List (Addr × Obj)) (s : Shared) (σ : St) (H : Hp) (x : V) (v : Value) (Q : VK), Inv X pins σ H s → RelV x v → r x H Q →
    wpAny (model X.prog X.w) X.A (f v) (EP X pins σ Q) X.xe s
/-- a call of a value that is known (a builtin, a type) with values -/
def CallR (X : Cx) (f : Value) (r : List V → Hp → VK → Prop) : Prop :=
  ∀ (pins : List (Addr × Obj)) (s : Shared) (σ : St) (H : Hp) (xs : List V) (us : List Value) (Q : VK), Inv X pins σ H s → Vals xs us → r xs H Q →
    wpAny (model X.prog X.w) X.A (call f us) (EP X pins σ Q) X.xe s
def tOp (r : R2) (ta tb : TE) : TE := fun σ H Q => ta σ H fun x H1 => tb σ H1 fun y H2 => r x y H2 Q
def tUn (r : V → Hp → VK → Prop) (ta : TE) : TE := fun σ H Q => ta σ H fun x H1 => r x H1 Q
/-- ints in, under C, and a value out -/
def rI (C : Int → Int → Prop) (g : Int → Int → V) : R2 := fun x y H Q => ∃ i j, x = .int i ∧ y = .int j ∧ C i j ∧ Q (g i j) H
def rI0 (g : Int → Int → V) : R2 := fun x y H Q => ∃ i j, x = .int i ∧ y = .int j ∧ Q (g i j) H
def rU (g : Int → V) : V → Hp → VK → Prop := fun x H Q => ∃ i, x = .int i ∧ Q (g i) H
section
variable {X : Cx} {a b c : Expr} {ta tb tc : TE} {pos : Pos}
theorem binT (ha : PE X a ta) (hb : PE X b tb) {pins : List (Addr × Obj)} {s : Shared} {σ : St} {H : Hp} {R : V → V → Hp → Prop} (I : Inv X pins σ H s)
    (h : ta σ H fun x H1 => tb σ H1 fun y H2 => R x y H2) {Q : Value → Shared → Prop} {f : Value → Value → Sem Value}
    (hf : ∀ v u s2 x y H2, Inv X pins σ H2 s2 → RelV x v → RelV y u → R x y H2 → wpAny (model X.prog X.w) X.A (f v u) Q X.xe s2) :
    wpAny (model X.prog X.w) X.A (eval a X.env) (fun v s₁ => wpAny (model X.prog X.w) X.A (eval b X.env) (fun u s₂ => wpAny (model X.prog X.w) X.A (f v u) Q X.xe s₂) X.xe s₁) X.xe s := by
  refine thn (ha pins s σ H _ I h) fun v s1 ⟨x, H1, I1, r1, q1⟩ => ?_
  refine thn (hb pins s1 σ H1 _ I1 q1) fun u s2 ⟨y, H2, I2, r2, q2⟩ => ?_
  exact hf v u s2 x y H2 I2 r1 r2 q2
theorem pe_op {op : Operator} {r : R2} (ho : OpR X (binaryOp op) r) (ha : PE X a ta) (hb : PE X b tb) : PE X (.BinOp a op b pos) (tOp r ta tb) := by
  intro pins s σ H Q I h
  exact wpAny_BinOp (binT ha hb I h fun v u s2 x y H2 I2 rx ry q => ho pins s2 σ H2 x y v u Q I2 rx ry q)
theorem pe_un {op : UnaryOp} {r : V → Hp → VK → Prop} (ho : UnR X (unaryOp op) r) (ha : PE X a ta) : PE X (.UnaryOp op a pos) (tUn r ta) := by
  intro pins s σ H Q I h
  exact UnaryOp_ (thn (ha pins s σ H _ I h) fun v s1 ⟨x, H1, I1, r1, q1⟩ => ho pins s1 σ H1 x v Q I1 r1 q1)
/-! ### ints -/
theorem opI {f : Value → Value → Sem Value} {C : Int → Int → Prop} {g : Int → Int → Int}
    (rule : ∀ (i j : Int) (t u : Tok) (s : Shared) (Q : Value → Shared → Prop) (E : Value → Shared → Prop), C i j → Q (.int (g i j) s.toks) { s with toks := s.toks + 1 } → wpAny (model X.prog X.w) X.A (f (.int i t) (.int j u)) Q E s) :
    OpR X f (rI C fun i j => .int (g i j)) := by
  intro pins s σ H x y v u Q I rx ry h
  obtain ⟨i, j, rfl, rfl, hc, q⟩ := h
  obtain ⟨t, rfl⟩ := rx
  obtain ⟨t', rfl⟩ := ry
  exact rule i j t t' s _ _ hc ⟨.int (g i j), H, I.tok _, ⟨_, rfl⟩, q⟩
theorem opI0 {f : Value → Value → Sem Value} {g : Int → Int → Int}
    (rule : ∀ (i j : Int) (t u : Tok) (s : Shared) (Q : Value → Shared → Prop) (E : Value → Shared → Prop), Q (.int (g i j) s.toks) { s with toks := s.toks + 1 } → wpAny (model X.prog X.w) X.A (f (.int i t) (.int j u)) Q E s) :
    OpR X f (rI0 fun i j => .int (g i j)) := by
  intro pins s σ H x y v u Q I rx ry h
  obtain ⟨i, j, rfl, rfl, q⟩ := h
  obtain ⟨t, rfl⟩ := rx
  obtain ⟨t', rfl⟩ := ry
  exact rule i j t t' s _ _ ⟨.int (g i j), H, I.tok _, ⟨_, rfl⟩, q⟩
theorem opB0 {f : Value → Value → Sem Value} {g : Int → Int → Bool}
    (rule : ∀ (i j : Int) (t u : Tok) (s : Shared) (Q : Value → Shared → Prop) (E : Value → Shared → Prop), Q (.bool (g i j)) s → wpAny (model X.prog X.w) X.A (f (.int i t) (.int j u)) Q E s) :
    OpR X f (rI0 fun i j => .bl (g i j)) := by
  intro pins s σ H x y v u Q I rx ry h
  obtain ⟨i, j, rfl, rfl, q⟩ := h
  obtain ⟨t, rfl⟩ := rx
  obtain ⟨t', rfl⟩ := ry
  exact rule i j t t' s _ _ ⟨.bl (g i j), H, I, rfl, q⟩
def CMul (i j : Int) : Prop := (-(2 ^ 64) < i ∧ i < 2 ^ 64) ∨ (-(2 ^ 64) < j ∧ j < 2 ^ 64)
theorem CMul.ok {i j : Int} (h : CMul i j) : IntMulOk i j := by
  rcases h with ⟨h1, h2⟩ | ⟨h1, h2⟩
  · exact .of_left (intBits_le_64 h1 h2)
  · exact .of_right (intBits_le_64 h1 h2)
theorem two_pow_nn (k : Nat) : (0 : Int) ≤ 2 ^ k := by
  rw [two_pow_cast]
  exact Int.natCast_nonneg _
theorem op_add : OpR X (binaryOp .Add) (rI0 fun i j => .int (i + j)) := opI0 fun _ _ _ _ _ _ _ q => add_int q
theorem op_sub : OpR X (binaryOp .Sub) (rI0 fun i j => .int (i - j)) := opI0 fun _ _ _ _ _ _ _ q => sub_int q
theorem op_mul : OpR X (binaryOp .Mult) (rI CMul fun i j => .int (i * j)) := opI fun _ _ _ _ _ _ _ hc q => mul_int q hc.ok
/-- % by a positive divisor of any size -/
theorem op_mod : OpR X (binaryOp .Mod) (rI (fun _ j => 0 < j) fun i j => .int (i % j)) := opI fun i j _ _ _ _ _ hc q => by
  have h1 : (0 : Int) < j := hc
  exact mod_int' (by omega) (by rw [Int.fmod_eq_emod_of_nonneg i (by omega)]; exact q)
theorem op_shr : OpR X (binaryOp .RShift) (rI (fun _ j => 0 ≤ j) fun i j => .int (i / 2 ^ j.toNat)) := opI fun i j _ _ _ _ _ hc q =>
  rshift_int hc (by rw [Int.fdiv_eq_ediv_of_nonneg i (two_pow_nn _)]; exact q)
theorem op_and : OpR X (binaryOp .BitAnd) (rI0 fun i j => .int (Builtin.bitAnd i j)) := opI0 fun _ _ _ _ _ _ _ q => and_int q
theorem op_or : OpR X (binaryOp .BitOr) (rI0 fun i j => .int (Builtin.bitOr i j)) := opI0 fun _ _ _ _ _ _ _ q => or_int q
theorem op_xor : OpR X (binaryOp .BitXor) (rI0 fun i j => .int (Builtin.bitXor i j)) := opI0 fun _ _ _ _ _ _ _ q => xor_int q
theorem unI {f : Value → Sem Value} {g : Int → Int}
    (rule : ∀ (i : Int) (t : Tok) (s : Shared) (Q : Value → Shared → Prop) (E : Value → Shared → Prop), Q (.int (g i) s.toks) { s with toks := s.toks + 1 } → wpAny (model X.prog X.w) X.A (f (.int i t)) Q E s) :
    UnR X f (rU fun i => .int (g i)) := by
  intro pins s σ H x v Q I rx h
  obtain ⟨i, rfl, q⟩ := h
  obtain ⟨t, rfl⟩ := rx
  exact rule i t s _ _ ⟨.int (g i), H, I.tok _, ⟨_, rfl⟩, q⟩
theorem un_neg : UnR X (unaryOp .USub) (rU fun i => .int (-i)) := unI fun _ _ _ _ _ q => neg_int q
/-! ### bools among ints: n += (a < b) -/
end
/-! ### comparisons -/
/-- the scalars that == tells apart as data does -/
def scal : V → V → Bool
  | .non, .non => true | .non, .int _ => true | .int _, .non => true | .non, .bl _ => true | .bl _, .non => true | .non, .str _ => true | .str _, .non => true
  | .int _, .int _ => true | .bl _, .bl _ => true | .str _, .str _ => true | .byt _, .byt _ => true
  | .int _, .str _ => true | .str _, .int _ => true | .bl _, .str _ => true | .str _, .bl _ => true
  | _, _ => false
def rEq : R2 := fun x y H Q => scal x y = true ∧ Q (.bl (decide (x = y))) H
def rNe : R2 := fun x y H Q => scal x y = true ∧ Q (.bl (!decide (x = y))) H
theorem dec_int {i j : Int} : decide (V.int i = V.int j) = (i == j) := by
  rw [Bool.eq_iff_iff]
  simp
theorem dec_bl {i j : Bool} : decide (V.bl i = V.bl j) = (i == j) := by
  rw [Bool.eq_iff_iff]
  simp
theorem dec_str {i j : Str} : decide (V.str i = V.str j) = (i == j) := by
  rw [Bool.eq_iff_iff]
  simp
theorem dec_byt {i j : Array UInt8} : decide (V.byt i = V.byt j) = (i.toList == j.toList) := by
  rw [Bool.eq_iff_iff]
  cases i
  cases j
  simp
section
variable {X : Cx} {a b c : Expr} {ta tb tc : TE} {pos : Pos}
theorem fin_bl {pins : List (Addr × Obj)} {σ : St} {H : Hp} {s : Shared} {Q : VK} {k k' : Bool} (I : Inv X pins σ H s) (q : Q (.bl k) H) (e : k = k') : EP X pins σ Q (.bool k') s := by
  subst e
  exact ⟨.bl k, H, I, rfl, q⟩
theorem op_eq : OpR X (compareOp .Eq) rEq := by
  intro pins s σ H x y v u Q I rx ry h
  obtain ⟨hs, q⟩ := h
  cases x with
  | non =>
    cases rx
    cases y with
    | non => cases ry; exact PySem.EqNone.eq_none_none (fin_bl I q (by simp))
    | bl j => cases ry; exact PySem.EqNone.eq_none_bool (fin_bl I q (by simp))
    | int j => obtain ⟨t', rfl⟩ := ry; exact PySem.EqNone.eq_none_int (fin_bl I q (by simp))
    | str j => obtain ⟨t', rfl⟩ := ry; exact PySem.EqNone.eq_none_str (fin_bl I q (by simp))
    | _ => exact absurd (show false = true from hs) Bool.false_ne_true
  | bl i =>
    cases rx
    cases y with
    | non => cases ry; exact PySem.EqNone.eq_bool_none (fin_bl I q (by simp))
    | bl j => cases ry; exact eq_bool (fin_bl I q dec_bl)
    | str j => obtain ⟨t', rfl⟩ := ry; exact PySem.EqMixed.eq_bool_str (fin_bl I q (by simp))
    | _ => exact absurd (show false = true from hs) Bool.false_ne_true
  | int i =>
    obtain ⟨t, rfl⟩ := rx
    cases y with
    | non => cases ry; exact PySem.EqNone.eq_int_none (fin_bl I q (by simp))
    | int j => obtain ⟨t', rfl⟩ := ry; exact eq_int (fin_bl I q dec_int)
    | str j => obtain ⟨t', rfl⟩ := ry; exact PySem.EqMixed.eq_int_str (fin_bl I q (by simp))
    | _ => exact absurd (show false = true from hs) Bool.false_ne_true
  | str i =>
    obtain ⟨t, rfl⟩ := rx
    cases y with
    | non => cases ry; exact PySem.EqNone.eq_str_none (fin_bl I q (by simp))
    | bl j => cases ry; exact PySem.EqMixed.eq_str_bool (fin_bl I q (by simp))
    | int j => obtain ⟨t', rfl⟩ := ry; exact PySem.EqMixed.eq_str_int (fin_bl I q (by simp))
    | str j => obtain ⟨t', rfl⟩ := ry; exact eq_str (fin_bl I q dec_str)
    | _ => exact absurd (show false = true from hs) Bool.false_ne_true
  | byt i =>
    obtain ⟨t, rfl⟩ := rx
    cases y with
    | byt j => obtain ⟨t', rfl⟩ := ry; exact PySem.W.eq_bytes (fin_bl I q dec_byt)
    | _ => exact absurd (show false = true from hs) Bool.false_ne_true
  | _ => cases y <;> exact absurd (show false = true from hs) Bool.false_ne_true
theorem op_ne : OpR X (compareOp .NotEq) rNe := by
  intro pins s σ H x y v u Q I rx ry h
  obtain ⟨hs, q⟩ := h
  cases x with
  | non =>
    cases rx
    cases y with
    | non => cases ry; exact PySem.EqNone.ne_none_none (fin_bl I q (by simp))
    | bl j => cases ry; exact PySem.EqNone.ne_none_bool (fin_bl I q (by simp))
    | int j => obtain ⟨t', rfl⟩ := ry; exact PySem.EqNone.ne_none_int (fin_bl I q (by simp))
    | str j => obtain ⟨t', rfl⟩ := ry; exact PySem.EqNone.ne_none_str (fin_bl I q (by simp))
    | _ => exact absurd (show false = true from hs) Bool.false_ne_true
  | bl i =>
    cases rx
    cases y with
    | non => cases ry; exact PySem.EqNone.ne_bool_none (fin_bl I q (by simp))
    | bl j => cases ry; exact ne_bool (fin_bl I q (congrArg not dec_bl))
    | str j => obtain ⟨t', rfl⟩ := ry; exact PySem.EqMixed.ne_bool_str (fin_bl I q (by simp))
    | _ => exact absurd (show false = true from hs) Bool.false_ne_true
  | int i =>
    obtain ⟨t, rfl⟩ := rx
    cases y with
    | non => cases ry; exact PySem.EqNone.ne_int_none (fin_bl I q (by simp))
    | int j => obtain ⟨t', rfl⟩ := ry; exact ne_int (fin_bl I q (congrArg not dec_int))
    | str j => obtain ⟨t', rfl⟩ := ry; exact PySem.EqMixed.ne_int_str (fin_bl I q (by simp))
    | _ => exact absurd (show false = true from hs) Bool.false_ne_true
  | str i =>
    obtain ⟨t, rfl⟩ := rx
    cases y with
    | non => cases ry; exact PySem.EqNone.ne_str_none (fin_bl I q (by simp))
    | bl j => cases ry; exact PySem.EqMixed.ne_str_bool (fin_bl I q (by simp))
    | int j => obtain ⟨t', rfl⟩ := ry; exact PySem.EqMixed.ne_str_int (fin_bl I q (by simp))
    | str j => obtain ⟨t', rfl⟩ := ry; exact ne_str (fin_bl I q (congrArg not dec_str))
    | _ => exact absurd (show false = true from hs) Bool.false_ne_true
  | byt i =>
    obtain ⟨t, rfl⟩ := rx
    cases y with
    | byt j => obtain ⟨t', rfl⟩ := ry; exact PySem.W.ne_bytes (fin_bl I q (congrArg not dec_byt))
    | _ => exact absurd (show false = true from hs) Bool.false_ne_true
  | _ => cases y <;> exact absurd (show false = true from hs) Bool.false_ne_true
theorem op_lt : OpR X (compareOp .Lt) (rI0 fun i j => .bl (decide (i < j))) := opB0 fun _ _ _ _ _ _ _ q => lt_int q
theorem op_gt : OpR X (compareOp .Gt) (rI0 fun i j => .bl (decide (j < i))) := opB0 fun _ _ _ _ _ _ _ q => gt_int q
theorem op_ge : OpR X (compareOp .GtE) (rI0 fun i j => .bl (decide (j ≤ i))) := opB0 fun _ _ _ _ _ _ _ q => ge_int q
theorem nomark (b : Expr) {op : CmpOp} (h : op ≠ .In := by decide) (h2 : op ≠ .NotIn := by decide) : behindInMarks op b = false := by
  have e1 : (op == CmpOp.In) = false := by cases op <;> first | rfl | exact absurd rfl h
  have e2 : (op == CmpOp.NotIn) = false := by cases op <;> first | rfl | exact absurd rfl h2
  cases b <;> simp [behindInMarks, e1, e2]
/-- a comparison as a value; hm: nomark b, or (for in, not in) by with_unfolding_all rfl -/
theorem pe_cmpR {op : CmpOp} {r : R2} (ho : OpR X (compareOp op) r) (ha : PE X a ta) (hb : PE X b tb) (hm : behindInMarks op b = false) : PE X (.Compare a [op] [b] pos) (tOp r ta tb) := by
  intro pins s σ H Q I h
  exact wpAny_Compare1 (binT ha hb I h fun v u s2 x y H2 I2 rx ry q => ho pins s2 σ H2 x y v u Q I2 rx ry q) hm
/-- a reading of a value as a test -/
def tTest (t : TE) : TT := fun σ H Q => t σ H fun x H' => ∃ k, x = .bl k ∧ Q k H'
theorem pt_cmpR {op : CmpOp} {r : R2} (ho : OpR X (compareOp op) r) (ha : PE X a ta) (hb : PE X b tb) (hm : behindInMarks op b = false) : PT X (.Compare a [op] [b] pos) (tTest (tOp r ta tb)) := by
  intro pins s σ H Q I h
  refine wpAny_isTrue_Compare1 (thn (ha pins s σ H _ I h) fun v s1 ⟨x, H1, I1, r1, q1⟩ => thn (hb pins s1 σ H1 _ I1 q1) fun u s2 ⟨y, H2, I2, r2, q2⟩ =>
    thn (ho pins s2 σ H2 x y v u _ I2 r1 r2 q2) fun c s3 ⟨z, H3, I3, r3, k, e, q3⟩ => ?_) hm
  subst e
  cases r3
  exact wpAny_truthy_bool ⟨H3, I3, q3⟩
/-! ### truth -/
theorem line63 : (sizeLine : Nat) < 2 ^ 63 := by rw [sizeLine_eq]; decide
/-! ### strs and bytes -/
/-! ### scalar builtins, by CallR -/
theorem vals1 {x : V} {us : List Value} (r : Vals [x] us) : ∃ u, us = [u] ∧ RelV x u := by
  cases r with
  | cons r1 r2 => cases r2; exact ⟨_, rfl, r1⟩
theorem vals2 {x y : V} {us : List Value} (r : Vals [x, y] us) : ∃ u w', us = [u, w'] ∧ RelV x u ∧ RelV y w' := by
  cases r with
  | cons r1 r2 =>
    cases r2 with
    | cons r3 r4 => cases r4; exact ⟨_, _, rfl, r1, r3⟩
theorem call_abs : CallR X (.builtin "abs") (fun xs H Q => ∃ i, xs = [.int i] ∧ Q (.int (if i < 0 then -i else i)) H) := by
  intro pins s σ H xs us Q I r h
  obtain ⟨i, rfl, q⟩ := h
  obtain ⟨u, rfl, t, rfl⟩ := vals1 r
  exact call_abs_int fun u tk => ⟨.int (if i < 0 then -i else i), H, I.tok _, ⟨_, rfl⟩, q⟩
theorem call_max2 (hc : X.calm = true) : CallR X (.builtin "max") (fun xs H Q => ∃ i j, xs = [.int i, .int j] ∧ Q (.int (if j > i then j else i)) H) := by
  intro pins s σ H xs us Q I r h
  obtain ⟨i, j, rfl, q⟩ := h
  obtain ⟨u, w', rfl, ⟨t, rfl⟩, ⟨t', rfl⟩⟩ := vals2 r
  refine max_two_ints (I.ok.hd hc) fun h' tk k => ⟨_, H, I.kept k, ?_, q⟩
  by_cases hj : j > i
  · rw [if_pos hj, if_pos hj]; exact ⟨_, rfl⟩
  · rw [if_neg hj, if_neg hj]; exact ⟨_, rfl⟩
end
end L2
namespace L2
open PySem PySem.Spec PyProof.Rows
/-! ### an instance, its attributes a map -/
structure ObjM (h : Heap) (x dx C : Addr) (mA : Str → Option Value) : Prop where
  obj : h.get? x = some (PySem.W.instObj C dx)
  ns : h.Ns1 dx mA
  ne : dx ≠ x
theorem lookIn_ns {h : Heap} {dx : Addr} {mA : Str → Option Value} (n : h.Ns1 dx mA) : ∃ od, h.get? dx = some od ∧ ∀ name, PySem.W.lookIn name od = some (mA name) := by
  obtain ⟨o, es, ep, ho, hd, hk, _, hm⟩ := n
  refine ⟨o, ho, fun name => ?_⟩
  have e := hm name
  unfold nsFind findBy at e
  rw [← Array.find?_toList] at e
  unfold PySem.W.lookIn
  rw [hd]
  dsimp only
  split
  · rename_i y q
    rw [q] at e
    exact congrArg some e
  · rename_i q
    rw [q] at e
    have a : es.toList.any (·.refKey) = false := by
      rw [List.any_eq_false]
      intro y hy
      obtain ⟨z, t, hkey⟩ := hk y (Array.mem_toList_iff.mp hy)
      simp [DictEntry.refKey, hkey]
    have a' : ¬ es.toList.any (·.refKey) = true := by rw [a]; exact Bool.false_ne_true
    rw [if_neg a']
    exact congrArg some e
theorem ObjM.look {h : Heap} {x dx C : Addr} {mA : Str → Option Value} (I : ObjM h x dx C mA) : ∃ od, PySem.W.InstAt h x (PySem.W.instObj C dx) C (some od) ∧ ∀ name, PySem.W.lookIn name od = some (mA name) :=
  let ⟨od, ho, hl⟩ := lookIn_ns I.ns
  ⟨od, ⟨I.obj, rfl, rfl, ho⟩, hl⟩
section
variable {prog : Program} {w : World} {A : Around} {E : Value → Shared → Prop} {s : Shared} {K : PySem.W.Frag} {x dx C f : Addr} {mA : Str → Option Value} {name : Str} {v : Value}
theorem get_map {expr : Bool} {Q : Value → Shared → Prop} (X : K.In s.heap) (I : ObjM s.heap x dx C mA) (hg : PySem.W.plainGet K C name = true) (hh : PySem.W.hasDictIn K C = true)
    (ha : PySem.W.findIn K (.ref C) name = some none) (hv : mA name = some v) (hv' : PySem.W.handedIn v = true) (h : Q v { s with toks := s.toks + 1 }) :
    wpAny (model prog w) A (getAttr (.ref x) name expr) Q E s := by
  obtain ⟨od, J, hl⟩ := I.look
  exact PySem.W.get_value X J (PySem.W.plainGet_of hg).1 (PySem.W.findObj_own hh ha rfl (by rw [hl, hv])) hv' h
theorem get_meth {pl : Sem Bool} {Q : Value × List Value → Shared → Prop} (X : K.In s.heap) (I : ObjM s.heap x dx C mA) (hg : PySem.W.plainGet K C name = true)
    (hf : PySem.W.findIn K (.ref C) name = some (some (.ref f))) (ht : PySem.W.isFn K (.ref f) = true) (hv : mA name = none) (h : Q (.ref f, [.ref x]) s) :
    wpAny (model prog w) A (getMethod (.ref x) name pl) Q E s := by
  obtain ⟨od, J, hl⟩ := I.look
  exact PySem.W.method_fn X J (PySem.W.plainGet_of hg).1 (PySem.W.plainGet_of hg).2 hf (beq_iff_eq.mp ht) (by show (PySem.W.lookIn name od).map (·.isSome) = some false; rw [hl, hv]; rfl) h
theorem set_map {ns : List Str} {Q : Unit → Shared → Prop} (X : K.In s.heap) (I : ObjM s.heap x dx C mA)
    (hs : PySem.W.findIn K (.ref C) "__setattr__" = some (some (.builtin "object.__setattr__"))) (hp : PySem.W.plainOver K C = true) (ht : PySem.W.takerIn K C name = some none) (hh : PySem.W.hasDictIn K C = true)
    (hw : PySem.Within mA ns) (hsz : ns.length ≤ sizeLine)
    (h : ∀ h', ObjM h' x dx C (fun y => if y = name then some v else mA y) → Heap.SameBut dx s.heap h' → Q () { s with heap := h', toks := s.toks + 2 }) :
    wpAny (model prog w) A (setAttr (.ref x) name v) Q E s := by
  obtain ⟨od, J, hl⟩ := I.look
  refine PySem.W.set_plain X J hs (PySem.W.osa_open (s := { s with toks := s.toks + 1 }) (r := none) X J hp ht fun b => ?_)
  obtain ⟨cd, hc, hd'⟩ := PySem.W.any_some hh
  have hx : s.heap.get? x = some ⟨.ref C, some dx, .plain, #[]⟩ := I.obj
  refine wpAny_bind (wpAny_pure (wpAny_bind (wpAny_bind (wpAny_loadPart hx (wpAny_bind (PySem.W.Looks.here (s := { s with toks := s.toks + 1 }) (PySem.W.looks_clsIn X hc) ?_))))))
  rw [hd']
  refine wpAny_pure (a := some dx) (wpAny_bind (wpAny_pure (wpAny_bind ?_)))
  refine wpAny_nsSet1 (s := { s with toks := s.toks + 1 }) I.ns fun h' hn2 hs2 => ?_
  obtain ⟨oD, esD, epD, hoD, hdD, hcD⟩ := hn2.count (PySem.Within.cons name v hw)
  refine wpAny_bind (wpAny_lookBehind hoD (by rw [hdD]; exact pastItsLine_dict (Nat.le_trans hcD (by rw [List.length_cons]; omega))) ?_)
  exact wpAny_pure (h _ ⟨(hs2.2 _ (Ne.symm I.ne)).trans I.obj, hn2, I.ne⟩ hs2)
/-- C(..): the dict at the heap's end, the instance behind it; then its __init__ -/
theorem make_map {R : Result → Shared → Prop} {vs : List Value} {kw : List (Str × Value)} (X : K.In s.heap) (hm : PySem.W.makesIn K C = true)
    (hi : PySem.W.findIn K (.ref C) "__init__" = some (some (.ref f))) (hf : PySem.W.typeIn K (.ref f) = some (.type "function"))
    (h : codeAny (model prog w) (A.under (.builtin "type.__call__" ⟨.ref C :: vs, kw⟩)) (.call (.ref f) ⟨.ref (s.heap.objs.size + 1) :: vs, kw⟩) (PySem.W.InitBack (s.heap.objs.size + 1) R)
      { s with heap := (s.heap.push PySem.W.emptyDict).push (PySem.W.instObj C s.heap.objs.size) }) :
    codeAny (model prog w) A (.call (.ref C) ⟨vs, kw⟩) R s := by
  obtain ⟨hh, g, d, t, os⟩ := s
  exact PySem.W.make_core (PySem.W.makes_of X hm) (PySem.W.looks_findIn X hi) (fun self => PySem.W.bind_fn X self hf) (.inl rfl) h
end
/-! ### the attributes as a list of pairs -/
def putF (f : Str) (v : V) : List (Str × V) → List (Str × V)
  | [] => [(f, v)]
  | (g, x) :: r => if g = f then (g, v) :: r else (g, x) :: putF f v r
theorem lookup_putF (f g : Str) (v : V) : ∀ fs : List (Str × V), (putF f v fs).lookup g = if g = f then some v else fs.lookup g
  | [] => by
    show List.lookup g [(f, v)] = _
    by_cases h : g = f
    · have hb : (g == f) = true := beq_iff_eq.mpr h
      simp only [List.lookup, hb, if_pos h]
    · have hb : (g == f) = false := beq_eq_false_iff_ne.mpr h
      simp only [List.lookup, hb, if_neg h]
  | (k, x) :: r => by
    have ih := lookup_putF f g v r
    rw [show putF f v ((k, x) :: r) = (if k = f then (k, v) :: r else (k, x) :: putF f v r) from rfl]
    by_cases hk : k = f
    · rw [if_pos hk]
      by_cases h : g = k
      · have hb : (g == k) = true := beq_iff_eq.mpr h
        simp only [List.lookup, hb, if_pos (h.trans hk)]
      · have hb : (g == k) = false := beq_eq_false_iff_ne.mpr h
        simp only [List.lookup, hb, if_neg (fun e : g = f => h (e.trans hk.symm))]
    · rw [if_neg hk]
      by_cases h : g = k
      · have hb : (g == k) = true := beq_iff_eq.mpr h
        simp only [List.lookup, hb, if_neg (fun e : g = f => hk (h.symm.trans e))]
      · have hb : (g == k) = false := beq_eq_false_iff_ne.mpr h
        simp only [List.lookup, hb]
        exact ih
theorem keys_putF (f : Str) (v : V) : ∀ fs : List (Str × V), f ∈ (putF f v fs).map (·.1) ∧ ∀ g, g ∈ fs.map (·.1) → g ∈ (putF f v fs).map (·.1)
  | [] => ⟨by simp [putF], fun g h => by simp at h⟩
  | (k, x) :: r => by
    obtain ⟨i1, i2⟩ := keys_putF f v r
    rw [show putF f v ((k, x) :: r) = (if k = f then (k, v) :: r else (k, x) :: putF f v r) from rfl]
    by_cases hk : k = f
    · rw [if_pos hk]
      subst hk
      exact ⟨by simp, fun g h => by simpa using h⟩
    · rw [if_neg hk]
      refine ⟨?_, fun g h => ?_⟩
      · rw [List.map_cons]
        exact List.mem_cons_of_mem _ i1
      · rw [List.map_cons] at h ⊢
        rcases List.mem_cons.mp h with e | e
        · exact List.mem_cons.mpr (.inl e)
        · exact List.mem_cons_of_mem _ (i2 g e)
theorem length_putF (f : Str) (v : V) : ∀ fs : List (Str × V), (putF f v fs).length ≤ fs.length + 1
  | [] => by simp [putF]
  | (k, x) :: r => by
    have ih := length_putF f v r
    rw [show putF f v ((k, x) :: r) = (if k = f then (k, v) :: r else (k, x) :: putF f v r) from rfl]
    by_cases hk : k = f
    · rw [if_pos hk, List.length_cons, List.length_cons]; omega
    · rw [if_neg hk, List.length_cons, List.length_cons]; omega
theorem RelO.some_of {v : V} {o : Option Value} (r : RelO (some v) o) : ∃ u, o = some u ∧ RelV v u := by
  cases o with
  | none => exact (show False from r).elim
  | some u => exact ⟨u, rfl, r⟩
theorem RelO.none_of {o : Option Value} (r : RelO none o) : o = none := by
  cases o with
  | none => rfl
  | some u => exact (show False from r).elim
theorem handed_of {v : V} {u : Value} (r : RelV v u) : PySem.W.handedIn u = true := by
  cases v with
  | non => cases (show u = Value.none from r); rfl
  | bl b => cases (show u = Value.bool b from r); rfl
  | int i => obtain ⟨t, e⟩ := (show ∃ t, u = Value.int i t from r); cases e; rfl
  | str x => obtain ⟨t, e⟩ := (show ∃ t, u = Value.str x t from r); cases e; rfl
  | byt b => obtain ⟨t, e⟩ := (show ∃ t, u = Value.bytes b t from r); cases e; rfl
  | flt b => obtain ⟨t, e⟩ := (show ∃ t, u = Value.float b t from r); cases e; rfl
  | ref a => cases (show u = Value.ref a from r); rfl
  | ty n => cases (show u = Value.type n from r); rfl
section
variable {P : Program} {w : World} {H H' : Hp} {h h' : Heap} {a C dx : Addr} {fs fs' : List (Str × V)}
theorem ins_get (hok : HOk P w H h) (e : H a = some (.ins C dx fs)) : ∃ mA, ObjM h a dx C mA ∧ (∀ f, RelO (fs.lookup f) (mA f)) ∧ PySem.Within mA (fs.map (·.1)) ∧ fs.length ≤ 1000 ∧ H dx = some (.own a) := by
  obtain ⟨d, z, ne, ob, mA, n, r, q⟩ := (show ObjOk P w H h a (.ins C dx fs) from hok a _ e)
  exact ⟨mA, ⟨ob, n, ne⟩, r, q, z, d⟩
end
/-! ### what of the text a class must have -/
structure Cls (K : PySem.W.Frag) (C : Addr) : Prop where
  pg : PySem.W.plainGet K C Str.empty = true
  hd : PySem.W.hasDictIn K C = true
  po : PySem.W.plainOver K C = true
  sa : PySem.W.findIn K (.ref C) "__setattr__" = some (some (.builtin "object.__setattr__"))
theorem Cls.get {K : PySem.W.Frag} {C : Addr} (c : Cls K C) (f : Str) : PySem.W.plainGet K C f = true := c.pg
/-- no class of it has the name -/
def NoAttr (K : PySem.W.Frag) (C : Addr) (f : Str) : Prop := PySem.W.findIn K (.ref C) f = some none
theorem NoAttr.taker {K : PySem.W.Frag} {C : Addr} {f : Str} (n : NoAttr K C f) : PySem.W.takerIn K C f = some none := by
  unfold PySem.W.takerIn
  rw [show PySem.W.findIn K (.ref C) f = some none from n]
  rfl
/-- a method: a plain def of the class or of one above it -/
structure Meth (K : PySem.W.Frag) (C : Addr) (m : Str) (f : Addr) : Prop where
  at_ : PySem.W.findIn K (.ref C) m = some (some (.ref f))
  fn : PySem.W.isFn K (.ref f) = true
  kp : PySem.W.keepIn K (.ref f) = true
section
variable {X : Cx} {pins : List (Addr × Obj)} {σ : St} {H : Hp} {s : Shared} {a C dx : Addr} {fs : List (Str × V)} {f : Str} {v : V} {A : Around} {E : Value → Shared → Prop}
theorem getattr_ok {b : Bool} {Q : Value → Shared → Prop} (I : Inv X pins σ H s) (e : H a = some (.ins C dx fs)) (c : Cls X.K C) (n : NoAttr X.K C f) (l : fs.lookup f = some v)
    (h : ∀ u s', Inv X pins σ H s' → RelV v u → Q u s') : wpAny (model X.prog X.w) A (getAttr (.ref a) f b) Q E s := by
  obtain ⟨mA, O, r, _, _, _⟩ := ins_get I.hok e
  obtain ⟨u, hu, ru⟩ := RelO.some_of (v := v) (o := mA f) (by rw [← l]; exact r f)
  exact get_map I.kIn O (c.get f) c.hd n hu (handed_of ru) (h u _ (I.tok _) ru)
theorem getmeth_ok {m : Str} {g : Addr} {pl : Sem Bool} {Q : Value × List Value → Shared → Prop} (I : Inv X pins σ H s) (e : H a = some (.ins C dx fs)) (c : Cls X.K C) (k : Meth X.K C m g) (l : fs.lookup m = none)
    (h : Q (.ref g, [.ref a]) s) : wpAny (model X.prog X.w) A (getMethod (.ref a) m pl) Q E s := by
  obtain ⟨mA, O, r, _, _, _⟩ := ins_get I.hok e
  have hn : mA m = none := RelO.none_of (by rw [← l]; exact r m)
  exact get_meth I.kIn O (c.get m) k.at_ k.fn hn h
theorem setattr_ok {y : V} {u : Value} {Q : Unit → Shared → Prop} (I : Inv X pins σ H s) (e : H a = some (.ins C dx fs)) (c : Cls X.K C) (n : NoAttr X.K C f) (hl : fs.length < 1000) (ry : RelV y u)
    (h : ∀ s', Inv X pins σ (upd H a (.ins C dx (putF f y fs))) s' → Q () s') : wpAny (model X.prog X.w) A (setAttr (.ref a) f u) Q E s := by
  obtain ⟨mA, O, r, wi, _, ho⟩ := ins_get I.hok e
  have hz : (fs.map (·.1)).length ≤ sizeLine := by rw [List.length_map, sizeLine_eq]; omega
  refine set_map I.kIn O c.sa c.po n.taker c.hd wi hz fun h' O' sb => h _ ?_
  have hd : ∃ o, h'.get? dx = some o := let ⟨o, _, _, e', _⟩ := O'.ns; ⟨o, e'⟩
  refine I.write (x := a) (e := dx) (by rw [e]; exact True.intro) (.inr ho) (fun b q hb z => (sb.2 b hb).trans z) hd ?_
  refine ⟨by rw [upd_ne O.ne]; exact ho, ?_, O.ne, O'.obj, _, O'.ns, fun g => ?_, fun g hg => ?_⟩
  · have := length_putF f y fs; omega
  · show RelO ((putF f y fs).lookup g) (if g = f then some u else mA g)
    rw [lookup_putF]
    by_cases q : g = f
    · rw [if_pos q, if_pos q]; exact ry
    · rw [if_neg q, if_neg q]; exact r g
  · by_cases q : g = f
    · rw [q]; exact (keys_putF f y fs).1
    · refine (keys_putF f y fs).2 g (wi g fun z => hg ?_)
      show (if g = f then some u else mA g) = none
      rw [if_neg q]; exact z
/-- a new instance, tracked, without attributes -/
theorem Inv.made (I : Inv X pins σ H s) : Inv X pins σ (upd (upd H s.heap.objs.size (.own (s.heap.objs.size + 1))) (s.heap.objs.size + 1) (.ins C s.heap.objs.size []))
    { s with heap := (s.heap.push PySem.W.emptyDict).push (PySem.W.instObj C s.heap.objs.size) } := by
  have e1 : (s.heap.push PySem.W.emptyDict).get? s.heap.objs.size = some PySem.W.emptyDict := Heap.get?_push_size s.heap rfl
  have e2 : ((s.heap.push PySem.W.emptyDict).push (PySem.W.instObj C s.heap.objs.size)).get? (s.heap.objs.size + 1) = some (PySem.W.instObj C s.heap.objs.size) := by
    have := Heap.get?_push_size (s.heap.push PySem.W.emptyDict) (o := PySem.W.instObj C s.heap.objs.size) rfl
    rwa [Heap.size_push] at this
  have e3 : (s.heap.push PySem.W.emptyDict).Ns s.heap.objs.size (fun _ => none) := ⟨PySem.W.emptyDict, #[], _, e1, rfl, (fun e he => absurd he (by simp)), fun _ => rfl⟩
  have I1 := I.laid (a := s.heap.objs.size) (o := .own (s.heap.objs.size + 1)) (h' := s.heap.push PySem.W.emptyDict) (t' := s.toks) (fun b u q => Heap.get?_push_of_some _ q) (Nat.le_refl _) ⟨_, e1⟩
  refine I1.laid (a := s.heap.objs.size + 1) (o := .ins C s.heap.objs.size []) (t' := s.toks) (fun b u q => Heap.get?_push_of_some _ q) (Nat.le_of_eq (Heap.size_push _ _)) ?_
  have ne : s.heap.objs.size ≠ s.heap.objs.size + 1 := Nat.ne_of_lt (Nat.lt_succ_self _)
  refine ⟨by rw [upd_ne ne, upd_same], Nat.zero_le _, ne, e2, fun _ => none, (Heap.Ns1.of_empty e3).at fun o q => Heap.get?_push_of_some _ q, fun _ => True.intro, fun y hy => absurd rfl hy⟩
/-- e.f where nothing but the object is asked: through attributeBase (super) and the last hold -/
theorem attr_of {prog : Program} {w : World} {env : Env} {e : Expr} {f : Str} {pos : Pos} {s : Shared} {Q : Value → Shared → Prop} (hb : attributeBase e f env (eval e env) = eval e env)
    (h : wpAny (model prog w) A (eval e env) (fun o s₁ => wpAny (model prog w) A (getAttr o f true) Q E s₁) E s) : wpAny (model prog w) A (eval (.Attribute e f pos) env) Q E s :=
  Attribute_any_ h (by rw [arm_eval_Attribute, hb])
end
/-! ### readings and rules -/
/-- e.f, an attribute of the instance -/
def tFld (K : PySem.W.Frag) (ta : TE) (f : Str) : TE := fun σ H Q => ta σ H fun x H1 => ∃ a C dx fs v, x = .ref a ∧ H1 a = some (.ins C dx fs) ∧ Cls K C ∧ NoAttr K C f ∧ fs.lookup f = some v ∧ Q v H1
/-- e.f = value -/
def sFld (K : PySem.W.Frag) (ta tv : TE) (f : Str) : TS := fun D σ H => tv σ H fun y H1 => ta σ H1 fun x H2 => ∃ a C dx fs, x = .ref a ∧ H2 a = some (.ins C dx fs) ∧ Cls K C ∧ NoAttr K C f ∧ fs.length < 1000 ∧
  D.nx σ (upd H2 a (.ins C dx (putF f y fs)))
section
variable {X : Cx} {o e value : Expr} {f : Str} {pos pos' tpos : Pos} {ta tv : TE}
theorem pe_fld (he : PE X e ta) (hb : attributeBase e f X.env (eval e X.env) = eval e X.env) : PE X (.Attribute e f pos) (tFld X.K ta f) := by
  intro pins s σ H Q I h
  refine attr_of hb (thn (he pins s σ H _ I h) fun u s1 ⟨x, H1, I1, rx, a, C, dx, fs, v, ex, ea, c, n, l, q⟩ => ?_)
  subst ex
  obtain rfl : u = Value.ref a := rx
  exact getattr_ok I1 ea c n l fun u' s2 I2 ru => ⟨v, H1, I2, ru, q⟩
theorem ps_fld (ha : PE X o ta) (hv : PE X value tv) (hs : swapsWith value (some (.Attribute o f pos')) pos.line X.env = pure false) : PS X (.Assign [.Attribute o f pos'] value pos) (sFld X.K ta tv f) := by
  intro pins s σ H D I h
  refine plainObj_wpAny_Assign_Attribute (thn (hv pins s σ H _ I h) fun u s1 ⟨y, H1, I1, ry, q⟩ => thn (ha pins s1 σ H1 _ I1 q) fun ov s2 ⟨x, H2, I2, rx, a, C, dx, fs, ex, ea, c, n, l, q2⟩ => ?_) hs
  subst ex
  obtain rfl : ov = Value.ref a := rx
  exact setattr_ok I2 ea c n l ry fun s3 I3 => ⟨σ, _, I3, q2⟩
end
/-! ### isinstance -/
end L2
namespace L2
open PySem PySem.Spec PyProof.Rows
/-! ### room -/
structure Room (k : Nat) (A : Around) : Prop where
  hd : A.handled = none
  dp : A.depth + 3 * k + 5 < recursionLimit
  un : A.units + 16 * k + 200 < cLine
theorem Room.mono {j k : Nat} {A : Around} (r : Room k A) (h : j ≤ k) : Room j A := ⟨r.hd, by have := r.dp; omega, by have := r.un; omega⟩
theorem Room.deeper {k : Nat} {A : Around} (r : Room (k + 1) A) (env : Env) : Room k (A.deeper env) :=
  ⟨r.hd, by have := r.dp; show A.depth + 1 + 3 * k + 5 < _; omega, by have := r.un; show A.units + 3 + 16 * k + 200 < _; omega⟩
theorem make_depth {A : Around} {C : Addr} {us : List Value} {kw : List (Str × Value)} : (A.under (.builtin "type.__call__" ⟨.ref C :: us, kw⟩)).depth = A.depth + 1 := by
  first | rfl | simp [Around.under, Code.weight, Code.isCreation, Code.isGuard, Code.isCaller, Code.frames, Code.isFrame, guardIds]
theorem make_units {A : Around} {C : Addr} {us : List Value} {kw : List (Str × Value)} : (A.under (.builtin "type.__call__" ⟨.ref C :: us, kw⟩)).units = A.units + 1 := by
  first | rfl | simp [Around.under, Code.cUnits, Code.frames, Code.isFrame]
theorem Room.make {k : Nat} {A : Around} (r : Room (k + 1) A) (C : Addr) (us : List Value) (kw : List (Str × Value)) : Room k (A.under (.builtin "type.__call__" ⟨.ref C :: us, kw⟩)) :=
  ⟨r.hd, by have := r.dp; rw [make_depth]; omega, by have := r.un; rw [make_units]; omega⟩
theorem Room.depth {k : Nat} {A : Around} (r : Room k A) : A.depth < recursionLimit := by have := r.dp; omega
/-! ### argument lists and displays -/
def tNil : TA := fun _ H Q => Q [] H
def tCons (ta : TE) (tr : TA) : TA := fun σ H Q => ta σ H fun x H1 => tr σ H1 fun xs H2 => Q (x :: xs) H2
section
variable {X : Cx} {e : Expr} {es : List Expr} {te : TE} {t : TA} {pos : Pos}
theorem pa_nil : PA X [] tNil := fun _ _ _ _ H Q I h => Calls.spliced_nil ⟨[], H, I, .nil, h⟩
theorem pa_cons (ha : PE X e te) (hr : PA X es t) (hs : starEach (e :: es) X.env = (false, eval e X.env) :: starEach es X.env := by rfl) : PA X (e :: es) (tCons te t) := by
  intro pos pins s σ H Q I h
  rw [hs]
  show wpAny _ _ (spliced ((false, eval e X.env) :: backTo pos (starEach es X.env))) _ _ s
  refine Calls.spliced_cons (thn (ha pins s σ H _ I h) fun u s1 ⟨x, H1, I1, r1, q1⟩ => ?_)
  exact thn (hr pos pins s1 σ H1 _ I1 q1) fun us s2 ⟨xs, H2, I2, r2, q2⟩ => ⟨x :: xs, H2, I2, .cons r1 r2, q2⟩
/-- a tuple, a list of written items -/
def tTup (t : TA) : TE := fun σ H Q => t σ H fun xs H1 => xs.length ≤ sizeLine ∧ ∀ p, H1 p = none → Q (.ref p) (upd H1 p (.tup xs))
def tLst (t : TA) : TE := fun σ H Q => t σ H fun xs H1 => xs.length ≤ sizeLine ∧ ∀ p, H1 p = none → Q (.ref p) (upd H1 p (.lst xs))
theorem pe_tup {x1} (h : PA X es t) : PE X (.Tuple es x1 pos) (tTup t) := by
  intro pins s σ H Q I hq
  refine wpAny_Tuple_spliced (thn (h pos pins s σ H _ I hq) fun us s1 ⟨xs, H1, I1, r, z, q⟩ => ⟨by rw [← r.length]; exact z, ?_⟩)
  have hf : H1 s1.heap.objs.size = none := I1.hok.fresh (Nat.le_refl _)
  refine ⟨.ref s1.heap.objs.size, upd H1 s1.heap.objs.size (.tup xs), I1.laid (t' := s1.toks) (fun b u e => Heap.get?_push_of_some _ e) (Nat.le_refl _) ?_, rfl, q _ hf⟩
  exact ⟨z, us, r, ⟨_, Heap.get?_push_size _ rfl, rfl, _, rfl⟩⟩
theorem pe_lst (h : PA X es t) : PE X (.List es pos) (tLst t) := by
  intro pins s σ H Q I hq
  refine wpAny_List_spliced (thn (h pos pins s σ H _ I hq) fun us s1 ⟨xs, H1, I1, r, z, q⟩ => ⟨by rw [← r.length]; exact z, ?_⟩)
  have hf : H1 s1.heap.objs.size = none := I1.hok.fresh (Nat.le_refl _)
  refine ⟨.ref s1.heap.objs.size, upd H1 s1.heap.objs.size (.lst xs), I1.laid (t' := s1.toks) (fun b u e => Heap.get?_push_of_some _ e) (Nat.le_refl _) ?_, rfl, q _ hf⟩
  exact ⟨z, us, 0, r, Heap.get?_push_size _ rfl⟩
end
/-! ### what a def promises -/
/-- a def's promise: the bound arguments in the parameters' order, the heap, the wanted end, the wanted exception -/
abbrev Sp := List V → Hp → VK → XK → Prop
/-- how an exception lies behind a call (file 08 gives it): the callers' frames, abstract heap and state ahead of the call, the wish, the exception, the state -/
abbrev CXT := List Env → Hp → Shared → XK → Value → Shared → Prop
/-- the state at a call -/
structure Env0 (P : Program) (w : World) (K : PySem.W.Frag) (mg : Str → Option Value) (base : Heap) (A : Around) (outer : List Env) (s : Shared) (H : Hp) : Prop where
  frames : A.frames = some outer
  mod : Mod K mg base
  bs : ∀ b o, base.get? b = some o → s.heap.get? b = some o ∧ H b = none
  bsz : base.objs.size ≤ s.heap.objs.size
  funs : s.heap.FunFrames base outer
  frf : ∀ b ∈ frs outer, H b = none
  hok : HOk P w H s.heap
  bare : AllBare s.gens
/-- a call's end -/
def CE (outer : List Env) (P : Program) (w : World) (H : Hp) (s : Shared) (Q : VK) (u : Value) (s' : Shared) : Prop :=
  ∃ v H', s'.os = s.os ∧ AllBare s'.gens ∧ Un (frs outer) [] H H' s.heap s'.heap ∧ HOk P w H' s'.heap ∧ RelV v u ∧ Q v H'
def CR (CX : CXT) (outer : List Env) (P : Program) (w : World) (H : Hp) (s : Shared) (Q : VK) (E : XK) (r : Result) (s' : Shared) : Prop :=
  match r with
  | .ok (.ret u) => CE outer P w H s Q u s'
  | .ok _ => False
  | .error e => CX outer H s E e s'
structure FnOk (P : Program) (w : World) (K : PySem.W.Frag) (mg : Str → Option Value) (base : Heap) (CX : CXT) (k : Nat) (f : Addr) (fd : FuncData) (ps : List Str) (sp : Sp) : Prop where
  len : ∀ vs H Q E, sp vs H Q E → vs.length = ps.length
  run : ∀ (A : Around) (outer : List Env) (s : Shared) (H : Hp) (args : Args) (us : List Value) (vs : List V) (Q : VK) (E : XK), Room k A → Env0 P w K mg base A outer s H → BindsTo s fd args (ps.zip us) → Vals vs us → sp vs H Q E →
    codeAny (model P w) A (.call (.ref f) args) (CR CX outer P w H s Q E) s
theorem FnOk.mono {P : Program} {w : World} {K : PySem.W.Frag} {mg : Str → Option Value} {base : Heap} {CX : CXT} {j k : Nat} {f : Addr} {fd : FuncData} {ps : List Str} {sp : Sp} (F : FnOk P w K mg base CX j f fd ps sp) (h : j ≤ k) :
    FnOk P w K mg base CX k f fd ps sp := ⟨F.len, fun A outer s H args us vs Q E hr => F.run A outer s H args us vs Q E (hr.mono h)⟩
theorem Env0.make {P : Program} {w : World} {K : PySem.W.Frag} {mg : Str → Option Value} {base : Heap} {A : Around} {outer : List Env} {s : Shared} {H : Hp} (e : Env0 P w K mg base A outer s H) (C : Addr) (us : List Value) (kw : List (Str × Value)) :
    Env0 P w K mg base (A.under (.builtin "type.__call__" ⟨.ref C :: us, kw⟩)) outer s H := ⟨by first | exact e.frames | (simpa [Around.under, Code.envs, Code.isFrame, pushEnvs] using e.frames), e.mod, e.bs, e.bsz, e.funs, e.frf, e.hok, e.bare⟩
section
variable {X : Cx} {pins : List (Addr × Obj)} {σ : St} {H : Hp} {s s' : Shared}
/-- from a body: what a callee wants -/
theorem Inv.env0 (I : Inv X pins σ H s) : Env0 X.prog X.w X.K X.mg X.base X.A X.stack s H :=
  ⟨I.ok.frames, I.ok.mod, I.bs, Nat.le_trans I.ok.bsz I.sz, I.stack, I.stkFree, I.hok, I.bare⟩
/-- behind a call -/
theorem Inv.after {Q : VK} {u : Value} (I : Inv X pins σ H s) (h : CE X.stack X.prog X.w H s Q u s') : EP X pins σ Q u s' := by
  obtain ⟨v, H', os, bare, un, hok, r, q⟩ := h
  obtain ⟨hh, g, d, t, os'⟩ := s'
  obtain rfl : os' = s.os := os
  exact ⟨v, H', I.call (h' := hh) (g' := g) (d' := d) (t' := t) (ch := []) un hok bare (fun b z => absurd z (by simp)), r, q⟩
end
/-! ### calls -/
/-- f(..): the written arguments, then the defaults dvs; E: what is wanted of an exception -/
def tCall (sp : Sp) (dvs : List V) (E : XK) (t : TA) : TE := fun σ H Q => t σ H fun vs H1 => sp (vs ++ dvs) H1 Q E
/-- o.m(..) of an instance of the class at C -/
def tMeth (C : Addr) (m : Str) (sp : Sp) (dvs : List V) (E : XK) (ta : TE) (t : TA) : TE := fun σ H Q => ta σ H fun x H1 => ∃ a dx fs, x = .ref a ∧ H1 a = some (.ins C dx fs) ∧ fs.lookup m = none ∧
  t σ H1 fun vs H2 => sp (x :: (vs ++ dvs)) H2 Q E
/-- C(..): a new instance and its dict, then __init__ -/
def tMake (C : Addr) (sp : Sp) (dvs : List V) (E : XK) (t : TA) : TE := fun σ H Q => t σ H fun vs H1 => ∀ x dx, H1 x = none → H1 dx = none → dx ≠ x →
  sp (.ref x :: (vs ++ dvs)) (upd (upd H1 dx (.own x)) x (.ins C dx [])) (fun v H2 => v = .non ∧ Q (.ref x) H2) E
/-- how the parameters are bound: us the positional arguments, kw the keywords' values by name, ds the defaults that fill up -/
def Binds (K : PySem.W.Frag) (fd : FuncData) (ps : List Str) (ds : List Value) : Prop :=
  ∀ (s : Shared) (us : List Value), K.In s.heap → (us ++ ds).length = ps.length → BindsTo s fd ⟨us, []⟩ (ps.zip (us ++ ds))
/-- every parameter is given -/
theorem Binds.all {K : PySem.W.Frag} {fd : FuncData} {ps : List Str} (h : ∀ us : List Value, us.length = ps.length → bindArgs fd ⟨us, []⟩ = pure (ps.zip us)) : Binds K fd ps [] := fun s us _ hl => by
  rw [List.append_nil] at hl ⊢
  exact .of_eq (h us hl)
/-- an exception of a callee reaches what this body wants of exceptions -/
def Passes (CX : CXT) (X : Cx) (E : XK) : Prop := ∀ (pins : List (Addr × Obj)) (σ : St) (H : Hp) (s : Shared) (e : Value) (s' : Shared), Inv X pins σ H s → CX X.stack H s E e s' → X.xe e s'
section
variable {X : Cx} {CX : CXT} {k : Nat} {f C : Addr} {fd : FuncData} {ps : List Str} {sp : Sp} {dvs : List V} {ds : List Value} {E : XK} {x m : Str} {p pos apos : Pos} {e o : Expr} {es : List Expr} {ta : TE} {t : TA}
/-- the callee runs -/
theorem run_fn {pins : List (Addr × Obj)} {σ : St} {H : Hp} {s : Shared} {Q : VK} {us : List Value} {vs : List V} (F : FnOk X.prog X.w X.K X.mg X.base CX k f fd ps sp) (hr : Room k X.A) (hb : Binds X.K fd ps ds) (hd : Vals dvs ds) (hx : Passes CX X E)
    (I : Inv X pins σ H s) (r : Vals vs us) (h : sp (vs ++ dvs) H Q E) : wpAny (model X.prog X.w) X.A (call (.ref f) us) (EP X pins σ Q) X.xe s := by
  have r2 : Vals (vs ++ dvs) (us ++ ds) := r.append hd
  have hl : (us ++ ds).length = ps.length := by rw [← r2.length]; exact F.len _ _ _ _ h
  refine wpAny_call (codeAny_mono (F.run X.A X.stack s H ⟨us, []⟩ (us ++ ds) (vs ++ dvs) Q E hr I.env0 (hb s us I.kIn hl) r2 h) fun r s' hq => ?_)
  cases r with
  | error e => exact hx pins σ H s e s' I hq
  | ok fl =>
    cases fl with
    | ret u => exact I.after hq
    | next => exact False.elim hq
    | brk => exact False.elim hq
    | cont => exact False.elim hq
theorem pe_call (F : FnOk X.prog X.w X.K X.mg X.base CX k f fd ps sp) (hr : Room k X.A) (hg : Gl X x) (hm : X.mg x = some (.ref f)) (hk : PySem.W.keepIn X.K (.ref f) = true) (hb : Binds X.K fd ps ds) (hd : Vals dvs ds) (hx : Passes CX X E)
    (ha : PA X (e :: es) t) (hdb : (x == ("__debug__" : Str)) = false := by decide) (he : starEach (e :: es) X.env = (false, eval e X.env) :: starEach es X.env := by rfl) (hpl : (backTo pos (starEach es X.env)).any (·.1) = false := by rfl) :
    PE X (.Call (.Name x p) (e :: es) [] pos) (tCall sp dvs E t) := by
  intro pins s σ H Q I h
  refine wpAny_Call_Name_kw (ld_glob I hg hm ?_ hdb)
  refine PySem.W.callWith_K (h₀ := X.base) I.ok.mod.kin hk (thn (ha pos pins s σ H _ I h) fun us s1 ⟨vs, H1, I1, r, q⟩ => ⟨I1.kIn, ?_⟩) he hpl
  exact run_fn F hr hb hd hx I1 r q
/-- o.m(e, ..) -/
theorem pe_meth {pl : Sem Bool} (he : PE X o ta) (c : Cls X.K C) (hm : Meth X.K C m f) (F : FnOk X.prog X.w X.K X.mg X.base CX k f fd ps sp) (hr : Room k X.A) (hb : Binds X.K fd ps ds) (hd : Vals dvs ds) (hx : Passes CX X E) (ha : PA X (e :: es) t)
    (hst : starEach (e :: es) X.env = (false, eval e X.env) :: starEach es X.env := by rfl) (hpl : (backTo pos (starEach es X.env)).any (·.1) = false := by rfl)
    (ht : eval (.Call (.Attribute o m apos) (e :: es) [] pos) X.env = (do
      let ov ← eval o X.env
      standAt apos.atName
      let (f, first) ← holding [ov] (getMethod ov m pl)
      callWith pos f first (backTo pos (starEach (e :: es) X.env)) (backToKw pos (keywordEach [] X.env))) := by rfl) :
    PE X (.Call (.Attribute o m apos) (e :: es) [] pos) (tMeth C m sp dvs E ta t) := by
  intro pins s σ H Q I h
  refine PySem.W.methodCall_KW (pl := pl) (thn (he pins s σ H _ I h) fun u s1 ⟨x, H1, I1, rx, a, dx, fs, ex, ea, l, q⟩ => ?_) ht
  subst ex
  obtain rfl : u = Value.ref a := rx
  refine getmeth_ok I1 ea c hm l ?_
  refine PySem.W.callWith_K (first := [.ref a]) (h₀ := X.base) I.ok.mod.kin hm.kp (thn (ha pos pins s1 σ H1 _ I1 q) fun us s2 ⟨vs, H2, I2, r, q2⟩ => ⟨I2.kIn, ?_⟩) hst hpl
  exact run_fn (us := .ref a :: us) (vs := .ref a :: vs) F hr hb hd hx I2 (.cons rfl r) q2
/-- o.m() -/
theorem pe_meth0 {pl : Sem Bool} (he : PE X o ta) (c : Cls X.K C) (hm : Meth X.K C m f) (F : FnOk X.prog X.w X.K X.mg X.base CX k f fd ps sp) (hr : Room k X.A) (hb : Binds X.K fd ps ds) (hd : Vals dvs ds) (hx : Passes CX X E)
    (ht : eval (.Call (.Attribute o m apos) [] [] pos) X.env = (do
      let ov ← eval o X.env
      standAt apos.atName
      let (f, first) ← holding [ov] (getMethod ov m pl)
      callWith pos f first (backTo pos (starEach [] X.env)) (backToKw pos (keywordEach [] X.env))) := by rfl) :
    PE X (.Call (.Attribute o m apos) [] [] pos) (tMeth C m sp dvs E ta tNil) := by
  intro pins s σ H Q I h
  refine PySem.W.methodCall_KW (pl := pl) (thn (he pins s σ H _ I h) fun u s1 ⟨x, H1, I1, rx, a, dx, fs, ex, ea, l, q⟩ => ?_) ht
  subst ex
  obtain rfl : u = Value.ref a := rx
  refine getmeth_ok I1 ea c hm l ?_
  exact PySem.W.callWith_K0 (first := [.ref a]) I1.kIn hm.kp (run_fn (us := [.ref a]) (vs := [.ref a]) F hr hb hd hx I1 (.cons rfl .nil) q)
/-- what a class must have to be made -/
structure Mk (K : PySem.W.Frag) (C f : Addr) : Prop where
  makes : PySem.W.makesIn K C = true
  init : PySem.W.findIn K (.ref C) "__init__" = some (some (.ref f))
  fn : PySem.W.isFn K (.ref f) = true
  kp : PySem.W.keepIn K (.ref C) = true
theorem run_make {pins : List (Addr × Obj)} {σ : St} {H : Hp} {s : Shared} {Q : VK} {us : List Value} {vs : List V} (M : Mk X.K C f) (F : FnOk X.prog X.w X.K X.mg X.base CX k f fd ps sp) (hr : Room (k + 1) X.A) (hb : Binds X.K fd ps ds) (hd : Vals dvs ds)
    (hx : Passes CX X E) (I : Inv X pins σ H s) (r : Vals vs us)
    (h : ∀ x dx, H x = none → H dx = none → dx ≠ x → sp (.ref x :: (vs ++ dvs)) (upd (upd H dx (.own x)) x (.ins C dx [])) (fun v H2 => v = .non ∧ Q (.ref x) H2) E) :
    wpAny (model X.prog X.w) X.A (call (.ref C) us) (EP X pins σ Q) X.xe s := by
  have hq := h (s.heap.objs.size + 1) s.heap.objs.size (I.hok.fresh (Nat.le_succ _)) (I.hok.fresh (Nat.le_refl _)) (Nat.ne_of_lt (Nat.lt_succ_self _))
  have I2 := Inv.made (C := C) I
  have r2 : Vals (V.ref (s.heap.objs.size + 1) :: (vs ++ dvs)) (Value.ref (s.heap.objs.size + 1) :: (us ++ ds)) := .cons rfl (r.append hd)
  have hl : (Value.ref (s.heap.objs.size + 1) :: us ++ ds).length = ps.length := by
    have e := r2.length
    rw [F.len _ _ _ _ hq] at e
    exact e.symm
  refine wpAny_call (make_map (f := f) I.kIn M.makes M.init (beq_iff_eq.mp M.fn) (codeAny_mono (F.run _ X.stack _ _ ⟨Value.ref (s.heap.objs.size + 1) :: us, []⟩ (Value.ref (s.heap.objs.size + 1) :: (us ++ ds)) _ _ E (hr.make C us [])
    (I2.env0.make C us []) (hb _ (Value.ref (s.heap.objs.size + 1) :: us) I2.kIn hl) r2 hq) fun r s' hq' => ?_))
  cases r with
  | error e => exact hx pins σ _ _ e s' I2 hq'
  | ok fl =>
    cases fl with
    | ret u =>
      obtain ⟨v, H', I3, rv, ev, q3⟩ := I2.after hq'
      subst ev
      exact ⟨rv, ⟨V.ref (s.heap.objs.size + 1), H', I3, rfl, q3⟩⟩
    | next => exact False.elim hq'
    | brk => exact False.elim hq'
    | cont => exact False.elim hq'
theorem pe_make0 (M : Mk X.K C f) (F : FnOk X.prog X.w X.K X.mg X.base CX k f fd ps sp) (hr : Room (k + 1) X.A) (hg : Gl X x) (hm : X.mg x = some (.ref C)) (hb : Binds X.K fd ps ds) (hd : Vals dvs ds) (hx : Passes CX X E)
    (hdb : (x == ("__debug__" : Str)) = false := by decide) : PE X (.Call (.Name x p) [] [] pos) (tMake C sp dvs E tNil) := by
  intro pins s σ H Q I h
  refine wpAny_Call_Name_kw (ld_glob I hg hm ?_ hdb)
  exact PySem.W.callWith_K0 I.kIn M.kp (run_make (us := []) M F hr hb hd hx I .nil h)
end
/-! ### keywords -/
/-! ### a def's body keeps its promise -/
/-- names: the parameters first -/
structure FnScope (N P : List Str) (sc : Scope) : Prop where
  kind : sc.kind = .function
  co : sc.isCoroutine = false
  gen : sc.isGenerator = false
  nd : N.Nodup
  pre : N.take P.length = P
  par : ∀ x ∈ P, sc.names.lookup x = some .local ∨ sc.names.lookup x = some .cell
  nofree : ∀ y ∈ sc.names, y.2 ≠ .free
theorem bindL_out {kindOf : Str → Option NameKind} {x : Str} : ∀ {binds : List (Str × Value)} {m : Str → Option Value}, (∀ v, (x, v) ∉ binds) → bindL kindOf binds m x = m x
  | [], _, _ => rfl
  | (n, v) :: r, m, h => by
    unfold bindL
    rw [bindL_out fun w hw => h w (List.mem_cons_of_mem _ hw)]
    split
    · have : x ≠ n := by rintro rfl; exact h v List.mem_cons_self
      simp [this]
    · rfl
theorem bindC_out {kindOf : Str → Option NameKind} {x : Str} : ∀ {binds : List (Str × Value)} {m : Str → Option Value}, (∀ v, (x, v) ∉ binds) → bindC kindOf binds m x = m x
  | [], _, _ => rfl
  | (n, v) :: r, m, h => by
    unfold bindC
    rw [bindC_out fun w hw => h w (List.mem_cons_of_mem _ hw)]
    split
    · rfl
    · have : x ≠ n := by rintro rfl; exact h v List.mem_cons_self
      simp [this]
theorem bindL_get {kindOf : Str → Option NameKind} {x : Str} {v : Value} : ∀ {P : List Str} {vs : List Value} {i : Nat} {m : Str → Option Value}, P.Nodup → P[i]? = some x → vs[i]? = some v → kindOf x = some .local →
    bindL kindOf (P.zip vs) m x = some v
  | [], _, _, _, _, h, _, _ => by simp at h
  | _ :: _, [], _, _, _, _, h, _ => by simp at h
  | p :: P, w :: vs, 0, m, nd, h1, h2, hk => by
    simp at h1 h2; subst h1; subst h2
    show bindL kindOf ((p, w) :: P.zip vs) m p = _
    unfold bindL
    rw [bindL_out fun v hv => (List.nodup_cons.mp nd).1 (List.of_mem_zip hv).1, if_pos hk]
    simp
  | p :: P, w :: vs, i + 1, m, nd, h1, h2, hk => by
    show bindL kindOf ((p, w) :: P.zip vs) m x = _
    unfold bindL
    exact bindL_get (i := i) (List.nodup_cons.mp nd).2 (by simpa using h1) (by simpa using h2) hk
theorem bindC_get {kindOf : Str → Option NameKind} {x : Str} {v : Value} : ∀ {P : List Str} {vs : List Value} {i : Nat} {m : Str → Option Value}, P.Nodup → P[i]? = some x → vs[i]? = some v → kindOf x ≠ some .local →
    bindC kindOf (P.zip vs) m x = some v
  | [], _, _, _, _, h, _, _ => by simp at h
  | _ :: _, [], _, _, _, _, h, _ => by simp at h
  | p :: P, w :: vs, 0, m, nd, h1, h2, hk => by
    simp at h1 h2; subst h1; subst h2
    show bindC kindOf ((p, w) :: P.zip vs) m p = _
    unfold bindC
    rw [bindC_out fun v hv => (List.nodup_cons.mp nd).1 (List.of_mem_zip hv).1, if_neg hk]
    simp
  | p :: P, w :: vs, i + 1, m, nd, h1, h2, hk => by
    show bindC kindOf ((p, w) :: P.zip vs) m x = _
    unfold bindC
    exact bindC_get (i := i) (List.nodup_cons.mp nd).2 (by simpa using h1) (by simpa using h2) hk
/-- the names' values at the entry -/
def start (N : List Str) (vs : List V) : St := vs.map some ++ List.replicate (N.length - vs.length) none
/-- the context of a def's body, at its entry; an exception leaves the frame, then lies as CX says -/
def cxOf (CX : CXT) (P : Program) (w : World) (K : PySem.W.Frag) (mg : Str → Option Value) (base : Heap) (N : List Str) (qual : Str) (scope : Scope) (f : Addr) (cd : Value) (A : Around) (outer : List Env) (s : Shared) (H : Hp) (E : XK) : Cx where
  prog := P
  w := w
  K := K
  mg := mg
  base := base
  A := A.deeper (envOfC qual scope s.heap.objs.size f cd)
  N := N
  s₀ := s
  H₀ := H
  env := envOfC qual scope s.heap.objs.size f cd
  outer := outer
  stack := envOfC qual scope s.heap.objs.size f cd :: outer
  ex := []
  calm := true
  fn := fun _ => true
  pn := []
  xe := fun e s' => wpAny (model P w) (A.deeper (envOfC qual scope s.heap.objs.size f cd)) (leaving (envOfC qual scope s.heap.objs.size f cd) e) (fun _ s'' => CX outer H s E e s'') (fun e' s'' => CX outer H s E e' s'') s'
theorem cell_has {sc : Scope} {n : Nat} {x : Str} (h : sc.names.lookup x = some .cell) : ∃ c, (cellsFrom n sc.names []).lookup x = some c := by
  have q := PySem.W.cellsFrom_some sc.names n [] (.inl h)
  exact Option.isSome_iff_exists.mp q
theorem inv_start {CX : CXT} {P : Program} {w : World} {K : PySem.W.Frag} {mg : Str → Option Value} {base : Heap} {N ps : List Str} {qual : Str} {scope : Scope} {f : Addr} {cd : Value} {A : Around} {outer : List Env} {s s1 : Shared} {H : Hp} {E : XK} {us : List Value} {vs : List V}
    (S : FnScope N ps scope) (hd : A.handled = none) (e0 : Env0 P w K mg base A outer s H) (hl : vs.length = ps.length) (r : Vals vs us)
    (x : InCallC s s.heap.objs.size (bindL (envOfC qual scope s.heap.objs.size f cd).kindOf (ps.zip us) fun _ => none) (cellsFrom (s.heap.objs.size + 1) scope.names []) (bindC (envOfC qual scope s.heap.objs.size f cd).kindOf (ps.zip us) fun _ => none) s1) :
    Inv (cxOf CX P w K mg base N qual scope f cd A outer s H E) [] (start N vs) H s1 := by
  have hpl : ps.length ≤ N.length := by have := congrArg List.length S.pre; rw [List.length_take] at this; omega
  obtain ⟨h1, tk, rfl, hk⟩ := x.done
  have noA : ∀ b : Addr, b ∉ (cxOf CX P w K mg base N qual scope f cd A outer s H E).ex := fun b z => absurd (show b ∈ ([] : List Addr) from z) (by simp)
  refine ⟨⟨e0.mod, S.kind, rfl, rfl, Nat.le_refl _, fun y z c h1 h2 => ?_, fun y hy => ?_, fun y c _ h => ?_, fun _ => hd, Around.frames_deeper e0.frames, .inr ⟨rfl, rfl⟩, fun b z => absurd z (noA b), e0.bs, e0.bsz, fun b _ _ => noA b, fun b z => absurd z (noA b), e0.funs, e0.frf⟩,
    rfl, e0.bare, Un.kept hk, ⟨_, x.toInCall.ns, fun i y v h1 h2 h3 => ?_⟩, fun y c h => ⟨_, x.cell y c h⟩, e0.hok.fresh (Nat.le_refl _), fun y c h => ?_, fun p hp => absurd (show p ∈ ([] : List (Addr × Obj)) from hp) (by simp), e0.hok.kept hk, ?_⟩
  · exact name_of_addr x.apart (PySem.mem_of_lookup h1) (PySem.mem_of_lookup h2)
  · have hy : scope.names.lookup y = some .cell ∨ scope.names.lookup y = some .free := hy
    rcases hy with hy | hy
    · exact cell_has hy
    · exact absurd rfl (S.nofree _ (PySem.mem_of_lookup hy))
  · exact Nat.le_of_lt (x.above y c (PySem.mem_of_lookup h))
  · have hi : i < vs.length := by
      unfold start at h2
      by_cases hi : i < vs.length
      · exact hi
      · rw [List.getElem?_append_right (by simpa using hi)] at h2
        rw [List.getElem?_replicate] at h2
        split at h2 <;> cases h2
    have ha : vs[i]? = some v := by
      unfold start at h2
      rw [List.getElem?_append_left (by simpa using hi), List.getElem?_map] at h2
      cases e : vs[i]? with
      | none => rw [e] at h2; cases h2
      | some a => rw [e] at h2; cases h2; rfl
    obtain ⟨u, hu, rv⟩ := r.get ha
    have hp : ps[i]? = some y := by
      rw [← S.pre, List.getElem?_take_of_lt (by omega)]; exact h1
    have ndP : ps.Nodup := by rw [← S.pre]; exact S.nd.sublist (List.take_sublist _ _)
    refine ⟨u, rv, ?_⟩
    rcases S.par y (List.mem_of_getElem? hp) with k | k
    · exact .inl ⟨k, bindL_get ndP hp hu k⟩
    · obtain ⟨c, e⟩ := cell_has (n := s.heap.objs.size + 1) k
      refine .inr ⟨.inl k, c, e, ?_⟩
      have q := x.cell y c e
      rw [bindC_get ndP hp hu (by show scope.names.lookup y ≠ _; rw [k]; decide)] at q
      exact q
  · exact e0.hok.fresh (Nat.le_of_lt (x.above y c (PySem.mem_of_lookup h)))
  · unfold start
    show _ = N.length
    rw [List.length_append, List.length_map, List.length_replicate]
    omega
/-- THE RULE: a def (or a method) of the text, by its body. The body's reading t is chosen for each entry; it is run at the parameters' values -/
theorem fn_of {CX : CXT} {P : Program} {w : World} {K : PySem.W.Frag} {mg : Str → Option Value} {base : Heap} {k : Nat} {f : Addr} {name qual : Str} {params : Arguments} {body : List Stmt} {scope : Scope} {dV kV doc pm cdv ct oc : Value} {an od : Option Addr}
    {osl : Array (Option Value)} {N ps : List Str} {sp : Sp} (lk : K.lookup f = some ⟨oc, od, .func (PySem.W.fnOf name qual params body scope dV kV doc pm an cdv ct), osl⟩) (hcd : PySem.W.codeIn K cdv qual = true) (S : FnScope N ps scope)
    (len : ∀ vs H Q E, sp vs H Q E → vs.length = ps.length)
    (hbody : ∀ (A : Around) (outer : List Env) (s : Shared) (H : Hp) (vs : List V) (Q : VK) (E : XK), Room k (A.deeper (envOfC qual scope s.heap.objs.size f cdv)) → sp vs H Q E →
      ∃ t, PSs (cxOf CX P w K mg base N qual scope f cdv A outer s H E) body t ∧ t { nx := fun _ H' => Q .non H', rt := Q } (start N vs) H) :
    FnOk P w K mg base CX (k + 1) f (PySem.W.fnOf name qual params body scope dV kV doc pm an cdv ct) ps sp := by
  refine ⟨len, fun A outer s H args us vs Q E hr e0 hb r hsp => ?_⟩
  have hl := len _ _ _ _ hsp
  have KX : K.In s.heap := e0.mod.kin.keeps fun b o e => (e0.bs b o e).1
  have lim : s.heap.NoLimit := e0.mod.nolimit.keeps fun b o e => (e0.bs b o e).1
  have hkind : ∀ y ∈ ps.zip us, scope.names.lookup y.1 = some .local ∨ (scope.names.lookup y.1 = some .cell ∧ ((cellsFrom (s.heap.objs.size + 1) scope.names []).lookup y.1).isSome = true) := fun ⟨n, v⟩ hy => by
    rcases S.par n (List.of_mem_zip hy).1 with q | q
    · exact .inl q
    · exact .inr ⟨q, PySem.W.cellsFrom_some _ _ _ (.inl q)⟩
  refine codeAny_call_function hr.depth (KX _ _ lk) rfl S.co S.gen rfl (PySem.W.codeRec_of KX hcd) (hb _ _ _ _ ?_)
  refine wpAny_newFunctionEnv_cells S.kind hkind fun env he s1 x => ?_
  subst he
  refine ⟨lim.keeps x.toInCall.keep, codeAny_func ?_⟩
  obtain ⟨t, ht, hq⟩ := hbody A outer s H vs Q E (hr.deeper _) hsp
  have I : Inv (cxOf CX P w K mg base N qual scope f cdv A outer s H E) [] (start N vs) H s1 := inv_start S hr.hd e0 hl r x
  refine wpAny_mono (ht [] s1 (start N vs) H _ I hq) (fun fl s' hs => ?_) fun e s' hs => hs
  have fin : ∀ {σ' : St} {H' : Hp} {v : V} {u : Value}, Inv (cxOf CX P w K mg base N qual scope f cdv A outer s H E) [] σ' H' s' → RelV v u → Q v H' → CE outer P w H s Q u s' :=
    fun {σ' H' v u} J rv q => ⟨v, H', J.os, J.bare, J.base, J.hok, rv, q⟩
  cases fl with
  | ret u =>
    obtain ⟨v, σ', H', J, rv, q⟩ := hs
    exact fin J rv q
  | next =>
    obtain ⟨σ', H', J, q⟩ := hs
    exact fin (v := V.non) (u := Value.none) J rfl q
  | brk =>
    obtain ⟨_, _, _, q⟩ := hs
    exact False.elim q
  | cont =>
    obtain ⟨_, _, _, q⟩ := hs
    exact False.elim q
end L2
namespace L2
open PySem PySem.Spec PyProof.Rows
section
variable {X : Cx} {x : Str} {p pos : Pos} {e : Expr} {es : List Expr} {t : TA} {id T : String} {r : List V → Hp → VK → Prop}
def tCB (r : List V → Hp → VK → Prop) (t : TA) : TE := fun σ H Q => t σ H fun vs H1 => r vs H1 Q
/-- f(e, ..), f a built-in function -/
theorem pe_callB (hc : CallR X (.builtin id) r) (hg : Gl X x) (hm : X.mg x = none) (hv : bootBuiltins x = some (.builtin id)) (ha : PA X (e :: es) t) (hn : x ≠ "__name__" := by decide) (hdb : (x == ("__debug__" : Str)) = false := by decide)
    (he : starEach (e :: es) X.env = (false, eval e X.env) :: starEach es X.env := by rfl) (hpl : (backTo pos (starEach es X.env)).any (·.1) = false := by rfl) : PE X (.Call (.Name x p) (e :: es) [] pos) (tCB r t) := by
  intro pins s σ H Q I h
  refine wpAny_Call_Name_kw (ld_blt I hg hm hv ?_ hn hdb)
  exact PyProof.Rows.callWith_builtin1 (thn (ha pos pins s σ H _ I h) fun us s1 ⟨vs, H1, I1, r1, q1⟩ => hc pins s1 σ H1 vs us Q I1 r1 q1) he hpl
end
end L2
namespace HT
open PySem PyProof.Rows
section
variable {prog : Program} {w : World} {A : Around} {E : Value → Shared → Prop} {s : Shared}
/-! ### t[a:b], not the whole -/
/-- a slice's bound as a place among n (d where it is left out) -/
def sIx (n d : Nat) : Option Int → Nat
  | none => d
  | some v => if v < 0 then (v + (n : Int)).toNat else min v.toNat n
theorem sIx_none (n d : Nat) : sIx n d none = d := rfl
theorem sIx_nat (n d k : Nat) : sIx n d (some (k : Int)) = min k n := by
  show (if (k : Int) < 0 then ((k : Int) + (n : Int)).toNat else min (k : Int).toNat n) = min k n
  rw [if_neg (by omega), Int.toNat_natCast]
end
end HT
namespace L2
open PySem PySem.Spec PyProof.Rows
/-! ### the parts of a slice -/
abbrev TO := St → Hp → (Option Int → Hp → Prop) → Prop
/-- a slice's part (left out, or an int) -/
def PO (X : Cx) (e : Option Expr) (t : TO) : Prop :=
  ∀ (pins : List (Addr × Obj)) (s : Shared) (σ : St) (H : Hp) (Q : Option Int → Hp → Prop), Inv X pins σ H s → t σ H Q →
    wpAny (model X.prog X.w) X.A (evalPart e X.env) (fun u s' => ∃ o H', Inv X pins σ H' s' ∧ IsPart u o ∧ Q o H') X.xe s
def tNoPart : TO := fun _ H Q => Q none H
def tPart (t : TE) : TO := fun σ H Q => t σ H fun x H1 => ∃ i, x = .int i ∧ Q (some i) H1
section
variable {X : Cx} {e : Expr} {te : TE} {lo hi : Option Expr} {tl th : TO} {pos p2 : Pos}
theorem po_none : PO X none tNoPart := by
  intro pins s σ H Q I h
  rw [evalPart_none]
  exact wpAny_pure ⟨none, H, I, .none, h⟩
theorem po_some (h : PE X e te) : PO X (some e) (tPart te) := by
  intro pins s σ H Q I hw
  rw [evalPart_some]
  refine thn (h pins s σ H _ I hw) fun u s1 ⟨x, H1, I1, r1, q1⟩ => ?_
  obtain ⟨i, rfl, q⟩ := q1
  obtain ⟨t, rfl⟩ := r1
  exact ⟨some i, H1, I1, .int i t, q⟩
/-- what a slice of a value is, by values: the slice object stands at sl -/
def SlR (X : Cx) (r : V → Option Int → Option Int → Hp → VK → Prop) : Prop :=
  ∀ (pins : List (Addr × Obj)) (s : Shared) (σ : St) (H : Hp) (x : V) (v vl vu : Value) (lo hi : Option Int) (sl : Addr) (Q : VK), Inv X pins σ H s → RelV x v → s.heap.IsSliceOf sl vl vu .none → IsPart vl lo → IsPart vu hi → r x lo hi H Q →
    ∃ T id, typeLookup (.type T) "__getitem__" = pure (some (.builtin id)) ∧ s.TypeIs v T ∧ wpAny (model X.prog X.w) X.A (getItem v (.ref sl)) (EP X pins σ Q) X.xe s
def tSl (r : V → Option Int → Option Int → Hp → VK → Prop) (te : TE) (tl th : TO) : TE := fun σ H Q => te σ H fun x H1 => tl σ H1 fun l H2 => th σ H2 fun u H3 => r x l u H3 Q
/-- a[lo:hi], any a -/
theorem pe_slice {r : V → Option Int → Option Int → Hp → VK → Prop} (hr : SlR X r) (he : PE X e te) (hl : PO X lo tl) (hu : PO X hi th) : PE X (.Subscript e (.Slice lo hi none p2) pos) (tSl r te tl th) := by
  intro pins s σ H Q I h
  refine Subscript_ (thn (he pins s σ H _ I h) fun v s1 ⟨x, H1, I1, r1, q1⟩ => ?_)
  refine wpAny_Slice (thn (hl pins s1 σ H1 _ I1 q1) fun vl s2 ⟨l, H2, I2, pl, q2⟩ => thn (hu pins s2 σ H2 _ I2 q2) fun vu s3 ⟨u, H3, I3, pu, q3⟩ => ?_)
  rw [evalPart_none]
  refine wpAny_pure ?_
  have I4 : Inv X pins σ H3 { s3 with heap := s3.heap.push { cls := .type "slice", data := .fields #[vl, vu, .none] } } := I3.kept (t' := s3.toks) fun b ob q => Heap.get?_push_of_some _ q
  obtain ⟨T, id, hT, ht, hg⟩ := hr pins { s3 with heap := s3.heap.push { cls := .type "slice", data := .fields #[vl, vu, .none] } } σ H3 x v vl vu l u s3.heap.objs.size Q I4 r1 (Heap.IsSliceOf.new ..) pl pu q3
  show wpAny (model X.prog X.w) X.A (subscriptTail e (.Slice lo hi none p2) v (.ref s3.heap.objs.size)) (EP X pins σ Q) X.xe { s3 with heap := s3.heap.push { cls := .type "slice", data := .fields #[vl, vu, .none] } }
  exact tail_any (ops := [.ref s3.heap.objs.size, v]) ht hT hg (by with_unfolding_all rfl)
/-- the items of xs[lo:hi] -/
def cutV (xs : List V) (lo hi : Option Int) : List V := (xs.drop (HT.sIx xs.length 0 lo)).take (HT.sIx xs.length xs.length hi - HT.sIx xs.length 0 lo)
theorem cutV_length (xs : List V) (lo hi : Option Int) : (cutV xs lo hi).length ≤ xs.length := by
  unfold cutV
  rw [List.length_take, List.length_drop]
  omega
/-! ### t < u, t + u -/
end
end L2
namespace L2
open PySem PySem.Spec PyProof.Rows
/-! ### places -/
/-- the place that an index of any sign means -/
def ixN (n : Nat) (i : Int) : Option Nat := if 0 ≤ i then (if i < n then some i.toNat else none) else if -(n : Int) ≤ i then some (i + n).toNat else none
def atI {α : Type} (xs : List α) (i : Int) : Option α := (ixN xs.length i).bind fun j => xs[j]?
theorem ixN_seq {n : Nat} {i : Int} {j : Nat} (h : ixN n i = some j) : seqIndex? i n = some j ∧ j < n ∧ -(n : Int) ≤ i ∧ i < n := by
  unfold ixN at h
  by_cases h0 : 0 ≤ i
  · rw [if_pos h0] at h
    by_cases h1 : i < n
    · rw [if_pos h1] at h
      have e : i.toNat = j := Option.some.inj h
      exact ⟨by rw [seqIndex_of h0 h1, e], by omega, by omega, h1⟩
    · rw [if_neg h1] at h; cases h
  · rw [if_neg h0] at h
    by_cases h1 : -(n : Int) ≤ i
    · rw [if_pos h1] at h
      have e : (i + n).toNat = j := Option.some.inj h
      exact ⟨by rw [seqIndex_neg (by omega) h1, e], by omega, h1, by omega⟩
    · rw [if_neg h1] at h; cases h
theorem atI_get {α : Type} {xs : List α} {i : Int} {v : α} (h : atI xs i = some v) : ∃ j, seqIndex? i xs.length = some j ∧ xs[j]? = some v ∧ j < xs.length ∧ -(xs.length : Int) ≤ i ∧ i < xs.length := by
  unfold atI at h
  cases e : ixN xs.length i with
  | none => rw [e] at h; cases h
  | some j =>
    rw [e] at h
    obtain ⟨h1, h2, h3, h4⟩ := ixN_seq e
    exact ⟨j, h1, h, h2, h3, h4⟩
theorem atI_nat {α : Type} {xs : List α} {j : Nat} {v : α} (h : xs[j]? = some v) : atI xs (j : Int) = some v := by
  have hj : j < xs.length := (List.getElem?_eq_some_iff.mp h).1
  have e : ixN xs.length (j : Int) = some j := by
    unfold ixN
    rw [if_pos (by omega), if_pos (by omega)]; simp
  unfold atI; rw [e]; exact h
/-! ### what may be subscripted -/
/-- what stands as an index of a plain subscript -/
def PlainIx (b : Expr) : Prop := ∀ o i, subscripted b false o i = operate [o, i] (getItem o i)
/-- a subscript by values -/
def IxR (X : Cx) (r : R2) : Prop :=
  ∀ (value slice : Expr) (pins : List (Addr × Obj)) (s : Shared) (σ : St) (H : Hp) (x y : V) (v u : Value) (Q : VK), Inv X pins σ H s → RelV x v → RelV y u → r x y H Q →
    subscripted slice false v u = operate [v, u] (getItem v u) → wpAny (model X.prog X.w) X.A (subscriptTail value slice v u) (EP X pins σ Q) X.xe s
/-- a call of a builtin's method by values: the receiver, the arguments -/
def MtR (X : Cx) (id : String) (r : V → List V → Hp → VK → Prop) : Prop :=
  ∀ (pins : List (Addr × Obj)) (s : Shared) (σ : St) (H : Hp) (x : V) (xs : List V) (v : Value) (us : List Value) (Q : VK), Inv X pins σ H s → RelV x v → Vals xs us → r x xs H Q →
    wpAny (model X.prog X.w) X.A (call (.builtin id) (v :: us)) (EP X pins σ Q) X.xe s
section
variable {X : Cx} {a b : Expr} {ta tb : TE} {pos : Pos}
/-- a[b] -/
theorem pe_ix {r : R2} (hr : IxR X r) (ha : PE X a ta) (hb : PE X b tb) (hs : PlainIx b) : PE X (.Subscript a b pos) (tOp r ta tb) := by
  intro pins s σ H Q I h
  exact Subscript_ (binT ha hb I h fun v u s2 x y H2 I2 rx ry q => hr a b pins s2 σ H2 x y v u Q I2 rx ry q (hs _ _))
def rIxL (K : PySem.W.Frag) : R2 := fun x y H Q => ∃ p xs i v, x = .ref p ∧ y = .int i ∧ SqL K H p xs ∧ atI xs i = some v ∧ Q v H
def rIxT (K : PySem.W.Frag) : R2 := fun x y H Q => ∃ p xs i v, x = .ref p ∧ y = .int i ∧ SqT K H p xs ∧ atI xs i = some v ∧ Q v H
theorem ix_list : IxR X (rIxL X.K) := by
  intro value slice pins s σ H x y v u Q I rx ry h hs
  obtain ⟨p, xs, i, z, rfl, rfl, hq, he, q⟩ := h
  cases rx
  obtain ⟨t, rfl⟩ := ry
  obtain ⟨its, r, pl, hz⟩ := I.list hq
  obtain ⟨j, h1, h2, h3, h4, h5⟩ := atI_get he
  obtain ⟨w, ew, rw'⟩ := r.get h2
  have hl := r.length
  have hn := line63
  have fin : EP X pins σ Q w s := ⟨z, H, I, rw', q⟩
  by_cases h0 : 0 ≤ i
  · have hj : i.toNat = j := by
      rw [seqIndex_of h0 h5] at h1
      exact Option.some.inj h1
    exact item_listR pl.isList h0 (by omega) (by rw [hj]; simpa using ew) fin hs
  · have hj : (i + (its.toArray.size : Int)).toNat = j := by
      rw [seqIndex_neg (by omega) h4] at h1
      rw [List.size_toArray, ← hl]
      exact Option.some.inj h1
    exact subscriptTail_builtinR (x := w) pl.isList.typeIs slot_list_getitem.lookup
      (wpAny_getItem_list_neg (Q := fun r s' => r = w ∧ EP X pins σ Q r s') pl.isList (by omega) (by rw [List.size_toArray] <;> omega) (by omega) (by rw [hj]; simpa using ew) ⟨rfl, fin⟩) hs
theorem ix_tup : IxR X (rIxT X.K) := by
  intro value slice pins s σ H x y v u Q I rx ry h hs
  obtain ⟨p, xs, i, z, rfl, rfl, hq, he, q⟩ := h
  cases rx
  obtain ⟨t, rfl⟩ := ry
  obtain ⟨its, r, pl, hz⟩ := I.tuple hq
  obtain ⟨j, h1, h2, h3, h4, h5⟩ := atI_get he
  obtain ⟨w, ew, rw'⟩ := r.get h2
  have hl := r.length
  have hn := line63
  have fin : EP X pins σ Q w s := ⟨z, H, I, rw', q⟩
  exact subscriptTail_builtinR (x := w) pl.typeIs slot_tuple_getitem.lookup
    (getItem_tuple (j := j) (Q := fun r s' => r = w ∧ EP X pins σ Q r s') pl (by omega) (by omega) (by rw [List.size_toArray, ← hl]; exact h1) (by simpa using ew) ⟨rfl, fin⟩) hs
/-! ### xs[i] = v, any sign -/
/-- the list's object behind a store -/
theorem mapSeq_set (its : List Value) (n j : Nat) (u : Value) : Obj.mapSeq (·.setIfInBounds j u) { cls := .type "list", data := .seq its.toArray n } = { cls := .type "list", data := .seq (its.set j u).toArray n } := by
  simp [Obj.mapSeq]
theorem Inv.lst {pins : List (Addr × Obj)} {σ : St} {H : Hp} {s : Shared} {p : Addr} {xs : List V} (I : Inv X pins σ H s) (h : H p = some (.lst xs)) :
    ∃ (its : List Value) (n : Nat), Vals xs its ∧ s.heap.get? p = some { cls := .type "list", data := .seq its.toArray n } ∧ xs.length ≤ sizeLine := by
  obtain ⟨z, its, n, r, e⟩ := I.hok p _ h
  exact ⟨its, n, r, e, z⟩
/-- the list at p is written by an update of its object -/
theorem Inv.lstUpd {pins : List (Addr × Obj)} {σ : St} {H : Hp} {s : Shared} {p : Addr} {xs ys : List V} {its its' : List Value} {n n' : Nat} {f : Obj → Obj} (I : Inv X pins σ H s) (h : H p = some (.lst xs))
    (ho : s.heap.get? p = some { cls := .type "list", data := .seq its.toArray n }) (hf : f { cls := .type "list", data := .seq its.toArray n } = { cls := .type "list", data := .seq its'.toArray n' }) (r : Vals ys its') (hz : ys.length ≤ sizeLine) (t : Nat) :
    Inv X pins σ (upd H p (.lst ys)) { s with heap := s.heap.update p f, toks := t } := by
  have e : (s.heap.update p f).get? p = some { cls := .type "list", data := .seq its'.toArray n' } := by
    rw [Heap.get?_update_self f ho (by rw [hf] <;> rfl), hf]
  refine I.write (x := p) (e := p) (by rw [h]; trivial) (.inl rfl) (fun b u hb q => (Heap.get?_update_other _ _ (Ne.symm hb)).trans q) ⟨_, e⟩ ?_
  exact ⟨hz, its', n', r, e⟩
def rSetL : V → V → V → Hp → (Hp → Prop) → Prop := fun o i v H Q => ∃ p xs k j, o = .ref p ∧ i = .int k ∧ H p = some (.lst xs) ∧ ixN xs.length k = some j ∧ Q (upd H p (.lst (xs.set j v)))
theorem set_list : PSet X rSetL := by
  intro pins s σ H o i v ov iv u Q I ro ri rv h
  obtain ⟨p, xs, k, j, rfl, rfl, hp, hj, q⟩ := h
  cases ro
  obtain ⟨t, rfl⟩ := ri
  obtain ⟨its, n, r, ho, hz⟩ := I.lst hp
  obtain ⟨h1, h2, h3, h4⟩ := ixN_seq hj
  have hl := r.length
  have hn := line63
  have I' : Inv X pins σ (upd H p (.lst (xs.set j v))) { s with heap := s.heap.update p (Obj.mapSeq (·.setIfInBounds j u)) } :=
    I.lstUpd hp ho (mapSeq_set its n j u) (r.set rv j) (by rw [List.length_set]; exact hz) s.toks
  by_cases h0 : 0 ≤ k
  · have hk : k.toNat = j := by
      rw [seqIndex_of h0 h4] at h1
      exact Option.some.inj h1
    exact PySem.W.ki_setAt ho h0 (by omega) (by rw [List.size_toArray, ← hl]; exact h4) (by rw [hk]; exact ⟨_, I', q⟩)
  · have hk : (k + (its.toArray.size : Int)).toNat = j := by
      rw [seqIndex_neg (by omega) h3] at h1
      rw [List.size_toArray, ← hl]
      exact Option.some.inj h1
    exact PySem.W.ki_setBack ho (by omega) (by rw [List.size_toArray, ← hl]; exact h3) (by omega) (by rw [hk]; exact ⟨_, I', q⟩)
/-! ### slices -/
theorem slice_bounds (lo hi : Option Int) (n : Nat) : (sliceBounds lo hi none n).1 = ((HT.sIx n 0 lo : Nat) : Int) ∧ (sliceBounds lo hi none n).2.1 = ((HT.sIx n n hi : Nat) : Int) ∧ (sliceBounds lo hi none n).2.2 = 1 := by
  refine ⟨?_, ?_, rfl⟩
  · cases lo with
    | none => simp [sliceBounds, HT.sIx]
    | some i =>
      simp only [sliceBounds, HT.sIx, Option.getD_none, show (1 : Int) > 0 by decide, if_true]
      by_cases h : i < 0
      · simp only [h, if_true] <;> omega
      · simp only [h, if_false] <;> omega
  · cases hi with
    | none => simp [sliceBounds, HT.sIx]
    | some i =>
      simp only [sliceBounds, HT.sIx, Option.getD_none, show (1 : Int) > 0 by decide, if_true]
      by_cases h : i < 0
      · simp only [h, if_true] <;> omega
      · simp only [h, if_false] <;> omega
theorem slicePick_cut (its : List Value) (lo hi : Option Int) : slicePick its.toArray lo hi none = ((its.drop (HT.sIx its.length 0 lo)).take (HT.sIx its.length its.length hi - HT.sIx its.length 0 lo)).toArray := by
  obtain ⟨h1, h2, h3⟩ := slice_bounds lo hi its.toArray.size
  unfold slicePick
  rw [h1, h2, h3]
  simp only [sliceRange_one, pick_run, List.size_toArray] <;> rfl
/-- xs[lo:hi] of a list: a new list -/
def rSlL (K : PySem.W.Frag) : V → Option Int → Option Int → Hp → VK → Prop := fun x lo hi H Q => ∃ a xs, x = .ref a ∧ SqL K H a xs ∧ ∀ p, H p = none → Q (.ref p) (upd H p (.lst (cutV xs lo hi)))
theorem sl_list : SlR X (rSlL X.K) := by
  intro pins s σ H x v vl vu lo hi sl Q I rx hs pl pu h
  obtain ⟨a, xs, rfl, hx, q⟩ := h
  cases rx
  obtain ⟨its, r, ht, hz⟩ := I.list hx
  have hlen := r.length
  refine ⟨"list", _, slot_list_getitem.lookup, ht.isList.typeIs, ?_⟩
  refine wpAny_getItem_list_slice ht.isList hs pl pu .none (by simp) ?_ (by rw [List.size_toArray] <;> omega)
  rw [slicePick_cut, ← hlen]
  refine ⟨.ref s.heap.objs.size, _, I.laid (t' := s.toks) (o := .lst (cutV xs lo hi)) (fun b ob q => Heap.get?_push_of_some _ q) (Nat.le_refl _) ?_, rfl, q _ (I.hok.fresh (Nat.le_refl _))⟩
  exact ⟨Nat.le_trans (cutV_length xs lo hi) hz, _, 0, (r.drop (HT.sIx xs.length 0 lo)).take (HT.sIx xs.length xs.length hi - HT.sIx xs.length 0 lo), Heap.get?_push_size _ rfl⟩
/-! ### in, not in: flat items -/
def flatV : V → Bool
  | .non => true
  | .bl _ => true
  | .int _ => true
  | .str _ => true
  | _ => false
/-- == of flat values -/
def eqV : V → V → Bool
  | .non, .non => true
  | .bl a, .bl b => a == b
  | .bl a, .int b => (if a then 1 else 0) == b
  | .int a, .bl b => a == (if b then 1 else 0)
  | .int a, .int b => a == b
  | .str a, .str b => a == b
  | _, _ => false
theorem eqAt_V {A : Around} {s : Shared} {y x : V} {u v : Value} (ry : RelV y u) (rx : RelV x v) (fy : flatV y = true) (fx : flatV x = true) : SeqAt.EqAt A s u v (eqV y x) := by
  cases y with
  | non =>
    cases ry
    cases x with
    | non => cases rx; exact SeqAt.EqAt.same _
    | bl b => cases rx; exact SeqAt.EqAt.none_bool b
    | int b => obtain ⟨t, rfl⟩ := rx; exact SeqAt.EqAt.none_int b t
    | str b => obtain ⟨t, rfl⟩ := rx; exact SeqAt.EqAt.none_str b t
    | _ => exact absurd (show false = true from fx) Bool.false_ne_true
  | bl a =>
    cases ry
    cases x with
    | non => cases rx; exact SeqAt.EqAt.bool_none a
    | bl b => cases rx; exact SeqAt.EqAt.bool_bool a b
    | int b => obtain ⟨t, rfl⟩ := rx; exact SeqAt.EqAt.bool_int a b t
    | str b => obtain ⟨t, rfl⟩ := rx; exact SeqAt.EqAt.bool_str a b t
    | _ => exact absurd (show false = true from fx) Bool.false_ne_true
  | int a =>
    obtain ⟨t', rfl⟩ := ry
    cases x with
    | non => cases rx; exact SeqAt.EqAt.int_none a t'
    | bl b => cases rx; exact SeqAt.EqAt.int_bool a t' b
    | int b => obtain ⟨t, rfl⟩ := rx; exact SeqAt.EqAt.int_int a t' b t
    | str b => obtain ⟨t, rfl⟩ := rx; exact SeqAt.EqAt.int_str a t' b t
    | _ => exact absurd (show false = true from fx) Bool.false_ne_true
  | str a =>
    obtain ⟨t', rfl⟩ := ry
    cases x with
    | non => cases rx; exact SeqAt.EqAt.str_none a t'
    | bl b => cases rx; exact SeqAt.EqAt.str_bool a t' b
    | int b => obtain ⟨t, rfl⟩ := rx; exact SeqAt.EqAt.str_int a t' b t
    | str b => obtain ⟨t, rfl⟩ := rx; exact SeqAt.EqAt.str_str a t' b t
    | _ => exact absurd (show false = true from fx) Bool.false_ne_true
  | _ => exact absurd (show false = true from fy) Bool.false_ne_true
/-- the items' answers, read off the values (a value's own answer does not lean on its token) -/
def eqU (x : V) (u : Value) : Bool := match u with
  | .none => eqV .non x
  | .bool b => eqV (.bl b) x
  | .int i _ => eqV (.int i) x
  | .str z _ => eqV (.str z) x
  | _ => false
theorem eqU_of {x y : V} {u : Value} (r : RelV y u) (f : flatV y = true) : eqU x u = eqV y x := by
  cases y with
  | non => cases r; rfl
  | bl b => cases r; rfl
  | int i => obtain ⟨t, rfl⟩ := r; rfl
  | str z => obtain ⟨t, rfl⟩ := r; rfl
  | _ => exact absurd (show false = true from f) Bool.false_ne_true
theorem any_eqU {x : V} : ∀ {xs : List V} {us : List Value}, Vals xs us → xs.all flatV = true → us.any (eqU x) = xs.any fun y => eqV y x
  | _, _, .nil, _ => rfl
  | y :: xs, u :: us, .cons r t, f => by
    rw [List.all_cons, Bool.and_eq_true] at f
    rw [List.any_cons, List.any_cons, eqU_of r f.1, any_eqU t f.2]
theorem mem_eqAt {A : Around} {s : Shared} {x : V} {v : Value} (rx : RelV x v) (fx : flatV x = true) : ∀ {xs : List V} {us : List Value}, Vals xs us → xs.all flatV = true → ∀ u ∈ us, SeqAt.EqAt A s u v (eqU x u)
  | _, _, .nil, _ => fun u hu => by cases hu
  | y :: xs, u :: us, .cons r t, f => fun u' hu => by
    rw [List.all_cons, Bool.and_eq_true] at f
    rcases List.mem_cons.mp hu with rfl | hu
    · rw [eqU_of r f.1]; exact eqAt_V r rx f.1 fx
    · exact mem_eqAt rx fx t f.2 u' hu
def inV (x : V) (xs : List V) : Bool := xs.any fun y => eqV y x
/-- x in a list or tuple of flat items -/
def rIn (K : PySem.W.Frag) (neg : Bool) : R2 := fun x y H Q => ∃ p xs, y = .ref p ∧ (SqL K H p xs ∨ SqT K H p xs) ∧ flatV x = true ∧ xs.all flatV = true ∧ Q (.bl (if neg then !inV x xs else inV x xs)) H
theorem op_in_seq : OpR X (compareOp .In) (rIn X.K false) := by
  intro pins s σ H x y v u Q I rx ry h
  obtain ⟨p, xs, rfl, hq, fx, fs, q⟩ := h
  cases ry
  rcases hq with hq | hq
  · obtain ⟨its, r, pl, hz⟩ := I.list hq
    refine SeqAt.in_listAt (eqU x) pl.isList (fun w hw => mem_eqAt rx fx r fs w (by simpa using hw)) ⟨.bl _, H, I, rfl, ?_⟩
    rw [show its.toArray.any (eqU x) = its.any (eqU x) by simp, any_eqU r fs]
    exact q
  · obtain ⟨its, r, pl, hz⟩ := I.tuple hq
    refine SeqAt.in_tupleAt (eqU x) pl (fun w hw => mem_eqAt rx fx r fs w (by simpa using hw)) ⟨.bl _, H, I, rfl, ?_⟩
    rw [show its.toArray.any (eqU x) = its.any (eqU x) by simp, any_eqU r fs]
    exact q
theorem op_notIn_seq : OpR X (compareOp .NotIn) (rIn X.K true) := by
  intro pins s σ H x y v u Q I rx ry h
  obtain ⟨p, xs, rfl, hq, fx, fs, q⟩ := h
  cases ry
  rcases hq with hq | hq
  · obtain ⟨its, r, pl, hz⟩ := I.list hq
    refine SeqAt.notIn_listAt (eqU x) pl.isList (fun w hw => mem_eqAt rx fx r fs w (by simpa using hw)) ⟨.bl _, H, I, rfl, ?_⟩
    rw [show its.toArray.any (eqU x) = its.any (eqU x) by simp, any_eqU r fs]
    exact q
  · obtain ⟨its, r, pl, hz⟩ := I.tuple hq
    refine SeqAt.notIn_tupleAt (eqU x) pl (fun w hw => mem_eqAt rx fx r fs w (by simpa using hw)) ⟨.bl _, H, I, rfl, ?_⟩
    rw [show its.toArray.any (eqU x) = its.any (eqU x) by simp, any_eqU r fs]
    exact q
/-! ### len, list(x), tuple(x) of any list or tuple that is read -/
theorem call_len_seq : CallR X (.builtin "len") (fun xs H Q => ∃ p ys, xs = [.ref p] ∧ (SqL X.K H p ys ∨ SqT X.K H p ys) ∧ Q (.int ys.length) H) := by
  intro pins s σ H xs us Q I r h
  obtain ⟨p, ys, rfl, hq, q⟩ := h
  obtain ⟨u, rfl, rx⟩ := vals1 r
  cases rx
  have hn := line63
  rcases hq with hq | hq
  · obtain ⟨its, r', pl, hz⟩ := I.list hq
    have hlen := r'.length
    exact Calls.call_len_list pl.isList (by simp only [List.size_toArray] <;> omega) ⟨.int ys.length, H, I.tok _, ⟨s.toks + 1, by rw [List.size_toArray, hlen]⟩, q⟩
  · obtain ⟨its, r', pl, hz⟩ := I.tuple hq
    have hlen := r'.length
    exact len_tuple pl (by simp only [List.size_toArray] <;> omega) ⟨.int ys.length, H, I.tok _, ⟨s.toks + 1, by rw [List.size_toArray, hlen]⟩, q⟩
/-! ### the call of a builtin's method: o.m(..) -/
/-- the value is of that builtin type -/
def tyV (K : PySem.W.Frag) (T : String) (x : V) (H : Hp) : Prop := match x with
  | .str _ => T = "str"
  | .int _ => T = "int"
  | .ref p => (T = "list" ∧ ∃ xs, SqL K H p xs) ∨ (T = "tuple" ∧ ∃ o, K.lookup p = some o ∧ o.cls = .type "tuple" ∧ o.dict = none) ∨
      (T = "dict" ∧ ((∃ kvs, H p = some (.dK kvs)) ∨ ∃ kvs, H p = some (.dT kvs))) ∨ (T = "set" ∧ ∃ S n, H p = some (.set S n))
  | _ => False
theorem tyV_is {pins : List (Addr × Obj)} {σ : St} {H : Hp} {s : Shared} {T : String} {x : V} {v : Value} (I : Inv X pins σ H s) (r : RelV x v) (ty : tyV X.K T x H) :
    s.TypeIs v T ∧ ∀ a, v = .ref a → ∃ ob, s.heap.get? a = some ob ∧ ob.dict = none := by
  cases x with
  | str z =>
    obtain ⟨t, rfl⟩ := r
    cases (show T = "str" from ty)
    exact ⟨typeIs_str s z t, fun _ e => nomatch e⟩
  | int i =>
    obtain ⟨t, rfl⟩ := r
    cases (show T = "int" from ty)
    exact ⟨typeIs_int s i t, fun _ e => nomatch e⟩
  | ref p =>
    cases r
    rcases ty with ⟨rfl, xs, hq⟩ | ⟨rfl, o, hk, hc, hd⟩ | ⟨rfl, hk⟩ | ⟨rfl, S, n, hk⟩
    · obtain ⟨its, _, pl, _⟩ := I.list hq
      refine ⟨pl.isList.typeIs, fun a e => ?_⟩
      cases e
      obtain ⟨o, n, e, c, hd, _⟩ := pl
      exact ⟨o, e, hd⟩
    · refine ⟨⟨o, I.kIn p o hk, hc⟩, fun a e => ?_⟩
      cases e
      exact ⟨o, I.kIn _ o hk, hd⟩
    · have z : ∃ o, s.heap.get? p = some o ∧ o.ExactDict := by
        rcases hk with ⟨kvs, hk⟩ | ⟨kvs, hk⟩
        · obtain ⟨_, _, _, _, o, _, _, e, ex, _⟩ := I.hok p _ hk
          exact ⟨o, e, ex⟩
        · obtain ⟨_, _, _, _, o, _, _, e, ex, _⟩ := I.hok p _ hk
          exact ⟨o, e, ex⟩
      obtain ⟨o, e, ex⟩ := z
      refine ⟨⟨o, e, ex.1⟩, fun a e2 => ?_⟩
      cases e2
      exact ⟨o, e, ex.2.1⟩
    · obtain ⟨o, _, _, _, e, ex, _⟩ := I.hok p _ hk
      refine ⟨⟨o, e, ex.1⟩, fun a e2 => ?_⟩
      cases e2
      exact ⟨o, e, ex.2.1⟩
  | _ => exact False.elim ty
def tBM0 (K : PySem.W.Frag) (T : String) (r : V → List V → Hp → VK → Prop) (to : TE) : TE := fun σ H Q => to σ H fun x H1 => tyV K T x H1 ∧ r x [] H1 Q
def tBM (K : PySem.W.Frag) (T : String) (r : V → List V → Hp → VK → Prop) (to : TE) (t : TA) : TE := fun σ H Q => to σ H fun x H1 => tyV K T x H1 ∧ t σ H1 fun xs H2 => r x xs H2 Q
variable {o e : Expr} {es : List Expr} {to : TE} {t : TA} {name : Str} {apos cpos : Pos} {T id : String} {r : V → List V → Hp → VK → Prop}
theorem pe_bm0 (pa : PlainAttrs T) (slot : Slot T name id) (hty : typeOf (.builtin id) = pure (.type "method_descriptor")) (hm : MtR X id r) (ho : PE X o to)
    (hbase : attributeBase o name X.env (eval o X.env) = eval o X.env := by rfl) (hline : (apos.endLine == cpos.line) = true := by rfl) : PE X (.Call (.Attribute o name apos) [] [] cpos) (tBM0 X.K T r to) := by
  intro pins s σ H Q I h
  refine wpAny_Call_method0_late hbase hline (thn (ho pins s σ H _ I h) fun v s1 ⟨x, H1, I1, r1, ty, q1⟩ => ?_)
  obtain ⟨h1, h2⟩ := tyV_is I1 r1 ty
  exact ⟨T, id, pa, slot, hty, h1, h2, Calls.callWith_builtin rfl (PySem.evalArgs_none (hm pins s1 σ H1 x [] v [] Q I1 r1 .nil q1))⟩
theorem pe_bm (pa : PlainAttrs T) (slot : Slot T name id) (hty : typeOf (.builtin id) = pure (.type "method_descriptor")) (hm : MtR X id r) (ho : PE X o to) (ha : PA X (e :: es) t)
    (hbase : attributeBase o name X.env (eval o X.env) = eval o X.env := by rfl)
    (hfew : ((backTo cpos (starEach (e :: es) X.env)).all (fun x => !x.1) && (backToKw cpos (keywordEach [] X.env)).all (fun x => x.1.isSome)
      && decide ((e :: es).length + ([] : List Keyword).length + (if ([] : List Keyword).isEmpty then 0 else 1) < 30)) = true := by rfl)
    (hline : (apos.endLine == cpos.line) = true := by rfl) (hs : starEach (e :: es) X.env = (false, eval e X.env) :: starEach es X.env := by rfl) (hplain : (backTo cpos (starEach es X.env)).any (·.1) = false := by rfl) :
    PE X (.Call (.Attribute o name apos) (e :: es) [] cpos) (tBM X.K T r to t) := by
  intro pins s σ H Q I h
  refine wpAny_Call_method_late hbase hfew hline rfl (thn (ho pins s σ H _ I h) fun v s1 ⟨x, H1, I1, r1, ty, q1⟩ => ?_)
  obtain ⟨h1, h2⟩ := tyV_is I1 r1 ty
  refine ⟨T, id, pa, slot, hty, h1, h2, ?_⟩
  have hA := ha cpos pins s1 σ H1 _ I1 q1
  rw [hs] at hA ⊢
  refine Calls.callWith_builtin (by show (false || (backTo cpos (starEach es X.env)).any (·.1)) = false; rw [hplain] <;> rfl) (Calls.evalArgs_plain ?_)
  exact thn hA fun us s2 ⟨vs, H2, I2, r2, q2⟩ => hm pins s2 σ H2 x vs v us Q I2 r1 r2 q2
/- xs.append(e), list.index on a module's tuple .. are MtR facts of 06m -/
end
end L2
namespace L2
open PySem PySem.Spec PyProof.Rows
def MtM (X : Cx) (id : String) (r : V → List V → Hp → VK → Prop) : Prop :=
  ∀ (pins : List (Addr × Obj)) (s : Shared) (σ : St) (H : Hp) (x : V) (xs : List V) (v : Value) (us : List Value) (Q : VK), Inv X pins σ H s → RelV x v → Vals xs us → r x xs H Q →
    wpAny (model X.prog X.w) X.A (call (.builtin id) (v :: us)) (EP X pins σ Q) X.xe s
/-! ### lists of values -/
theorem Vals.one : ∀ {x : V} {us : List Value}, Vals [x] us → ∃ u, us = [u] ∧ RelV x u
  | _, _, .cons r .nil => ⟨_, rfl, r⟩
theorem Vals.rep {xs : List V} {us : List Value} (h : Vals xs us) : ∀ k : Nat, Vals (List.replicate k xs).flatten (List.replicate k us).flatten
  | 0 => .nil
  | k + 1 => by
    rw [List.replicate_succ, List.replicate_succ, List.flatten_cons, List.flatten_cons]
    exact Vals.append h (Vals.rep h k)
theorem foldl_rep (its : List Value) : ∀ (k : Nat) (acc : List Value),
    List.foldl (fun x1 x2 => x1 ++ x2) acc.toArray (List.replicate k its.toArray) = (acc ++ (List.replicate k its).flatten).toArray
  | 0, acc => by simp
  | k + 1, acc => by
    have e : acc.toArray ++ its.toArray = (acc ++ its).toArray := by simp
    have e2 : (acc ++ its) ++ (List.replicate k its).flatten = acc ++ (List.replicate (k + 1) its).flatten := by
      rw [List.replicate_succ, List.flatten_cons, List.append_assoc]
    rw [← e2, ← foldl_rep its k (acc ++ its), ← e, List.replicate_succ, List.foldl_cons]
section
variable {X : Cx} {pins : List (Addr × Obj)} {σ : St} {H : Hp} {s : Shared} {l b : Addr} {xs ys zs : List V}
/-! ### the two steps: a tracked list is rewritten, a new list is laid -/
theorem Inv.lset {its its' : List Value} {n : Nat} {f : Array Value → Array Value} {t' : Nat} (I : Inv X pins σ H s) (hH : H l = some (.lst xs))
    (e : s.heap.get? l = some { cls := .type "list", data := .seq its.toArray n }) (hf : f its.toArray = its'.toArray) (hv : Vals ys its') (hz : ys.length ≤ sizeLine) :
    Inv X pins σ (upd H l (.lst ys)) { s with heap := s.heap.update l (Obj.mapSeq f), toks := t' } := by
  have q := PySem.IsL.update e f
  rw [hf] at q
  refine I.write (x := l) (e := l) (by rw [hH]; exact trivial) (.inl rfl) (fun b' u hb hu => (Heap.get?_update_other s.heap (Obj.mapSeq f) (Ne.symm hb)).trans hu) ⟨_, q⟩ ?_
  exact ⟨hz, its', _, hv, q⟩
theorem Inv.lnew {its : List Value} {t' : Nat} (I : Inv X pins σ H s) (hv : Vals ys its) (hz : ys.length ≤ sizeLine) :
    Inv X pins σ (upd H s.heap.objs.size (.lst ys)) { s with heap := s.heap.push { cls := .type "list", data := .seq its.toArray }, toks := t' } :=
  I.laid (fun _ _ q => Heap.get?_push_of_some _ q) (Nat.le_refl _) ⟨hz, its, 0, hv, Heap.get?_push_size _ rfl⟩
theorem Inv.fresh (I : Inv X pins σ H s) : H s.heap.objs.size = none := I.hok.fresh (Nat.le_refl _)
theorem Inv.lstM (I : Inv X pins σ H s) (hH : H l = some (.lst xs)) : xs.length ≤ sizeLine ∧ ∃ (its : List Value) (n : Nat), Vals xs its ∧ xs.length = its.length ∧ s.heap.get? l = some { cls := .type "list", data := .seq its.toArray n } := by
  obtain ⟨z, its, n, r, e⟩ := I.hok l _ hH
  exact ⟨z, its, n, r, r.length, e⟩
theorem notLongL {n : Nat} (h : n ≤ sizeLine) : Builtin.List.listTooLong n = false := by
  unfold Builtin.List.listTooLong
  exact decide_eq_false (by omega)
end
section
variable {X : Cx}
/-! ### methods -/
def rAppend : V → List V → Hp → VK → Prop := fun x vs H Q => ∃ l xs y, x = .ref l ∧ vs = [y] ∧ H l = some (.lst xs) ∧ xs.length < sizeLine ∧ Q .non (upd H l (.lst (xs ++ [y])))
theorem mt_append : MtM X "list.append" rAppend := by
  intro pins s σ H x vs v us Q I rx rv h
  obtain ⟨l, xs, y, rfl, rfl, hH, hz, q⟩ := h
  cases rx
  obtain ⟨u, rfl, ru⟩ := rv.one
  obtain ⟨z, its, n, r, hl, e⟩ := I.lstM hH
  refine call_meets F.slot_list_append ⟨_, e, rfl⟩ F.entry_list_append (F.args_list_append_2 _ _) (PySem.list_append l its.toArray n u (by rw [List.size_toArray]; omega)) ⟨e, ?_⟩
  refine ⟨.non, _, I.lset (its' := its ++ [u]) hH e (by simp) (r.append (.cons ru .nil)) ?_, rfl, q⟩
  rw [List.length_append, List.length_singleton]
  omega
def rExtend : V → List V → Hp → VK → Prop := fun x vs H Q => ∃ l b xs zs, x = .ref l ∧ vs = [.ref b] ∧ H l = some (.lst xs) ∧ H b = some (.lst zs) ∧ xs.length + zs.length ≤ sizeLine ∧ Q .non (upd H l (.lst (xs ++ zs)))
theorem mt_extend : MtM X "list.extend" rExtend := by
  intro pins s σ H x vs v us Q I rx rv h
  obtain ⟨l, b, xs, zs, rfl, rfl, hH, hB, hz, q⟩ := h
  cases rx
  obtain ⟨u, rfl, ru⟩ := rv.one
  cases ru
  obtain ⟨z, its, n, r, hl, e⟩ := I.lstM hH
  obtain ⟨z2, its2, n2, r2, hl2, e2⟩ := I.lstM hB
  have hsz : its.toArray.size + its2.toArray.size ≤ sizeLine := by rw [List.size_toArray, List.size_toArray]; omega
  have hlong : ¬ (!its.toArray.isEmpty && Builtin.List.listTooLong (its.toArray.size + its2.toArray.size)) = true := by
    rw [notLongL hsz, Bool.and_false]
    exact Bool.false_ne_true
  refine call_meets F.slot_list_extend ⟨_, e, rfl⟩ F.entry_list_extend (F.args_list_extend_2 _ _)
    (AutoSeq1.list_extend_list_list_0 l its.toArray n b its2.toArray n2 hlong (by rw [List.size_toArray]; omega) (by omega)) ⟨e, e2, ?_⟩
  refine ⟨.non, _, I.lset (its' := its ++ its2) hH e (by simp) (r.append r2) ?_, rfl, q⟩
  rw [List.length_append]
  omega
/-! ### list + list, list += list, list * int -/
def rCat : R2 := fun x y H Q => ∃ l b xs zs, x = .ref l ∧ y = .ref b ∧ H l = some (.lst xs) ∧ H b = some (.lst zs) ∧ xs.length + zs.length ≤ sizeLine ∧ ∀ p, H p = none → Q (.ref p) (upd H p (.lst (xs ++ zs)))
theorem op_cat : OpR X (binaryOp .Add) rCat := by
  intro pins s σ H x y v u Q I rx ry h
  obtain ⟨l, b, xs, zs, rfl, rfl, hH, hB, hz, q⟩ := h
  cases rx
  cases ry
  obtain ⟨z, its, n, r, hl, e⟩ := I.lstM hH
  obtain ⟨z2, its2, n2, r2, hl2, e2⟩ := I.lstM hB
  refine PySem.P.add_list e e2 ?_ (by rw [List.size_toArray, List.size_toArray]; omega)
  have ea : its.toArray ++ its2.toArray = (its ++ its2).toArray := by simp
  rw [ea]
  exact ⟨.ref _, _, I.lnew (t' := s.toks) (r.append r2) (by rw [List.length_append]; omega), rfl, q _ I.fresh⟩
/-- a list times an int (a negative one is nothing) -/
def rRep : R2 := fun x y H Q => ∃ l k xs, x = .ref l ∧ y = .int k ∧ H l = some (.lst xs) ∧ -(2 ^ 63) ≤ k ∧ k < 2 ^ 63 ∧ xs.length * k.toNat ≤ sizeLine ∧
  ∀ p, H p = none → Q (.ref p) (upd H p (.lst (List.replicate k.toNat xs).flatten))
theorem len_rep {α : Type} (xs : List α) (k : Nat) : (List.replicate k xs).flatten.length = k * xs.length := by
  induction k with
  | zero => simp
  | succ k ih => rw [List.replicate_succ, List.flatten_cons, List.length_append, ih, Nat.succ_mul, Nat.add_comm]
theorem op_rep : OpR X (binaryOp .Mult) rRep := by
  intro pins s σ H x y v u Q I rx ry h
  obtain ⟨l, k, xs, rfl, rfl, hH, h1, h2, hz, q⟩ := h
  cases rx
  obtain ⟨t, rfl⟩ := ry
  obtain ⟨z, its, n, r, hl, e⟩ := I.lstM hH
  have hlen : its.toArray.size * k.toNat ≤ sizeLine := by rw [List.size_toArray, ← hl]; exact hz
  have hcap : ¬ its.toArray.size * k.toNat > (2 ^ 63 - 1) / 8 := by
    have : (sizeLine : Nat) ≤ (2 ^ 63 - 1) / 8 := by decide
    omega
  have hfit : ¬ (!Builtin.List.listFitsIndex k) = true := by
    rw [fitsIndex_both h1 h2]
    exact Bool.false_ne_true
  have hlong : ¬ Builtin.List.listTooLong (its.toArray.size * k.toNat) = true := by
    rw [notLongL hlen]
    exact Bool.false_ne_true
  have hnew : List.foldl (fun x1 x2 => x1 ++ x2) #[] (List.replicate (if its.toArray.isEmpty = true then 0 else k.toNat) its.toArray) = (List.replicate k.toNat its).flatten.toArray := by
    have f0 : ∀ m : Nat, List.foldl (fun x1 x2 => x1 ++ x2) #[] (List.replicate m its.toArray) = (List.replicate m its).flatten.toArray := fun m => by
      have := foldl_rep its m []
      rw [List.nil_append] at this
      exact this
    rw [f0]
    cases its with
    | nil => simp
    | cons a r' => rw [if_neg (by simp)]
  refine wpAny_binaryOp_repeat_ref (T := "list") (U := "int") (by decide) ⟨_, e, rfl⟩ (fun s' => typeIs_int s' k t) noFill_list_mul F.fills_int_mul F.slot_int_rmul repeat_list F.slot_int_index.lookup
    (call_meets F.slot_int_rmul (typeIs_int s k t) F.entry_int_rmul (F.args_int_rmul_2 _ _) (int___rmul___int_list k t l its.toArray n)
      ⟨e, rfl, ⟨_, e, rfl⟩, call_meets F.slot_list_mul ⟨_, e, rfl⟩ F.entry_list_mul (F.args_list_mul_2 _ _) (AutoListH.list___mul___list_int_3 l its.toArray n k t hfit hcap hlong) ⟨e, ?_⟩⟩)
  rw [hnew]
  exact ⟨.ref _, _, I.lnew (t' := s.toks) (r.rep k.toNat) (by rw [len_rep, Nat.mul_comm]; exact hz), rfl, q _ I.fresh⟩
/-! ### del xs[i] -/
end
/-! ### xs[a:b] = ys -/
section
variable {prog : Program} {w : World} {A : Around} {E : Value → Shared → Prop} {s : Shared}
set_option maxRecDepth 100000 in
end
end L2
namespace L2
open PySem PySem.Spec PyProof.Rows
/-! ### the library's walks over a list of ints, kept objects alone -/
/-! ### the calls, by values (CallR of 03t; MtR of 06l) -/
section
variable {X : Cx}
/-! sorted, sort (fewer than 64 items: the library's own bound) -/
end
/-! ### list.index, flat items -/
/-! ### type(x) of an own instance; is, is not of a module's class -/
/-! ### any(xs), all(xs) of a list of bools -/
/-! ### == and != of data at any depth: none, bools, ints, texts, lists, tuples -/
end L2
namespace L2
open PySem PySem.Spec PyProof.Rows
/-! ### the forms one uses -/
end L2
namespace L2
open PySem PySem.Spec PyProof.Rows
end L2
namespace L2
open PySem PySem.Spec PyProof.Rows
/-! ### lists of pairs as tables -/
/-! ### a tracked dict, its keys ints and texts or tuples of these -/
/-! ### readings and rules -/
/-! ### displays -/
/-! ### methods -/
/-! ### dict(d): a copy -/
end L2
namespace L2
open PySem PySem.Spec PyProof.Rows
end L2
namespace L2
open PySem PySem.Spec PyProof.Rows
section
variable {X : Cx} {pins : List (Addr × Obj)} {σ : St} {H : Hp} {s : Shared} {h' : Heap}
/-- .. and one new object is laid -/
theorem Inv.turnedNew {t' : Nat} {ch : List Addr} {T : Addr} {ob : HO} (I : Inv X pins σ H s) (k : ∀ b o, b ∉ ch → s.heap.get? b = some o → h'.get? b = some o) (hf : ∀ b ∈ ch, FpOk X pins H b) (hT : s.heap.objs.size ≤ T)
    (new : ObjOk X.prog X.w (upd H T ob) h' T ob) : Inv X pins σ (upd H T ob) { s with heap := h', toks := t' } := by
  have hn : H T = none := I.hok.fresh hT
  have nit : ∀ b u, H b = some u → b ∉ ch := fun b u e z => by
    have q := (hf b z).1
    rw [q] at e; cases e
  refine I.step (g' := s.gens) (d' := s.drawn) (ch := ch) (fun b hb => ⟨(hf b hb).2.2.2.1, (hf b hb).2.1, (hf b hb).2.2.2.2.1, (hf b hb).2.2.2.2.2⟩) (fun b o _ _ hc e _ => k b o hc e) (fun b o _ _ hc e _ => ⟨o.slots, k b o hc e⟩)
    (fun b o _ e n => ?_) (fun b o hc e => ⟨o, k b o hc e⟩) (fun b xs e => ?_) (fun b o u e => ?_) (fun b ps e => ⟨#[], ?_⟩) (fun m hm => ?_) (fun b u e => ?_) I.bare
  · rw [upd_ne (Nat.ne_of_lt (Nat.lt_of_lt_of_le (Heap.lt_size e) hT))]; exact n
  · rw [upd_ne (ne_of_none e hn)]; exact e
  · rw [upd_ne (ne_of_none e hn)]; exact e
  · rw [upd_ne (ne_of_none e hn), e]; simp
  · obtain ⟨o, es, ep, ho, r⟩ := hm
    exact ⟨o, es, ep, k _ o (fun z => (hf _ z).2.1 rfl) ho, r⟩
  · by_cases hb : b = T
    · subst hb
      rw [upd_same] at e
      cases e
      exact new
    · rw [upd_ne hb] at e
      refine (I.hok b u e).stay (fun c v hc q => k c v ?_ q) (fun c q => by rw [upd_ne (ne_of_none q hn)]; exact q) fun c xs q => by rw [upd_ne (ne_of_none q hn)]; exact q
      rcases hc with z | z
      · rw [z]; exact nit b u e
      · exact nit c _ z
/-! ### locking a thing while a statement runs -/
end
section
variable {X : Cx}
/-! ### one iterator just laid -/
end
/-! ### range with a step -/
/-! ### reversed(list) -/
/-! ### a str -/
/-! ### a dict's keys: any dict's entries -/
/-! ### a locked dict -/
/-! ### for k in d, d.keys(), d.values(), d.items() -/
/-! ### enumerate(list) -/
/-- the list at a as it stands at each turn, each item in a new pair -/
def Ite (K : PySem.W.Frag) (a : Addr) : It :=
  ⟨fun i H => ∃ (xs : List V) (x : V), SqL K H a xs ∧ xs[i]? = some x, fun i H v H' => ∃ T x, v = .ref T ∧ H T = none ∧ H' = upd H T (.tup [.int (i : Nat), x]) ∧ ∀ xs, SqL K H a xs → xs[i]? = some x, fun i H => ∃ xs : List V, SqL K H a xs ∧ xs.length ≤ i⟩
theorem turn_enum {P : Program} {w : World} {K : PySem.W.Frag} {elts : List Expr} {kk : Nat} {tpos : Pos} (a e it : Addr) :
    Turn P w K (.Tuple elts kk tpos) (Ite K a) [e, it] e (fun i h => (∃ old, IsEnum h e it ((i : Nat) : Int) old) ∧ h.IsListIter it a i ∧ e ≠ it) where
  mem := by simp
  obj := fun i h st b hb => by
    obtain ⟨⟨old, he⟩, ⟨o, ho, hc, hd⟩, _⟩ := st
    have e' : b = e ∨ b = it := by simpa using hb
    rcases e' with z | z
    · rw [z]; exact ⟨_, he, fun v q => nomatch q⟩
    · rw [z]; exact ⟨o, ho, fun v q => by rw [hd] at q; cases q⟩
  keep := fun i h h' st k => let ⟨⟨old, he⟩, hi, hne⟩ := st; ⟨⟨old, k e (by simp) _ he⟩, hi.at fun o q => k it (by simp) o q, hne⟩
  item := by
    intro X hP hw hK hc i pins s σ H E I hf st hg
    subst hP hw hK
    obtain ⟨⟨old, he⟩, hit, hne⟩ := st
    obtain ⟨xs, x, hq, hx⟩ := hg
    obtain ⟨its, rv, p, hz⟩ := I.list hq
    obtain ⟨u, hu, ru⟩ := rv.get hx
    have hel : e < s.heap.objs.size := Heap.lt_size he
    have hil : it < s.heap.objs.size := by obtain ⟨_, q, _⟩ := hit; exact Heap.lt_size q
    refine wpAny_pyNext_enum_item he hit p.isList (x := u) (by simpa using hu) hne fun h' ho hit' hT hsz hk => ?_
    refine ⟨_, rfl, wpAny_letOwnedTupleGo_enum (s := { s with heap := h', toks := s.toks + 1 }) ho fun h'' he' sb => ?_⟩
    have hT2 : h''.get? s.heap.objs.size = some { cls := .type "tuple", data := .seq #[.int i s.toks, u] } := (sb.2 _ (Nat.ne_of_gt hel)).trans hT
    have new : ObjOk X.prog X.w (upd H s.heap.objs.size (.tup [.int (i : Nat), x])) h'' s.heap.objs.size (.tup [.int (i : Nat), x]) :=
      ⟨by show 2 ≤ sizeLine; decide, [.int i s.toks, u], .cons ⟨_, rfl⟩ (.cons ru .nil), ⟨_, hT2, rfl, _, rfl⟩⟩
    have I1 : Inv X pins σ (upd H s.heap.objs.size (.tup [.int (i : Nat), x])) { s with heap := h'', toks := s.toks + 1 } :=
      I.turnedNew (ch := [e, it]) (fun b ob hb q => (sb.2 b (fun z => hb (by simp [z]))).trans (hk b ob (fun z => hb (by simp [z])) (fun z => hb (by simp [z])) q)) hf (Nat.le_refl _) new
    refine ⟨.ref s.heap.objs.size, _, I1, rfl, ⟨_, x, rfl, I.hok.fresh (Nat.le_refl _), rfl, fun ys hy => by rw [I.list_inj hy hq]; exact hx⟩, ⟨⟨u, ?_⟩, hit'.at fun o q => (sb.2 it (Ne.symm hne)).trans q, hne⟩, fun b hb => ?_⟩
    · have e1 : ((i + 1 : Nat) : Int) = (i : Int) + 1 := by omega
      rw [e1]; exact he'
    · have hb' : b < s.heap.objs.size := by
        have e' : b = e ∨ b = it := by simpa using hb
        rcases e' with z | z
        · rw [z]; exact hel
        · rw [z]; exact hil
      rw [upd_ne (Nat.ne_of_lt hb')]
      exact (hf b hb).1
  done := by
    intro X hP hw hK hc i pins s σ H E I hf st hg
    subst hP hw hK
    obtain ⟨⟨old, he⟩, hit, hne⟩ := st
    obtain ⟨xs, hq, hx⟩ := hg
    obtain ⟨its, rv, p, hz⟩ := I.list hq
    obtain ⟨f0, f1, f2, f3, f4, f5⟩ := hf it (by simp)
    have hl := rv.length
    exact wpAny_pyNext_enum_end (I.ok.hd hc) he hit p.isList (by simp; omega) fun h' eb => ⟨rfl, I.turned (t' := s.toks) (fun b o hb q => eb b o hb q) f0 f1 f3 f4 f5⟩
  self := fun A i s Q E st h => let ⟨⟨_, he⟩, _⟩ := st; wpAny_pyIter_enum he h
def iEnum (K : PySem.W.Frag) (ta : TA) : TI := fun σ H R => ta σ H fun vs H1 => ∃ a xs, vs = [.ref a] ∧ SqL K H1 a xs ∧ R (Ite K a) H1
theorem pi_enum {X : Cx} {e : Expr} {ta : TA} {p pos tpos : Pos} {elts : List Expr} {kk : Nat} (hg : Gl X "enumerate") (hm : X.mg "enumerate" = none) (ha : PA X [e] ta) (hs : starEach [e] X.env = [(false, eval e X.env)] := by rfl) :
    PI X (.Tuple elts kk tpos) (.Call (.Name "enumerate" p) [e] [] pos) (iEnum X.K ta) := by
  intro pins s σ H R I h
  refine Call_ (ld_blt I hg hm boot_enumerate (PyProof.Rows.callWith_type1 (thn (ha pos pins s σ H _ I h) fun us s1 ⟨vs, H1, I1, r1, q1⟩ => ?_) hs rfl))
  obtain ⟨a, xs, ex, hq, q⟩ := q1
  subst ex
  cases r1 with
  | cons r rr =>
    cases rr
    cases r
    obtain ⟨its, rv, p', hz⟩ := I1.list hq
    refine call_enumerate_list p'.isList fun h' he hit hsz hk => wpAny_pyIter_enum he ?_
    have I2 : Inv X pins σ H1 { s1 with heap := h' } := I1.kept (t' := s1.toks) hk
    refine ⟨s1.heap.objs.size + 1, [s1.heap.objs.size + 1, s1.heap.objs.size], _, _, H1, rfl, I2, turn_enum a (s1.heap.objs.size + 1) s1.heap.objs.size, ⟨⟨.none, he⟩, hit, Nat.succ_ne_self _⟩, fun b hb => ?_, q⟩
    have e' : b = s1.heap.objs.size + 1 ∨ b = s1.heap.objs.size := by simpa using hb
    have hle : s1.heap.objs.size ≤ b := by
      rcases e' with z | z
      · rw [z]; exact Nat.le_add_right _ _
      · rw [z]; exact Nat.le_refl _
    exact I1.fpOk hle (I1.hok.fresh hle)
/-! ### zip(list, list) -/
end L2
section 
namespace Bits
open PySem PyProof.Rows
end Bits
end 
section 
namespace TL
open PySem PySem.Builtin PySem.Builtin.Str PySem.StrLaws
/-! ### the list functions -/
/-! ### the model's split and partition are these -/
/-! ### computing spl and par -/
/-! ### digits -/
/-! ### words: x.split() -/
end TL
end 
namespace L2
open PySem PySem.Spec PyProof.Rows
section
variable {X : Cx}
/-! ### of a text alone -/
/-! ### of a text and a text -/
end
end L2
namespace L2
open PySem PySem.Spec PyProof.Rows
/-! ### slices of a text -/
end L2
namespace Att
open PySem PySem.W PySem.Calls PyProof.Rows
/-! ### the script -/
theorem ints_of_wellAll {P : Params} {h : Heap} : ∀ (ns : List Int) (vs : List Value), WellAll P h vs (ns.map WData.int) → IntsAre vs ns := by
  intro ns
  induction ns with
  | nil =>
    intro vs w
    rw [List.map_nil] at w
    cases w
    exact .nil
  | cons n ns ih =>
    intro vs w
    rw [List.map_cons] at w
    cases w with
    | cons a b =>
      cases a
      exact .cons _ _ (ih _ b)
/-! ### the attachment: holds_open's last premise (the goal 'hc' behind k_head) from a wpAny of the law's body -/
/-! ### rules over ANY heap (no ledger) from facts about the written part K: the library's own take a ledger (News) for what they write -/
section
variable {prog : Program} {w : World} {A : Around} {E : Value → Shared → Prop} {s : Shared} {K : Frag}
/-! the whole heap as the ledger: makes every rule that writes through a ledger a rule over any heap -/
end
end Att
namespace L2
open PySem PySem.Spec PyProof.Rows
theorem vals_ints : ∀ {vs : List Value} {ns : List Int}, IntsAre vs ns → Vals (ns.map V.int) vs
  | _, _, .nil => .nil
  | _, _, .cons n t h => .cons ⟨t, rfl⟩ (vals_ints h)
/-- nothing is tracked but the script, known to the object (or it is an object of the module) -/
def Only (H : Hp) : Prop := ∀ b, H b = none ∨ ∃ o xs, H b = some (.frz o (.lst xs))
end L2
namespace L2
open PySem PySem.Spec PyProof.Rows
end L2
/- THE LAST THEOREM (shape; LID, My.* are yours):
   My.Adr: a structure of the addresses that your layer names (classes, functions); My.Txt K t: a structure (Prop) of the equations over K;
   My.txt_mk : {K} {implicit addresses ..} (e1 : nsIn K mainGlobals "law" = some (some (.ref f))) (e2 : K.lookup f = some ⟨oc, od, .func (fnOf "law" "law" params body scope dV kV doc pm an cdv ct), sl⟩) (e3 : codeIn K cdv "law" = true) .. : ∃ t, My.Txt K t
set_option maxRecDepth 100000 in
set_option maxHeartbeats 0 in
theorem PySem.Challenge.cw_LID_holds : PySem.Challenge.rw_LID.Holds := by
  w_on; o_law; k_head; (case hw => w_witness2)
  k_fill
  refine L2.walk_of (l := PySem.Challenge.rw_LID) (n := 63) (k := 40) (x := "script") (CX := fun w => ..) (sp := fun _ => My.sp_law) rfl (by decide) rfl ⟨rfl, by decide, by decide⟩ (fun w h Y => PySem.W.kIn_of Y) ?F ?S ?C
  case F =>
    intro w mg fa h KX G hmg
    have T : ∃ t, My.Txt (L2.KOf KX) t := by
      dsimp only [L2.KOf]                          -- K must stand as «<heap const> w.params» for k_is
      refine' My.txt_mk ?e1 ?e2 ?e3 ..
      (case e1 => PySem.W.k_is)                    -- in the order: a name -> its address -> its object -> its parts
      (case e2 => PySem.W.k_is)
      ..
    obtain ⟨t, T⟩ := T
    have e0 := hmg.symm.trans (PySem.W.mg_of KX G T.law)
    cases e0                                       -- fa is the law's own address
    exact ⟨_, fun s u => .of_eq rfl, fun base kb nb => My.law_fn T kb nb⟩     -- if «.of_eq rfl» comes too early: refine' ⟨_, ?b, fun base kb nb => My.law_fn T kb nb⟩; exact fun s u => .of_eq rfl
  case S => exact fun w H a ns hl hO hS => ..
  case C => exact ..
(the tactic k_is has no namespace: write k_is) -/
/-! SHORT WORDS over the layer: a def of the text, its body, what a loop and a test want. -/
namespace L2
open PySem PySem.Spec PyProof.Rows
/-! ### the text by places -/
/-- the j-th statement of a class's body -/
def inClass (s : Stmt) (j : Nat) : Stmt := match s with
  | .ClassDef _ _ _ body _ _ _ _ _ _ _ => body.getD j (.Pass ⟨0, 0, 0, 0⟩)
  | _ => .Pass ⟨0, 0, 0, 0⟩
def defArgs (s : Stmt) : Arguments := match s with
  | .FunctionDef _ a _ _ _ _ _ _ _ _ => a
  | _ => { posonlyargs := [], args := [], vararg := none, kwonlyargs := [], kw_defaults := [], kwarg := none, defaults := [] }
def defBody (s : Stmt) : List Stmt := match s with
  | .FunctionDef _ _ b _ _ _ _ _ _ _ => b
  | _ => []
def defScope (s : Stmt) : Scope := match s with
  | .FunctionDef _ _ _ _ _ _ sc _ _ _ => sc
  | _ => { kind := .function, names := [], isGenerator := false, isCoroutine := false }
/-! ### no exception leaves a def -/
abbrev CX0 : CXT := fun _ _ _ _ _ _ => False
abbrev E0 : XK := fun _ _ _ => False
theorem pass0 {X : Cx} : Passes CX0 X E0 := fun _ _ _ _ _ _ _ h => h.elim
/-! ### a def (or method) of the text as it stands behind the top -/
structure Fun (K : PySem.W.Frag) (x qual : Str) (st : Stmt) (f : Addr) (fd : FuncData) : Prop where
  ex : ∃ (oc : Value) (od : Option Addr) (kV doc pm : Value) (an : Option Addr) (cdv ct : Value) (osl : Array (Option Value)),
    fd = PySem.W.fnOf x qual (defArgs st) (defBody st) (defScope st) .none kV doc pm an cdv ct ∧ K.lookup f = some ⟨oc, od, .func fd, osl⟩ ∧ PySem.W.codeIn K cdv qual = true
  kp : PySem.W.keepIn K (.ref f) = true
section
variable {P : Program} {w : World} {K : PySem.W.Frag} {mg : Str → Option Value} {base : Heap}
/-- THE RULE for a def: its body as a term of rules, and the reading of that term -/
theorem Fun.ok {x qual : Str} {st : Stmt} {f : Addr} {fd : FuncData} {N ps : List Str} {k : Nat} {sp : Sp} (F : Fun K x qual st f fd) (S : FnScope N ps (defScope st)) (len : ∀ vs H Q E, sp vs H Q E → vs.length = ps.length)
    (hbody : ∀ (cdv : Value) (A : Around) (outer : List Env) (s : Shared) (H : Hp) (vs : List V) (Q : VK) (E : XK), Room k (A.deeper (envOfC qual (defScope st) s.heap.objs.size f cdv)) → sp vs H Q E →
      ∃ t, PSs (cxOf CX0 P w K mg base N qual (defScope st) f cdv A outer s H E).nox (defBody st) t ∧ t { nx := fun _ H' => Q .non H', rt := Q } (start N vs) H) : FnOk P w K mg base CX0 (k + 1) f fd ps sp := by
  obtain ⟨oc, od, kV, doc, pm, an, cdv, ct, osl, rfl, lk, hcd⟩ := F.ex
  refine fn_of lk hcd S len fun A outer s H vs Q E hr hsp => ?_
  obtain ⟨t, h, q⟩ := hbody cdv A outer s H vs Q E hr hsp
  exact ⟨t, h.nox, q⟩
/-- how its arguments bind (no defaults): h is «fun _ _ _ _ _ _ us hl => match us, hl with | [_, _], _ => rfl», one _ a parameter -/
theorem Fun.binds {x qual : Str} {st : Stmt} {f : Addr} {fd : FuncData} {ps : List Str} (F : Fun K x qual st f fd)
    (h : ∀ (kV doc pm : Value) (an : Option Addr) (cdv ct : Value) (us : List Value), us.length = ps.length → bindArgs (PySem.W.fnOf x qual (defArgs st) (defBody st) (defScope st) .none kV doc pm an cdv ct) ⟨us, []⟩ = pure (ps.zip us)) : Binds K fd ps [] := by
  obtain ⟨oc, od, kV, doc, pm, an, cdv, ct, osl, rfl, lk, hcd⟩ := F.ex
  exact .all (h kV doc pm an cdv ct)
theorem fun_mk {x qual : Str} {st : Stmt} {f : Addr} {oc : Value} {od an : Option Addr} {osl : Array (Option Value)} {kV doc pm cdv ct : Value} (l : K.lookup f = some ⟨oc, od, .func (PySem.W.fnOf x qual (defArgs st) (defBody st) (defScope st) .none kV doc pm an cdv ct), osl⟩)
    (c : PySem.W.codeIn K cdv qual = true) (k : PySem.W.keepIn K (.ref f) = true) : Fun K x qual st f (PySem.W.fnOf x qual (defArgs st) (defBody st) (defScope st) .none kV doc pm an cdv ct) := ⟨⟨oc, od, kV, doc, pm, an, cdv, ct, osl, rfl, l, c⟩, k⟩
end
/-! ### expressions in short: the name that stands in the i-th slot -/
section
variable {X : Cx}
theorem pv (i : Nat) {x : Str} {pos : Pos} (hN : X.N[i]? = some x := by rfl) (hv : Vis X.env.scope x := by first | exact Or.inl rfl | exact Or.inr (Or.inl rfl) | exact Or.inr (Or.inr rfl)) (hd : (x == ("__debug__" : Str)) = false := by decide)
    (hcd : (x == ("__classdict__" : Str)) = false := by decide) : PE X (.Name x pos) (tVar i) := pe_var hN hv hd hcd
end
/-! ### tests -/
theorem iteF {A B : Prop} (h : B) : if false = true then A else B := by
  rw [if_neg Bool.false_ne_true]
  exact h
theorem iteT {A B : Prop} (h : A) : if true = true then A else B := by
  rw [if_pos rfl]
  exact h
theorem ite2 {c A B : Prop} [Decidable c] (h1 : c → A) (h2 : ¬ c → B) : if c then A else B := by
  by_cases h : c
  · rw [if_pos h]
    exact h1 h
  · rw [if_neg h]
    exact h2 h
/-! ### heaps -/
/-- all that was tracked is as it was -/
def Same (H H' : Hp) : Prop := ∀ b o, H b = some o → H' b = some o
theorem Same.trans {H H1 H2 : Hp} (a : Same H H1) (b : Same H1 H2) : Same H H2 := fun c o h => b c o (a c o h)
/-! ### lists -/
theorem at_of {xs : List V} {z : Int} {j : Nat} {v : V} (e : z = (j : Int)) (h : xs[j]? = some v) : atI xs z = some v := by
  rw [e]
  exact atI_nat h
end L2
set_option maxRecDepth 100000
namespace Sx
open Ql50
theorem M60v : M60 = 1152921504606846975 := by decide
theorem M18v : M18 = 262143 := rfl
theorem neg60 (w : Nat) : negative M60 w = decide (576460752303423488 ≤ w) := by
  unfold negative; rw [M60v]; rfl
theorem neg18 (w : Nat) : negative M18 w = decide (131072 ≤ w) := by
  unfold negative; rw [M18v]; rfl
theorem size_le (w : Nat) (h : w < 2 ^ 60) : size M60 w < 576460752303423488 := by
  unfold size; rw [neg60]; rw [M60v]
  by_cases c : 576460752303423488 ≤ w
  · rw [if_pos (decide_eq_true c)]; omega
  · rw [if_neg (by simpa using c)]; omega
theorem expo_lt (w : Nat) (h : w < 2 ^ 60) : exponent w < 2048 := by
  have := size_le w h
  unfold exponent
  omega
theorem plus_eq (m a b : Nat) (h : b ≤ m) : plus m a b = if m ≤ a + b then a + b - m else a + b := by
  unfold plus
  by_cases c : m ≤ a + b
  · rw [if_pos c, if_pos (by omega)]; omega
  · rw [if_neg c, if_neg (by omega)]; omega
theorem minus_eq (m a b : Nat) (h : b ≤ m) : minus m a b = if b ≤ a then a - b else a + m - b := by
  unfold minus
  rw [plus_eq m a (m - b) (by omega)]
  by_cases c : b ≤ a
  · rw [if_pos c, if_pos (by omega)]; omega
  · rw [if_neg c, if_neg (by omega)]; omega
theorem plus_le (m a b : Nat) (ha : a ≤ m) (h : b ≤ m) : plus m a b ≤ m := by
  rw [plus_eq m a b h]; split <;> omega
theorem minus_le (m a b : Nat) (ha : a ≤ m) (h : b ≤ m) : minus m a b ≤ m := by
  unfold minus; exact plus_le m a _ ha (by omega)
theorem wide_lt (a : Nat) (h : a ≤ 262143) : wide a < 2 ^ 60 := by
  unfold wide; rw [M60v, M18v]; split <;> omega
theorem signed_lt (s : Bool) (w : Nat) (h : w < 2 ^ 60) : signed s w < 2 ^ 60 := by
  unfold signed; rw [M60v]; split <;> omega
/-! masks -/
theorem and_mask (x n : Nat) : x &&& (2 ^ n - 1) = x % 2 ^ n := Nat.and_two_pow_sub_one_eq_mod x n
theorem or_low (a b n : Nat) (h : b < 2 ^ n) : (a * 2 ^ n) ||| b = a * 2 ^ n + b := by
  rw [Nat.mul_comm]; exact (Nat.two_pow_add_eq_or_of_lt h a).symm
theorem left_eq (w n : Nat) (hw : w < 2 ^ 60) : ((w * 2 ^ (n % 60)) ||| (w / 2 ^ (60 - n % 60))) &&& (2 ^ 60 - 1) = left w n := by
  have hk : n % 60 < 60 := Nat.mod_lt _ (by decide)
  unfold left
  show _ = w * 2 ^ (n % 60) % 2 ^ 60 + w / 2 ^ (60 - n % 60)
  generalize n % 60 = t at hk ⊢
  have e60 : (2 : Nat) ^ 60 = 2 ^ (60 - t) * 2 ^ t := by rw [← Nat.pow_add]; congr 1; omega
  have hq : w / 2 ^ (60 - t) < 2 ^ t := by
    rw [Nat.div_lt_iff_lt_mul (Nat.two_pow_pos _)]
    rw [Nat.mul_comm, ← e60]; exact hw
  have hA : w * 2 ^ t % 2 ^ 60 = w % 2 ^ (60 - t) * 2 ^ t := by
    rw [e60, Nat.mul_mod_mul_right]
  rw [Nat.and_two_pow_sub_one_eq_mod, Nat.or_mod_two_pow, hA, Nat.mod_eq_of_lt (Nat.lt_of_lt_of_le hq (Nat.pow_le_pow_right (by decide) (by omega)))]
  exact or_low _ _ _ hq
theorem left_lt (w n : Nat) (hw : w < 2 ^ 60) : left w n < 2 ^ 60 := by
  rw [← left_eq w n hw, and_mask]; exact Nat.mod_lt _ (Nat.two_pow_pos _)
theorem right_eq (w n : Nat) : right w n = signed (negative M60 w) (size M60 w / 2 ^ n) := by
  unfold right signed size
  by_cases c : negative M60 w = true
  · rw [if_pos c, if_pos c, if_pos c]
  · rw [if_neg c, if_neg c, if_neg c]
theorem right_lt (w n : Nat) (hw : w < 2 ^ 60) : right w n < 2 ^ 60 := by
  rw [right_eq]
  exact signed_lt _ _ (Nat.lt_of_le_of_lt (Nat.div_le_self _ _) (Nat.lt_trans (size_le w hw) (by decide)))
/-! ones -/
theorem ones_zero : ∀ k, ones k 0 = 0
  | 0 => rfl
  | k + 1 => by show 0 % 2 + ones k (0 / 2) = 0; rw [Nat.zero_div, ones_zero k]
theorem ones_drop : ∀ k x, 0 < x → x < 2 ^ k → ones k (x &&& (x - 1)) + 1 = ones k x
  | 0, x, h1, h2 => by simp at h2; omega
  | k + 1, x, h1, h2 => by
    show (x &&& (x - 1)) % 2 + ones k ((x &&& (x - 1)) / 2) + 1 = x % 2 + ones k (x / 2)
    have hdiv : (x &&& (x - 1)) / 2 = (x / 2) &&& ((x - 1) / 2) := by
      have := Nat.and_div_two_pow (a := x) (b := x - 1) (n := 1)
      simpa using this
    have hmod : (x &&& (x - 1)) % 2 = (x % 2) &&& ((x - 1) % 2) := by
      have := Nat.and_mod_two_pow (a := x) (b := x - 1) (n := 1)
      simpa using this
    by_cases c : x % 2 = 1
    · have e1 : (x - 1) % 2 = 0 := by omega
      have e2 : (x - 1) / 2 = x / 2 := by omega
      rw [hdiv, hmod, c, e1, e2, Nat.and_self, Nat.and_zero]
      omega
    · have c0 : x % 2 = 0 := by omega
      have e2 : (x - 1) / 2 = x / 2 - 1 := by omega
      rw [hdiv, hmod, c0, e2, Nat.zero_and]
      have := ones_drop k (x / 2) (by omega) (by rw [Nat.pow_succ] at h2; omega)
      omega
theorem ones_le : ∀ k x, ones k x ≤ k
  | 0, _ => Nat.le_refl _
  | k + 1, x => by show x % 2 + ones k (x / 2) ≤ k + 1; have := ones_le k (x / 2); omega
/-! exponent field -/
theorem xor_bit10 (f : Nat) (h : f < 2048) : f ^^^ 1024 = if f < 1024 then f + 1024 else f - 1024 := by
  have : ∀ f : Fin 2048, f.val ^^^ 1024 = if f.val < 1024 then f.val + 1024 else f.val - 1024 := by decide +kernel
  exact this ⟨f, h⟩
theorem or_774000 (t : Nat) (h : t < 2048) : t ||| 260096 = t + 260096 := by
  have := or_low 127 t 11 h
  rw [Nat.or_comm, show (260096 : Nat) = 127 * 2 ^ 11 from rfl, this]; omega
/-! masks of ones above -/
theorem upper_eq (n : Nat) : 1152921504606846975 - 1152921504606846975 / 2 ^ n = M60 - (2 ^ (60 - min n 60) - 1) := by
  rw [M60v]
  congr 1
  by_cases c : n < 60
  · rw [Nat.min_eq_left (by omega)]
    have : ∀ k : Fin 60, 1152921504606846975 / 2 ^ k.val = 2 ^ (60 - k.val) - 1 := by decide +kernel
    exact this ⟨n, c⟩
  · rw [Nat.min_eq_right (by omega)]
    have : 1152921504606846975 / 2 ^ n = 0 := Nat.div_eq_of_lt (Nat.lt_of_lt_of_le (by decide : 1152921504606846975 < 2 ^ 60) (Nat.pow_le_pow_right (by decide) (by omega)))
    rw [this]
/-! a word -/
theorem word_lt (n : Num) (h : ∀ s c e, n = .finite s c e → c < 2 ^ 48) : word n < 2 ^ 60 := by
  cases n with
  | infinite s => exact signed_lt _ _ (by decide)
  | indefinite => show 1023 * 2 ^ 48 < 2 ^ 60; decide
  | finite s c e =>
    have hc := h s c e rfl
    show (if c = 0 ∨ e < -1023 then 0 else if 1022 < e then signed s (2047 * 2 ^ 48) else signed s ((if e < 0 then e + 1023 else e + 1024).toNat * 2 ^ 48 + c)) < 2 ^ 60
    split
    · decide
    · split
      · exact signed_lt _ _ (by decide)
      · apply signed_lt
        have : (if e < 0 then e + 1023 else e + 1024).toNat < 2048 := by split <;> omega
        omega
theorem coef_lt (w : Nat) : size M60 w % 2 ^ 48 < 2 ^ 48 := Nat.mod_lt _ (by decide)
end Sx
set_option maxRecDepth 100000
namespace Sx
open Ql50
/-- the exponent that a field tells -/
def expo (f : Nat) : Int := if 1024 ≤ f then (f : Int) - 1024 else (f : Int) - 1023
def coef (w : Nat) : Nat := size M60 w % 2 ^ 48
theorem coef_lt48 (w : Nat) : coef w < 2 ^ 48 := coef_lt w
theorem num_inf {w : Nat} (h : exponent w = 2047) : num w = .infinite (negative M60 w) := by
  unfold num; rw [h]; rfl
theorem num_ind {w : Nat} (h : exponent w = 1023) : num w = .indefinite := by
  unfold num; rw [h]; rfl
theorem num_fin {w : Nat} (h1 : exponent w ≠ 2047) (h2 : exponent w ≠ 1023) : num w = .finite (negative M60 w) (coef w) (expo (exponent w)) := by
  unfold num
  show (if exponent w = 2047 then _ else if exponent w = 1023 then _ else Num.finite (negative M60 w) (size M60 w % 2 ^ 48) (if exponent w < 1023 then (exponent w : Int) - 1023 else (exponent w : Int) - 1024)) = _
  rw [if_neg h1, if_neg h2]
  congr 1
  unfold expo
  by_cases c : exponent w < 1023
  · rw [if_pos c, if_neg (by omega)]
  · rw [if_neg c, if_pos (by omega)]
theorem size_compl (w : Nat) (h : w < 2 ^ 60) : size M60 (1152921504606846975 - w) = size M60 w := by
  unfold size; rw [neg60, neg60, M60v]
  by_cases c : 576460752303423488 ≤ w
  · rw [decide_eq_true c, decide_eq_false (show ¬ 576460752303423488 ≤ 1152921504606846975 - w by omega), if_pos rfl, if_neg (by decide)]
  · rw [decide_eq_false c, decide_eq_true (show 576460752303423488 ≤ 1152921504606846975 - w by omega), if_pos rfl, if_neg (by decide)]; omega
theorem neg_compl (w : Nat) (h : w < 2 ^ 60) : negative M60 (1152921504606846975 - w) = !negative M60 w := by
  rw [neg60, neg60]
  by_cases c : 576460752303423488 ≤ w
  · rw [decide_eq_true c, decide_eq_false (by omega)]; rfl
  · rw [decide_eq_false c, decide_eq_true (by omega)]; rfl
theorem expo_compl (w : Nat) (h : w < 2 ^ 60) : exponent (1152921504606846975 - w) = exponent w := by
  unfold exponent; rw [size_compl w h]
theorem num_compl (w : Nat) (h : w < 2 ^ 60) : num (1152921504606846975 - w) = negate (num w) := by
  by_cases h1 : exponent w = 2047
  · rw [num_inf h1, num_inf ((expo_compl w h).trans h1), neg_compl w h]; rfl
  · by_cases h2 : exponent w = 1023
    · rw [num_ind h2, num_ind ((expo_compl w h).trans h2)]; rfl
    · rw [num_fin h1 h2, num_fin (by rw [expo_compl w h]; exact h1) (by rw [expo_compl w h]; exact h2), neg_compl w h, expo_compl w h]
      unfold coef
      rw [size_compl w h]; rfl
theorem expo_max (a b : Nat) (ha : a ≠ 1023) (hb : b ≠ 1023) : expo (if b > a then b else a) = max (expo a) (expo b) := by
  unfold expo
  by_cases c : b > a
  · rw [if_pos c]
    by_cases h1 : 1024 ≤ a
    · rw [if_pos h1, if_pos (by omega)]; omega
    · rw [if_neg h1]
      by_cases h2 : 1024 ≤ b
      · rw [if_pos h2]; omega
      · rw [if_neg h2]; omega
  · rw [if_neg c]
    by_cases h1 : 1024 ≤ a
    · rw [if_pos h1]
      by_cases h2 : 1024 ≤ b
      · rw [if_pos h2]; omega
      · rw [if_neg h2]; omega
    · rw [if_neg h1, if_neg (by omega)]; omega
/-! halves -/
def half0 (h : Half) (s : Bool) (c : Nat) (e : Int) : Num := match h with
  | .upper => .finite s (c / 2 ^ 48) (e + 48)
  | .lower => .finite s (c % 2 ^ 48) e
  | .rounded => if 2 ^ 48 ≤ c / 2 ^ 48 + c / 2 ^ 47 % 2 then .finite s ((c / 2 ^ 48 + c / 2 ^ 47 % 2) / 2) (e + 49) else .finite s (c / 2 ^ 48 + c / 2 ^ 47 % 2) (e + 48)
theorem half_ge {h : Half} {s : Bool} {c : Nat} {e : Int} (g : 2 ^ 96 ≤ c) : half h s c e = half0 h s (c / 2) (e + 1) := by
  unfold half; rw [if_pos g]; cases h <;> rfl
theorem half_lt {h : Half} {s : Bool} {c : Nat} {e : Int} (g : ¬ 2 ^ 96 ≤ c) : half h s c e = half0 h s c e := by
  unfold half; rw [if_neg g]; cases h <;> rfl
def hN : Half → Nat
  | .upper => 0
  | .lower => 1
  | .rounded => 2
/-! sums -/
def ali (s : Bool) (c n : Nat) : Int := if s = true then -((c * 2 ^ 48 / 2 ^ n : Nat) : Int) else ((c * 2 ^ 48 / 2 ^ n : Nat) : Int)
theorem ali_small {s : Bool} {c n : Nat} (h : c < 2 ^ 48) : (ali s c n).natAbs < 2 ^ 96 := by
  have : c * 2 ^ 48 / 2 ^ n < 2 ^ 96 := Nat.lt_of_le_of_lt (Nat.div_le_self _ _) (by omega)
  unfold ali; split
  · rw [Int.natAbs_neg, Int.natAbs_natCast]; exact this
  · rw [Int.natAbs_natCast]; exact this
theorem add_fin {h : Half} {s t : Bool} {c d : Nat} {e f g : Int} (hg : g = max e f) :
    add h (.finite s c e) (.finite t d f) = half h (decide (ali s c (g - e).toNat + ali t d (g - f).toNat < 0)) (ali s c (g - e).toNat + ali t d (g - f).toNat).natAbs (g - 48) := by
  subst hg; rfl
/-! products -/
theorem mul_fin {h : Half} {s t : Bool} {c d : Nat} {e f : Int} :
    mul h (.finite s c e) (.finite t d f) = if 2 ^ 47 ≤ c ∧ 2 ^ 47 ≤ d ∧ c * d < 2 ^ 95 then half h (s != t) (2 * (c * d)) (e + f - 1) else half h (s != t) (c * d) (e + f) := rfl
theorem mul_small {c d : Nat} (hc : c < 2 ^ 48) (hd : d < 2 ^ 48) : c * d < 2 ^ 96 := by
  have : c * d < 2 ^ 48 * 2 ^ 48 := Nat.mul_lt_mul_of_lt_of_lt hc hd
  omega
theorem half_word_lt {h : Half} {s : Bool} {c : Nat} {e : Int} (g : c < 2 ^ 97) : word (half h s c e) < 2 ^ 60 := by
  apply word_lt
  intro s' c' e' q
  have key : ∀ {c0 : Nat} {e0 : Int}, c0 < 2 ^ 96 → half0 h s c0 e0 = .finite s' c' e' → c' < 2 ^ 48 := by
    intro c0 e0 h0 q
    cases h with
    | upper => injection q with _ q _; omega
    | lower => injection q with _ q _; omega
    | rounded =>
      unfold half0 at q
      simp only at q
      split at q
      · injection q with _ q _; omega
      · injection q with _ q _; omega
  by_cases k : 2 ^ 96 ≤ c
  · rw [half_ge k] at q; exact key (by omega) q
  · rw [half_lt k] at q; exact key (by omega) q
/-! quotients -/
def quo (r s : Bool) (c d : Nat) (e : Int) : Num :=
  let k : Nat := if c < d then 48 else 47
  let q := (c * 2 ^ k + if r = true then d / 2 else 0) / d
  if 2 ^ 48 < q ∨ (q = 2 ^ 48 ∧ r = false) then .indefinite
  else if q = 2 ^ 48 then .finite s (2 ^ 47) (e - k + 1)
  else .finite s q (e - k)
theorem div_fin {r s t : Bool} {c d : Nat} {e f : Int} (hd : d ≠ 0) : div r (.finite s c e) (.finite t d f) = quo r (s != t) c d (e - f) := by
  show (if d = 0 then _ else _) = _
  rw [if_neg hd]; rfl
theorem quo_word_lt (r s : Bool) (c d : Nat) (e : Int) : word (quo r s c d e) < 2 ^ 60 := by
  apply word_lt
  intro s' c' e' q
  unfold quo at q
  simp only at q
  generalize (c * 2 ^ (if c < d then 48 else 47) + if r = true then d / 2 else 0) / d = z at q
  generalize (((if c < d then 48 else 47 : Nat) : Nat) : Int) = k at q
  split at q
  · cases q
  · rename_i h1
    split at q
    · injection q with _ q _; omega
    · rename_i h2
      injection q with _ q _
      have : ¬ 2 ^ 48 < z := fun k => h1 (.inl k)
      omega
/-! normalized -/
theorem lead_eq (c : Nat) (h : c < 2 ^ 48) : lead c = 48 - (if c = 0 then 0 else c.log2 + 1) := by
  unfold lead
  by_cases c0 : c = 0
  · rw [if_pos c0, if_pos c0]
  · rw [if_neg c0, if_neg c0]; omega
theorem log2_lt48 (c : Nat) (h : c < 2 ^ 48) (c0 : c ≠ 0) : c.log2 < 48 := (Nat.log2_lt c0).mpr h
theorem norm_lt (c : Nat) (h : c < 2 ^ 48) (c0 : c ≠ 0) : c * 2 ^ lead c + 2 ^ lead c ≤ 2 ^ 48 := by
  have h1 := log2_lt48 c h c0
  have h2 : c < 2 ^ (c.log2 + 1) := Nat.lt_log2_self
  rw [lead_eq c h, if_neg c0]
  have : (c + 1) * 2 ^ (48 - (c.log2 + 1)) ≤ 2 ^ (c.log2 + 1) * 2 ^ (48 - (c.log2 + 1)) := Nat.mul_le_mul_right _ h2
  rw [← Nat.pow_add, show c.log2 + 1 + (48 - (c.log2 + 1)) = 48 by omega, Nat.add_mul, Nat.one_mul] at this
  exact this
theorem norm_or (c n : Nat) (h : 0 < n) : (c * 2 ^ n) ||| 2 ^ (n - 1) = c * 2 ^ n + 2 ^ (n - 1) :=
  or_low c _ n (Nat.pow_lt_pow_right (by decide) (by omega))
theorem normal_inf {r : Bool} {w : Nat} (h : exponent w = 2047 ∨ exponent w = 1023) : normal r w = (w, 0) := by
  unfold normal
  rcases h with h | h
  · rw [num_inf h]
  · rw [num_ind h]
theorem normal_fin {r : Bool} {w : Nat} (h1 : exponent w ≠ 2047) (h2 : exponent w ≠ 1023) : normal r w = if coef w = 0 then (0, 48) else
    (word (.finite (negative M60 w) (coef w * 2 ^ lead (coef w) + if r = true ∧ 0 < lead (coef w) then 2 ^ (lead (coef w) - 1) else 0) (expo (exponent w) - lead (coef w))), lead (coef w)) := by
  unfold normal
  rw [num_fin h1 h2]
theorem normal_snd (r : Bool) (w : Nat) : (normal r w).2 = if exponent w = 2047 ∨ exponent w = 1023 then 0 else lead (coef w) := by
  by_cases h : exponent w = 2047 ∨ exponent w = 1023
  · rw [normal_inf h, if_pos h]
  · rw [if_neg h, normal_fin (fun e => h (.inl e)) (fun e => h (.inr e))]
    by_cases c : coef w = 0
    · rw [if_pos c]; unfold lead; rw [if_pos c]
    · rw [if_neg c]
theorem normal_lt (r : Bool) (w : Nat) (hw : w < 2 ^ 60) : (normal r w).1 < 2 ^ 60 ∧ (normal r w).2 ≤ 48 := by
  refine ⟨?_, by rw [normal_snd]; unfold lead; split <;> (try split) <;> omega⟩
  by_cases h : exponent w = 2047 ∨ exponent w = 1023
  · rw [normal_inf h]; exact hw
  · rw [normal_fin (fun e => h (.inl e)) (fun e => h (.inr e))]
    by_cases c : coef w = 0
    · rw [if_pos c]; show 0 < 2 ^ 60; decide
    · rw [if_neg c]
      dsimp only
      refine word_lt _ ?_
      intro s' c' e' q
      injection q with _ q _
      have := norm_lt (coef w) (coef_lt48 w) c
      have h3 : ∀ n, 0 < n → 2 ^ (n - 1) < 2 ^ n := fun n hn => Nat.pow_lt_pow_right (by decide) (by omega)
      rw [← q]
      split
      · rename_i k; have := h3 _ k.2; omega
      · have := Nat.two_pow_pos (lead (coef w)); omega
/-! words of results -/
theorem add_word_lt (h : Half) (a b : Nat) : word (add h (num a) (num b)) < 2 ^ 60 := by
  by_cases a1 : exponent a = 1023
  · rw [num_ind a1]; show 1023 * 2 ^ 48 < 2 ^ 60; decide
  by_cases b1 : exponent b = 1023
  · rw [num_ind b1]; have : add h (num a) .indefinite = .indefinite := by cases num a <;> rfl
    rw [this]; show 1023 * 2 ^ 48 < 2 ^ 60; decide
  by_cases a2 : exponent a = 2047
  · rw [num_inf a2]
    by_cases b2 : exponent b = 2047
    · rw [num_inf b2]
      show word (if _ then _ else _) < _
      split
      · exact signed_lt _ _ (by decide)
      · show 1023 * 2 ^ 48 < 2 ^ 60; decide
    · rw [num_fin b2 b1]; exact signed_lt _ _ (by decide)
  · rw [num_fin a2 a1]
    by_cases b2 : exponent b = 2047
    · rw [num_inf b2]; exact signed_lt _ _ (by decide)
    · rw [num_fin b2 b1, add_fin rfl]
      apply half_word_lt
      have k1 := ali_small (s := negative M60 a) (n := (max (expo (exponent a)) (expo (exponent b)) - expo (exponent a)).toNat) (coef_lt48 a)
      have k2 := ali_small (s := negative M60 b) (n := (max (expo (exponent a)) (expo (exponent b)) - expo (exponent b)).toNat) (coef_lt48 b)
      generalize ali (negative M60 a) _ _ = u at k1 ⊢
      generalize ali (negative M60 b) _ _ = v at k2 ⊢
      omega
theorem addn_word_lt (h : Half) (a b : Nat) (hb : b < 2 ^ 60) : word (add h (num a) (negate (num b))) < 2 ^ 60 := by
  rw [← num_compl b hb]; exact add_word_lt h a _
theorem mul_word_lt (h : Half) (a b : Nat) : word (mul h (num a) (num b)) < 2 ^ 60 := by
  have hi : (1023 : Nat) * 2 ^ 48 < 2 ^ 60 := by decide
  by_cases a1 : exponent a = 1023
  · rw [num_ind a1]; exact hi
  by_cases b1 : exponent b = 1023
  · rw [num_ind b1]; have : mul h (num a) .indefinite = .indefinite := by cases num a <;> rfl
    rw [this]; exact hi
  by_cases a2 : exponent a = 2047
  · rw [num_inf a2]
    by_cases b2 : exponent b = 2047
    · rw [num_inf b2]; exact signed_lt _ _ (by decide)
    · rw [num_fin b2 b1]
      show word (if _ then _ else _) < _
      split
      · exact hi
      · exact signed_lt _ _ (by decide)
  · rw [num_fin a2 a1]
    by_cases b2 : exponent b = 2047
    · rw [num_inf b2]
      show word (if _ then _ else _) < _
      split
      · exact hi
      · exact signed_lt _ _ (by decide)
    · rw [num_fin b2 b1, mul_fin]
      have := mul_small (coef_lt48 a) (coef_lt48 b)
      split
      · exact half_word_lt (by omega)
      · exact half_word_lt (by omega)
theorem div_word_lt (r : Bool) (a b : Nat) : word (div r (num a) (num b)) < 2 ^ 60 := by
  have hi : (1023 : Nat) * 2 ^ 48 < 2 ^ 60 := by decide
  by_cases a1 : exponent a = 1023
  · rw [num_ind a1]; exact hi
  by_cases b1 : exponent b = 1023
  · rw [num_ind b1]; have : div r (num a) .indefinite = .indefinite := by cases num a <;> rfl
    rw [this]; exact hi
  by_cases a2 : exponent a = 2047
  · rw [num_inf a2]
    by_cases b2 : exponent b = 2047
    · rw [num_inf b2]; exact hi
    · rw [num_fin b2 b1]; exact signed_lt _ _ (by decide)
  · rw [num_fin a2 a1]
    by_cases b2 : exponent b = 2047
    · rw [num_inf b2]; show word (.finite _ 0 0) < _; exact word_lt _ (fun _ _ _ q => by injection q with _ q _; omega)
    · rw [num_fin b2 b1]
      by_cases d0 : coef b = 0
      · have e : ∀ (s t : Bool) (c d : Nat) (e f : Int), d = 0 → div r (.finite s c e) (.finite t d f) = if c = 0 then .indefinite else .infinite (s != t) := by
          intro s t c d e f hd
          show (if d = 0 then _ else _) = _
          rw [if_pos hd]
        rw [e _ _ _ _ _ _ d0]
        split
        · exact hi
        · exact signed_lt _ _ (by decide)
      · rw [div_fin d0]; exact quo_word_lt _ _ _ _ _
end Sx
set_option maxRecDepth 100000
namespace Sx
open Ql50
structure WF (m : St) : Prop where
  a : ∀ k, m.a k ≤ 262143
  b : ∀ k, m.b k ≤ 262143
  b0 : m.b 0 = 0
  x : ∀ k, m.x k < 2 ^ 60
  mem : ∀ k, m.mem k < 2 ^ 60
  p : m.p ≤ 262143
  q : m.q ≤ 3
theorem upd_all {P : Nat → Prop} {f : Nat → Nat} {i v : Nat} (h : ∀ k, P (f k)) (hv : P v) : ∀ k, P (upd f i v k) := fun k => by
  unfold upd; split
  · exact hv
  · exact h k
theorem WF.setX {m : St} (w : WF m) (i : Nat) {v : Nat} (h : v < 2 ^ 60) : WF (m.setX i v) :=
  ⟨w.a, w.b, w.b0, upd_all (P := fun z => z < 2 ^ 60) w.x h, w.mem, w.p, w.q⟩
theorem WF.setB {m : St} (w : WF m) (i : Nat) {v : Nat} (h : v ≤ 262143) : WF (m.setB i v) := by
  unfold St.setB
  split
  · exact w
  · rename_i hi
    exact ⟨w.a, upd_all (P := fun z => z ≤ 262143) w.b h, by show upd m.b i v 0 = 0; unfold upd; rw [if_neg (fun e => hi e.symm)]; exact w.b0, w.x, w.mem, w.p, w.q⟩
theorem WF.jump {m : St} (w : WF m) {k : Nat} (h : k ≤ 262143) : WF (m.jump k) := ⟨w.a, w.b, w.b0, w.x, w.mem, h, Nat.zero_le _⟩
theorem WF.setMem {m : St} (w : WF m) (i : Nat) {v : Nat} (h : v < 2 ^ 60) : WF { m with mem := upd m.mem i v } :=
  ⟨w.a, w.b, w.b0, w.x, upd_all (P := fun z => z < 2 ^ 60) w.mem h, w.p, w.q⟩
theorem WF.setA {m t : St} (w : WF m) (i : Nat) {v : Nat} (h : v ≤ 262143) (e : m.setA i v = some t) : WF t := by
  unfold St.setA at e
  split at e
  · cases e; exact ⟨upd_all (P := fun z => z ≤ 262143) w.a h, w.b, w.b0, w.x, w.mem, w.p, w.q⟩
  · split at e
    · cases e
    · split at e
      · cases e; exact ⟨upd_all (P := fun z => z ≤ 262143) w.a h, w.b, w.b0, upd_all (P := fun z => z < 2 ^ 60) w.x (w.mem v), w.mem, w.p, w.q⟩
      · cases e; exact ⟨upd_all (P := fun z => z ≤ 262143) w.a h, w.b, w.b0, w.x, upd_all (P := fun z => z < 2 ^ 60) w.mem (w.x i), w.p, w.q⟩
theorem M60' : M60 = 2 ^ 60 - 1 := rfl
theorem and_lt {x y n : Nat} (h : x < 2 ^ n) : x &&& y < 2 ^ n := Nat.lt_of_le_of_lt Nat.and_le_left h
theorem sum_le {m : St} (w : WF m) (f j k n : Nat) (hn : n ≤ 262143) : m.sum f j k n ≤ 262143 := by
  have hl : ∀ x, low18 x ≤ 262143 := fun x => by unfold low18; omega
  unfold St.sum
  split
  · exact plus_le _ _ _ (w.a j) hn
  · exact plus_le _ _ _ (w.b j) hn
  · exact plus_le _ _ _ (hl _) hn
  · exact plus_le _ _ _ (hl _) (w.b k)
  · exact plus_le _ _ _ (w.a j) (w.b k)
  · exact minus_le _ _ _ (w.a j) (w.b k)
  · exact plus_le _ _ _ (w.b j) (w.b k)
  · exact minus_le _ _ _ (w.b j) (w.b k)
theorem plus60_lt (a b : Nat) (ha : a < 2 ^ 60) (hb : b < 2 ^ 60) : plus M60 a b < 2 ^ 60 := by
  have := plus_le M60 a b (by rw [M60v]; omega) (by rw [M60v]; omega)
  have hm := M60v; omega
theorem minus60_lt (a b : Nat) (ha : a < 2 ^ 60) (hb : b < 2 ^ 60) : minus M60 a b < 2 ^ 60 := by
  have := minus_le M60 a b (by rw [M60v]; omega) (by rw [M60v]; omega)
  have hm := M60v; omega
theorem pack_lt (b w : Nat) : (if b % 2048 < 1024 then b % 2048 + 1024 else b % 2048 - 1024) * 2 ^ 48 + size M60 w % 2 ^ 48 < 2 ^ 60 := by
  have := coef_lt w
  split <;> omega
theorem unpackB_le (w : Nat) (h : w < 2 ^ 60) : (if exponent w < 1024 then exponent w + 1024 + (M18 - 2047) else exponent w - 1024) ≤ 262143 := by
  have := expo_lt w h
  rw [M18v]; split <;> omega
theorem act_wf {m t : St} (w : WF m) {here f i j k n : Nat} (hh : here < 65536) (hn : n ≤ 262143) (e : m.act here f i j k n = .ok t) : WF t := by
  have hc : ∀ x, M60 - x < 2 ^ 60 := fun x => by rw [M60v]; omega
  unfold St.act at e
  simp only at e
  split at e
  all_goals try (cases e; done)
  · split at e
    · cases e
    · split at e
      · cases e
      · rename_i h1 h2
        cases e
        unfold SIZE at h2
        exact (w.setMem n (by omega)).jump (by omega)
  · cases e; exact w.jump (plus_le _ _ _ (w.b i) hn)
  · cases e; split
    · exact w.jump hn
    · exact w
  · cases e; split
    · exact w.jump hn
    · exact w
  · cases e; split
    · exact w
    · exact w.jump hn
  · cases e; split
    · exact w
    · exact w.jump hn
  · cases e; split
    · exact w.jump hn
    · exact w
  · cases e; exact w.setX i (w.x j)
  · cases e; exact w.setX i (and_lt (w.x j))
  · cases e; exact w.setX i (Nat.or_lt_two_pow (w.x j) (w.x k))
  · cases e; exact w.setX i (Nat.xor_lt_two_pow (w.x j) (w.x k))
  · cases e; exact w.setX i (hc _)
  · cases e; exact w.setX i (and_lt (w.x j))
  · cases e; exact w.setX i (Nat.or_lt_two_pow (w.x j) (hc _))
  · cases e; exact w.setX i (Nat.xor_lt_two_pow (w.x j) (hc _))
  · cases e; exact w.setX i (left_lt _ _ (w.x i))
  · cases e; exact w.setX i (right_lt _ _ (w.x i))
  · cases e; refine w.setX i ?_; unfold byB; split
    · exact right_lt _ _ (w.x k)
    · exact left_lt _ _ (w.x k)
  · cases e; refine w.setX i ?_; unfold byB; split
    · exact right_lt _ _ (w.x k)
    · exact left_lt _ _ (w.x k)
  · cases e; have := normal_lt false _ (w.x k); exact (w.setX i this.1).setB j (by omega)
  · cases e; have := normal_lt true _ (w.x k); exact (w.setX i this.1).setB j (by omega)
  · cases e; exact (w.setX i (signed_lt _ _ (Nat.lt_trans (coef_lt _) (by decide)))).setB j (unpackB_le _ (w.x k))
  · cases e; exact w.setX i (signed_lt _ _ (pack_lt _ _))
  · cases e; exact w.setX i (add_word_lt _ _ _)
  · cases e; exact w.setX i (addn_word_lt _ _ _ (w.x k))
  · cases e; exact w.setX i (add_word_lt _ _ _)
  · cases e; exact w.setX i (addn_word_lt _ _ _ (w.x k))
  · cases e; exact w.setX i (add_word_lt _ _ _)
  · cases e; exact w.setX i (addn_word_lt _ _ _ (w.x k))
  · cases e; exact w.setX i (plus60_lt _ _ (w.x j) (w.x k))
  · cases e; exact w.setX i (minus60_lt _ _ (w.x j) (w.x k))
  · cases e; exact w.setX i (mul_word_lt _ _ _)
  · cases e; exact w.setX i (mul_word_lt _ _ _)
  · cases e; exact w.setX i (mul_word_lt _ _ _)
  · cases e; exact w.setX i (hc _)
  · cases e; exact w.setX i (div_word_lt _ _ _)
  · cases e; exact w.setX i (div_word_lt _ _ _)
  · cases e; exact w
  · cases e; refine w.setX i ?_; have := ones_le 60 (m.x k); omega
  · split at e
    · split at e
      · rename_i h; cases e; exact w.setA i (sum_le w f j k n hn) h
      · cases e
    · split at e
      · cases e; exact w.setB i (sum_le w f j k n hn)
      · cases e; exact w.setX i (wide_lt _ (sum_le w f j k n hn))
theorem blank_wf : WF blank := ⟨fun _ => Nat.zero_le _, fun _ => Nat.zero_le _, rfl, fun _ => by show 0 < 2 ^ 60; decide, fun _ => by show 0 < 2 ^ 60; decide, Nat.zero_le _, Nat.zero_le _⟩
end Sx
set_option linter.all false
set_option maxRecDepth 100000
namespace Sx
open Ql50
theorem act_big {m : St} {here f i j k n : Nat} (h : 40 ≤ f) : m.act here f i j k n =
    (if f < 48 then (match m.setA i (m.sum f j k n) with
      | some t => .ok t
      | none => .error 2)
    else if f < 56 then .ok (m.setB i (m.sum f j k n)) else .ok (m.setX i (wide (m.sum f j k n)))) := by
  unfold St.act
  simp only
  split
  all_goals first
    | (exfalso; omega)
    | rfl
theorem act_err {m : St} {here f i j k n x : Nat} (e : m.act here f i j k n = .error x) : x ≠ 0 := by
  unfold St.act at e
  simp only at e
  split at e
  all_goals first
    | (cases e; done)
    | (cases e; decide)
    | (split at e
       · cases e; decide
       · split at e
         · cases e; decide
         · cases e)
    | (split at e
       · split at e
         · cases e
         · cases e; decide
       · split at e
         · cases e
         · cases e)
theorem act_jump {m : St} {here f i j k n kk : Nat} (h : f ≠ 0 → n = kk) : m.act here f i j k n = m.act here f i j k kk := by
  by_cases z : f = 0
  · subst z; rfl
  · rw [h z]
theorem long_cases (f : Nat) : long f = 1 ∨ long f = 2 := by unfold long; split <;> simp
theorem sum_digit {m : St} {f j k n kk : Nat} (hf : 40 ≤ f) (h2 : long f = 2 → n = kk) (h1 : long f ≠ 2 → k = kk) : m.sum (f % 8) j kk kk = m.sum f j k n := by
  have h8 : f % 8 < 8 := Nat.mod_lt _ (by decide)
  unfold St.sum
  rw [Nat.mod_mod]
  by_cases c : 2 < f % 8
  · have hl : long f ≠ 2 := by unfold long; rw [if_pos (by omega)]; decide
    have hk := h1 hl
    subst hk
    have : f % 8 = 3 ∨ f % 8 = 4 ∨ f % 8 = 5 ∨ f % 8 = 6 ∨ f % 8 = 7 := by omega
    rcases this with h | h | h | h | h <;> (rw [h]; try rfl)
  · have hl : long f = 2 := by unfold long; rw [if_neg (by omega)]
    have hn := h2 hl
    subst hn
    have : f % 8 = 0 ∨ f % 8 = 1 ∨ f % 8 = 2 := by omega
    rcases this with h | h | h <;> (rw [h]; try rfl)
theorem step_out {m : St} (h : 65536 ≤ m.p) : m.step = .error 2 := by
  unfold St.step SIZE; rw [if_pos h]
theorem step_cut {m : St} (h : m.p < 65536) (hl : long (part (m.mem m.p) m.q / 512) = 2) (hq : m.q = 3) : m.step = .error 3 := by
  unfold St.step SIZE; rw [if_neg (by omega)]
  simp only
  rw [if_pos ⟨hl, hq⟩]
theorem step_in {m : St} {p' q' n : Nat} (h : m.p < 65536) (hqm : m.q ≤ 3) (hq : ¬ (long (part (m.mem m.p) m.q / 512) = 2 ∧ m.q = 3)) (hp : 4 * p' + q' = 4 * m.p + m.q + long (part (m.mem m.p) m.q / 512)) (hq' : q' ≤ 3)
    (hn : n = if long (part (m.mem m.p) m.q / 512) = 2 then part (m.mem m.p) m.q % 8 * 32768 + part (m.mem m.p) (m.q + 1) else 0) :
    m.step = ({ m with p := p', q := q' } : St).act m.p (part (m.mem m.p) m.q / 512) (part (m.mem m.p) m.q / 64 % 8) (part (m.mem m.p) m.q / 8 % 8) (part (m.mem m.p) m.q % 8) n := by
  unfold St.step SIZE; rw [if_neg (by omega)]
  simp only
  rw [if_neg hq, ← hn]
  have hlc := long_cases (part (m.mem m.p) m.q / 512)
  generalize long (part (m.mem m.p) m.q / 512) = L at *
  by_cases c : m.q + L = 4
  · rw [if_pos c]
    have h1 : p' = m.p + 1 := by omega
    have h2 : q' = 0 := by omega
    rw [h1, h2]
  · rw [if_neg c]
    have h1 : p' = m.p := by omega
    have h2 : q' = m.q + L := by omega
    rw [h1, h2]
theorem part_lt (w q : Nat) : part w q < 32768 := Nat.mod_lt _ (by decide)
theorem k18 (w q : Nat) (hq : q ≤ 2) : w / 2 ^ (30 - 15 * q) % 262144 = part w q % 8 * 32768 + part w (q + 1) := by
  unfold part
  have e1 : 45 - 15 * (q + 1) = 30 - 15 * q := by omega
  have e2 : 45 - 15 * q = (30 - 15 * q) + 15 := by omega
  rw [e1, e2, Nat.pow_add, ← Nat.div_div_eq_div_mul]
  generalize w / 2 ^ (30 - 15 * q) = x
  have : (2 : Nat) ^ 15 = 32768 := by decide
  rw [this]
  omega
theorem steps_ok {k : Nat} {m t : St} (h : m.step = .ok t) : steps (k + 1) m = ((steps k t).1, (steps k t).2 + 1) := by
  show (match m.step with
    | .ok t => let r := steps k t
      (r.1, r.2 + 1)
    | .error e => ({ m with why := e }, 0)) = _
  rw [h]
theorem steps_err {k e : Nat} {m : St} (h : m.step = .error e) : steps (k + 1) m = ({ m with why := e }, 0) := by
  show (match m.step with
    | .ok t => let r := steps k t
      (r.1, r.2 + 1)
    | .error e => ({ m with why := e }, 0)) = _
  rw [h]
def parts64 : List Int := [1, 2, 2, 2, 2, 2, 2, 2, 1, 1, 1, 1, 1, 1, 1, 1, 1, 1, 1, 1, 1, 1, 1, 1, 1, 1, 1, 1, 1, 1, 1, 1, 1, 1, 1, 1, 1, 1, 1, 1, 2, 2, 2, 1, 1, 1, 1, 1, 2, 2, 2, 1, 1, 1, 1, 1, 2, 2, 2, 1, 1, 1, 1, 1]
theorem parts_get {f : Nat} (h : f < 64) : parts64[f]? = some ((long f : Nat) : Int) := by
  have : ∀ x : Fin 64, parts64[x.val]? = some ((long x.val : Nat) : Int) := by decide +kernel
  exact this ⟨f, h⟩
end Sx
set_option maxRecDepth 100000
set_option linter.all false
namespace Sx
open Ql50
/-! the flat list of calls, call by call -/
def nm (l : List Nat) : List Int := l.map fun (x : Nat) => (x : Int)
theorem nm_cons (x : Nat) (l : List Nat) : nm (x :: l) = (x : Int) :: nm l := rfl
theorem nm_len (l : List Nat) : (nm l).length = l.length := List.length_map ..
theorem nm_take (n : Nat) (l : List Nat) : (nm l).take n = nm (l.take n) := by unfold nm; rw [List.map_take]
theorem nm_drop (n : Nat) (l : List Nat) : (nm l).drop n = nm (l.drop n) := by unfold nm; rw [List.map_drop]
theorem nats_nm (l : List Nat) : Ql50Neutral.nats (nm l) = l := by
  unfold Ql50Neutral.nats nm
  rw [List.map_map]
  induction l with
  | nil => rfl
  | cons x r ih => rw [List.map_cons, ih]; rfl
def CallOf : Nat → List Nat → Call → Prop
  | 0, ns, q => ns = [0] ∧ q = .begin_
  | 1, ns, q => ∃ (a : Nat) (ws : List Nat), ns = 1 :: a :: ws.length :: ws ∧ q = .load a ws ws.length
  | 2, ns, q => ∃ a n : Nat, ns = [2, a, n] ∧ q = .look a n
  | 3, ns, q => ∃ n : Nat, ns = [3, n] ∧ q = .run n
  | 4, ns, q => ns = [4] ∧ q = .why
  | 5, ns, q => ∃ k : Nat, ns = [5, k] ∧ q = .get k
  | 6, ns, q => ∃ k v : Nat, ns = [6, k, v] ∧ q = .set k v
  | _, _, _ => False
def lens : List Nat := [1, 3, 3, 2, 1, 2, 3]
def callLen (num : Nat) (rest : List Nat) : Nat := if num = 1 then 3 + rest.getD 2 0 else lens.getD num 0
/-- one call is taken off -/
theorem call_of (p : Nat) (r : List Nat) (c : List (List Int)) (t : List Int) (h : PyFlat.call PyQl50.shape (nm (p :: r)) = some (c, t)) :
    ∃ q, p < 7 ∧ t = nm ((p :: r).drop (callLen p (p :: r))) ∧ CallOf p ((p :: r).take (callLen p (p :: r))) q ∧ Ql50Neutral.callOf (PyQl50.whole c) = some q ∧ 0 < callLen p (p :: r) ∧ callLen p (p :: r) ≤ (p :: r).length ∧
      ((p = 1 → (p :: r)[2]? = some ((p :: r).getD 2 0))) := by
  rw [nm_cons] at h
  unfold PyFlat.call at h
  dsimp only at h
  by_cases h0 : p = 0
  · subst h0
    have e : PyQl50.shape ((0 : Nat) : Int) = some (0, 0) := rfl
    rw [e] at h
    simp only [Nat.not_lt_zero, if_false, List.drop_zero, PyFlat.rows, List.take_zero, Option.some.injEq, Prod.mk.injEq] at h
    obtain ⟨rfl, rfl⟩ := h
    exact ⟨.begin_, by decide, rfl, ⟨rfl, rfl⟩, rfl, (by show 0 < 1; decide), Nat.succ_le_succ (Nat.zero_le _), fun z => absurd z (by decide)⟩
  by_cases h1 : p = 1
  · subst h1
    have e : PyQl50.shape ((1 : Nat) : Int) = some (1, 1) := rfl
    rw [e] at h
    match r with
    | [] => simp [nm] at h
    | [a] => simp [nm, PyFlat.rows, PyFlat.row] at h
    | a :: m :: ws =>
      have hl : ¬ (nm (a :: m :: ws)).length < 1 := by rw [nm_len, List.length_cons]; omega
      rw [nm_cons, nm_cons] at h hl
      simp only [if_neg hl, List.drop_succ_cons, List.drop_zero, PyFlat.rows, PyFlat.row] at h
      by_cases hm : m ≤ ws.length
      · rw [if_pos ⟨by omega, by rw [nm_len, Int.toNat_natCast]; exact hm⟩] at h
        simp only [Option.some.injEq, Prod.mk.injEq, Int.toNat_natCast, nm_take, nm_drop] at h
        obtain ⟨rfl, rfl⟩ := h
        have hw : (ws.take m).length = m := by rw [List.length_take]; omega
        have hL : callLen 1 (1 :: a :: m :: ws) = m + 3 := by
          show 3 + m = m + 3
          omega
        rw [hL]
        refine ⟨.load a (ws.take m) m, by decide, rfl, ⟨a, ws.take m, ?_, ?_⟩, ?_, by omega, ?_, fun _ => rfl⟩
        · rw [hw]; rfl
        · rw [hw]
        · show some (Call.load (a : Int).toNat (Ql50Neutral.nats (nm (ws.take m))) ((nm (ws.take m)).length : Int).toNat) = _
          rw [nats_nm, nm_len, hw]; rfl
        · show m + 3 ≤ ws.length + 1 + 1 + 1
          omega
      · rw [if_neg (by rw [nm_len, Int.toNat_natCast]; omega)] at h
        cases h
  by_cases h2 : p = 2
  · subst h2
    have e : PyQl50.shape ((2 : Nat) : Int) = some (2, 0) := rfl
    rw [e] at h
    match r with
    | [] => simp [nm] at h
    | [a] => simp [nm] at h
    | a :: n :: ws =>
      have hl : ¬ (nm (a :: n :: ws)).length < 2 := by rw [nm_len, List.length_cons, List.length_cons]; omega
      simp only [if_neg hl, PyFlat.rows, nm_cons, List.drop_succ_cons, List.drop_zero, List.take_succ_cons, List.take_zero, Option.some.injEq, Prod.mk.injEq] at h
      obtain ⟨rfl, rfl⟩ := h
      exact ⟨.look a n, by decide, rfl, ⟨a, n, rfl, rfl⟩, rfl, (by show 0 < 3; decide), by show 3 ≤ ws.length + 1 + 1 + 1; omega, fun z => absurd z (by decide)⟩
  by_cases h3 : p = 3
  · subst h3
    have e : PyQl50.shape ((3 : Nat) : Int) = some (1, 0) := rfl
    rw [e] at h
    match r with
    | [] => simp [nm] at h
    | n :: ws =>
      have hl : ¬ (nm (n :: ws)).length < 1 := by rw [nm_len, List.length_cons]; omega
      simp only [if_neg hl, PyFlat.rows, nm_cons, List.drop_succ_cons, List.drop_zero, List.take_succ_cons, List.take_zero, Option.some.injEq, Prod.mk.injEq] at h
      obtain ⟨rfl, rfl⟩ := h
      exact ⟨.run n, by decide, rfl, ⟨n, rfl, rfl⟩, rfl, (by show 0 < 2; decide), by show 2 ≤ ws.length + 1 + 1; omega, fun z => absurd z (by decide)⟩
  by_cases h4 : p = 4
  · subst h4
    have e : PyQl50.shape ((4 : Nat) : Int) = some (0, 0) := rfl
    rw [e] at h
    simp only [Nat.not_lt_zero, if_false, List.drop_zero, PyFlat.rows, List.take_zero, Option.some.injEq, Prod.mk.injEq] at h
    obtain ⟨rfl, rfl⟩ := h
    exact ⟨.why, by decide, rfl, ⟨rfl, rfl⟩, rfl, (by show 0 < 1; decide), Nat.succ_le_succ (Nat.zero_le _), fun z => absurd z (by decide)⟩
  by_cases h5 : p = 5
  · subst h5
    have e : PyQl50.shape ((5 : Nat) : Int) = some (1, 0) := rfl
    rw [e] at h
    match r with
    | [] => simp [nm] at h
    | n :: ws =>
      have hl : ¬ (nm (n :: ws)).length < 1 := by rw [nm_len, List.length_cons]; omega
      simp only [if_neg hl, PyFlat.rows, nm_cons, List.drop_succ_cons, List.drop_zero, List.take_succ_cons, List.take_zero, Option.some.injEq, Prod.mk.injEq] at h
      obtain ⟨rfl, rfl⟩ := h
      exact ⟨.get n, by decide, rfl, ⟨n, rfl, rfl⟩, rfl, (by show 0 < 2; decide), by show 2 ≤ ws.length + 1 + 1; omega, fun z => absurd z (by decide)⟩
  by_cases h6 : p = 6
  · subst h6
    have e : PyQl50.shape ((6 : Nat) : Int) = some (2, 0) := rfl
    rw [e] at h
    match r with
    | [] => simp [nm] at h
    | [a] => simp [nm] at h
    | a :: n :: ws =>
      have hl : ¬ (nm (a :: n :: ws)).length < 2 := by rw [nm_len, List.length_cons, List.length_cons]; omega
      simp only [if_neg hl, PyFlat.rows, nm_cons, List.drop_succ_cons, List.drop_zero, List.take_succ_cons, List.take_zero, Option.some.injEq, Prod.mk.injEq] at h
      obtain ⟨rfl, rfl⟩ := h
      exact ⟨.set a n, by decide, rfl, ⟨a, n, rfl, rfl⟩, rfl, (by show 0 < 3; decide), by show 3 ≤ ws.length + 1 + 1 + 1; omega, fun z => absurd z (by decide)⟩
  exfalso
  have e : PyQl50.shape (p : Int) = none := by
    unfold PyQl50.shape
    rw [if_neg (by omega), if_neg (by omega), if_neg (by omega), if_neg (by omega), if_neg (by omega), if_neg (by omega), if_neg (by omega)]
  rw [e] at h
  cases h
theorem calls_cons {f : Nat} {p : Int} {r : List Int} {cs : List (List (List Int))} (h : PyFlat.calls PyQl50.shape f (p :: r) = some cs) :
    ∃ c t cs' f', PyFlat.call PyQl50.shape (p :: r) = some (c, t) ∧ cs = c :: cs' ∧ PyFlat.calls PyQl50.shape f' t = some cs' := by
  cases f with
  | zero => cases h
  | succ f =>
    unfold PyFlat.calls at h
    cases e : PyFlat.call PyQl50.shape (p :: r) with
    | none => rw [e] at h; cases h
    | some x =>
      obtain ⟨c, t⟩ := x
      rw [e] at h
      simp only at h
      cases e2 : PyFlat.calls PyQl50.shape f t with
      | none => rw [e2] at h; cases h
      | some cs' =>
        rw [e2] at h
        simp only [Option.some.injEq] at h
        exact ⟨c, t, cs', f, rfl, h.symm, e2⟩
/-- how much a call answers -/
theorem ans_len (M : St) (c : List (List Int)) (q : Call) (h : Ql50Neutral.callOf c = some q) : ((spec M q).2.words).length ≤ 1 + Ql50Neutral.most c := by
  unfold Ql50Neutral.callOf at h
  split at h
  case h_3 p n =>
    cases h
    show (if room p.toNat n.toNat = false then (M, only (-1)) else (M, (⟨0, (List.range n.toNat).map fun i => M.mem (p.toNat + i)⟩ : Ans))).2.words.length ≤ 1 + (if n ≤ 1048576 then n.toNat else 0)
    split
    · exact Nat.zero_le _
    · rename_i hr
      have hr2 : p.toNat + n.toNat ≤ 65536 := by
        have : room p.toNat n.toNat = true := by cases hx : room p.toNat n.toNat <;> simp_all
        exact of_decide_eq_true this
      rw [if_pos (by omega)]
      show ((List.range n.toNat).map _).length ≤ _
      rw [List.length_map, List.length_range]; omega
  case h_8 => cases h
  all_goals cases h
  · exact Nat.zero_le _
  · show (if _ then _ else _ : St × Ans).2.words.length ≤ _
    split <;> exact Nat.zero_le _
  · show (if _ then _ else _ : St × Ans).2.words.length ≤ _
    split <;> exact Nat.zero_le _
  · exact Nat.zero_le _
  · unfold spec; dsimp only; split
    · exact Nat.le_add_right _ _
    · exact Nat.zero_le _
  · unfold spec; dsimp only; split <;> exact Nat.zero_le _
/-! the whole list -/
def outs (M : St) (cs : List (List (List Int))) : List Int := PyFlat.told (PyFlat.played Ql50Neutral.step M (cs.map PyQl50.whole))
theorem outs_nil (M : St) : outs M [] = [] := rfl
def ansI (a : Ans) : List Int := a.value :: Ql50Neutral.ints a.words
theorem outs_cons (M : St) (c : List (List Int)) (cs : List (List (List Int))) (q : Call) (h : Ql50Neutral.callOf (PyQl50.whole c) = some q) :
    outs M (c :: cs) = ((ansI (spec M q).2).length : Int) :: (ansI (spec M q).2 ++ outs (spec M q).1 cs) := by
  have e : Ql50Neutral.step M (PyQl50.whole c) = ((spec M q).1, ansI (spec M q).2) := by
    unfold Ql50Neutral.step
    rw [h]; rfl
  show PyFlat.told ((Ql50Neutral.step M (PyQl50.whole c)).2 :: PyFlat.played Ql50Neutral.step (Ql50Neutral.step M (PyQl50.whole c)).1 (cs.map PyQl50.whole)) = _
  rw [e]
  unfold PyFlat.told
  rw [List.flatMap_cons]; rfl
def mosts (cs : List (List (List Int))) : Nat := 3 * cs.length + ((cs.map PyQl50.whole).map Ql50Neutral.most).sum
theorem mosts_cons (c : List (List Int)) (cs : List (List (List Int))) : mosts (c :: cs) = 3 + Ql50Neutral.most (PyQl50.whole c) + mosts cs := by
  unfold mosts
  rw [List.length_cons, List.map_cons, List.map_cons, List.sum_cons]
  omega
/-- what is asked of the list -/
theorem asked_of {l : List Int} (h : PyQl50.answers_asked l = true) : ∃ cs f, PyFlat.calls PyQl50.shape f l = some cs ∧ PyQl50.answers l = outs blank cs ∧ mosts cs ≤ 901200 := by
  unfold PyQl50.answers_asked PyQl50.calls at h
  unfold PyQl50.answers PyQl50.calls
  cases e : PyFlat.calls PyQl50.shape l.length l with
  | none => rw [e] at h; cases h
  | some cs =>
    rw [e] at h
    simp only [Bool.and_eq_true] at h
    refine ⟨cs, l.length, e, rfl, ?_⟩
    obtain ⟨h1, h2⟩ := h
    unfold Ql50Neutral.asked at h2
    simp only [Bool.and_eq_true, decide_eq_true_eq] at h2
    have h3 := h2.2.2.1
    have h4 := h2.2.2.2
    rw [List.length_map] at h3
    unfold mosts
    omega
end Sx
set_option Elab.async false
set_option linter.all false
set_option maxRecDepth 100000
set_option maxHeartbeats 4000000
namespace Sx
open PySem L2
def top (i : Nat) : Stmt := PySem.Challenge.pw_sixtybit_s01_answers.main.body.getD i (.Pass ⟨0, 0, 0, 0⟩)
abbrev s_plus : Stmt := top 6
abbrev s_minus : Stmt := top 7
abbrev s_below_zero : Stmt := top 8
abbrev s_size_of : Stmt := top 9
abbrev s_with_sign : Stmt := top 10
abbrev s_in_60_bits : Stmt := top 11
abbrev s_left_around : Stmt := top 12
abbrev s_right_with_sign : Stmt := top 13
abbrev s_ones_in : Stmt := top 14
abbrev s_upper_ones : Stmt := top 15
abbrev s_number_in : Stmt := top 22
abbrev s_put_number : Stmt := top 23
abbrev s_a_plus_number : Stmt := top 30
abbrev s_b_plus_number : Stmt := top 31
abbrev s_x_plus_number : Stmt := top 32
abbrev s_x_plus_b : Stmt := top 33
abbrev s_a_plus_b : Stmt := top 34
abbrev s_a_minus_b : Stmt := top 35
abbrev s_b_plus_b : Stmt := top 36
abbrev s_b_minus_b : Stmt := top 37
abbrev s_set_a : Stmt := top 39
abbrev s_exponent_field : Stmt := top 50
abbrev s_exponent : Stmt := top 51
abbrev s_coefficient : Stmt := top 52
abbrev s_is_zero : Stmt := top 53
abbrev s_infinite : Stmt := top 54
abbrev s_as_word : Stmt := top 55
abbrev s_half : Stmt := top 56
abbrev s_total : Stmt := top 57
abbrev s_infinite_total : Stmt := top 58
abbrev s_aligned : Stmt := top 59
abbrev s_product : Stmt := top 60
abbrev s_quotient : Stmt := top 61
abbrev s_finite_quotient : Stmt := top 62
abbrev s_normalizing_shift : Stmt := top 63
abbrev s_normalized : Stmt := top 64
abbrev s_stop : Stmt := top 66
abbrev s_leave_way_back : Stmt := top 67
abbrev s_go_on_from_b : Stmt := top 68
abbrev s_go_on_by_x : Stmt := top 69
abbrev s_go_on_if_same : Stmt := top 70
abbrev s_go_on_unless_same : Stmt := top 71
abbrev s_go_on_unless_less : Stmt := top 72
abbrev s_go_on_if_less : Stmt := top 73
abbrev s_word_holds : Stmt := top 74
abbrev s_copied : Stmt := top 77
abbrev s_both : Stmt := top 78
abbrev s_either : Stmt := top 79
abbrev s_one_alone : Stmt := top 80
abbrev s_complement : Stmt := top 81
abbrev s_both_complement : Stmt := top 82
abbrev s_either_complement : Stmt := top 83
abbrev s_one_alone_complement : Stmt := top 84
abbrev s_left_by_jk : Stmt := top 85
abbrev s_right_by_jk : Stmt := top 86
abbrev s_left_by_b : Stmt := top 87
abbrev s_right_by_b : Stmt := top 88
abbrev s_normalize : Stmt := top 89
abbrev s_normalize_rounded : Stmt := top 90
abbrev s_unpack : Stmt := top 91
abbrev s_pack : Stmt := top 92
abbrev s_upper_total : Stmt := top 93
abbrev s_upper_difference : Stmt := top 94
abbrev s_lower_total : Stmt := top 95
abbrev s_lower_difference : Stmt := top 96
abbrev s_rounded_total : Stmt := top 97
abbrev s_rounded_difference : Stmt := top 98
abbrev s_whole_total : Stmt := top 99
abbrev s_whole_difference : Stmt := top 100
abbrev s_upper_product : Stmt := top 101
abbrev s_rounded_product : Stmt := top 102
abbrev s_lower_product : Stmt := top 103
abbrev s_mask : Stmt := top 104
abbrev s_plain_quotient : Stmt := top 105
abbrev s_rounded_quotient : Stmt := top 106
abbrev s_unchanged : Stmt := top 107
abbrev s_count_of_ones : Stmt := top 108
abbrev s_step : Stmt := top 113
abbrev s_perform : Stmt := top 114
abbrev s_run : Stmt := top 115
abbrev s_begin_anew : Stmt := top 121
abbrev s_load : Stmt := top 122
abbrev s_look : Stmt := top 123
abbrev s_run_steps : Stmt := top 124
abbrev s_why_ended : Stmt := top 125
abbrev s_tell_number : Stmt := top 126
abbrev s_set_number : Stmt := top 127
abbrev s_answers : Stmt := top 129
abbrev s_length_of_call : Stmt := top 130
abbrev s_Machine_init : Stmt := inClass (top 120) 0
abbrev s_Machine_begin : Stmt := inClass (top 120) 1
abbrev s_Machine_set_b : Stmt := inClass (top 120) 2
/-- a def of the text: its function, its name, its parameters -/
def Dx (K : PySem.W.Frag) (mg : Str → Option Value) (name : Str) (st : Stmt) (ps : List Str) : Prop := ∃ f fd, Fun K name name st f fd ∧ mg name = some (.ref f) ∧ Binds K fd ps []
/-- a def and what it promises -/
structure DF (P : Program) (w : World) (K : PySem.W.Frag) (mg : Str → Option Value) (base : Heap) (name : Str) (k : Nat) (ps : List Str) (sp : Sp) : Prop where
  ex : ∃ f fd, mg name = some (.ref f) ∧ PySem.W.keepIn K (.ref f) = true ∧ Binds K fd ps [] ∧ FnOk P w K mg base CX0 k f fd ps sp
/-- a method of the text -/
def Mx (K : PySem.W.Frag) (C : Addr) (m qual : Str) (st : Stmt) (ps : List Str) : Prop := ∃ f fd, Fun K m qual st f fd ∧ Meth K C m f ∧ Binds K fd ps []
structure DM (P : Program) (w : World) (K : PySem.W.Frag) (mg : Str → Option Value) (base : Heap) (C : Addr) (m : Str) (k : Nat) (ps : List Str) (sp : Sp) : Prop where
  ex : ∃ f fd, Meth K C m f ∧ Binds K fd ps [] ∧ FnOk P w K mg base CX0 k f fd ps sp
/-- a table of defs -/
def Tab (K : PySem.W.Frag) (mg : Str → Option Value) (name : Str) (ns : List Str) : Prop := ∃ a fs, mg name = some (.ref a) ∧ (∀ H, SqT K H a (fs.map V.ref)) ∧ Paired (fun n f => mg n = some (.ref f)) ns fs
/-- a table of ints -/
def TabI (K : PySem.W.Frag) (mg : Str → Option Value) (name : Str) (ns : List Int) : Prop := ∃ a, mg name = some (.ref a) ∧ ∀ H, SqT K H a (ns.map V.int)
section
variable {P : Program} {w : World} {K : PySem.W.Frag} {mg : Str → Option Value} {base : Heap}
theorem df_of {name : Str} {st : Stmt} {N ps : List Str} {k : Nat} {sp : Sp} (D : Dx K mg name st ps) (S : FnScope N ps (defScope st)) (len : ∀ vs H Q E, sp vs H Q E → vs.length = ps.length)
    (hbody : ∀ (f : Addr) (cdv : Value) (A : Around) (outer : List Env) (s : Shared) (H : Hp) (vs : List V) (Q : VK) (E : XK), Room k (A.deeper (PyProof.Rows.envOfC name (defScope st) s.heap.objs.size f cdv)) → sp vs H Q E →
      ∃ t, PSs (cxOf CX0 P w K mg base N name (defScope st) f cdv A outer s H E).nox (defBody st) t ∧ t { nx := fun _ H' => Q .non H', rt := Q } (start N vs) H) : DF P w K mg base name (k + 1) ps sp := by
  obtain ⟨f, fd, F, hm, hb⟩ := D
  exact ⟨f, fd, hm, F.kp, hb, F.ok S len fun cdv A outer s H vs Q E hr h => hbody f cdv A outer s H vs Q E hr h⟩
theorem dm_of {m qual : Str} {C : Addr} {st : Stmt} {N ps : List Str} {k : Nat} {sp : Sp} (D : Mx K C m qual st ps) (S : FnScope N ps (defScope st)) (len : ∀ vs H Q E, sp vs H Q E → vs.length = ps.length)
    (hbody : ∀ (f : Addr) (cdv : Value) (A : Around) (outer : List Env) (s : Shared) (H : Hp) (vs : List V) (Q : VK) (E : XK), Room k (A.deeper (PyProof.Rows.envOfC qual (defScope st) s.heap.objs.size f cdv)) → sp vs H Q E →
      ∃ t, PSs (cxOf CX0 P w K mg base N qual (defScope st) f cdv A outer s H E).nox (defBody st) t ∧ t { nx := fun _ H' => Q .non H', rt := Q } (start N vs) H) : DM P w K mg base C m (k + 1) ps sp := by
  obtain ⟨f, fd, F, hm, hb⟩ := D
  exact ⟨f, fd, hm, hb, F.ok S len fun cdv A outer s H vs Q E hr h => hbody f cdv A outer s H vs Q E hr h⟩
end
section
variable {X : Cx} {e o : Expr} {es : List Expr} {t : TA} {p pos apos : Pos} {x name m : Str} {k : Nat} {ps : List Str} {sp : Sp} {C : Addr} {ta tf : TE}
theorem PE.imp {t t' : TE} (h : PE X e t) (hi : ∀ σ H Q, t' σ H Q → t σ H Q) : PE X e t' := fun pins s σ H Q I q => h pins s σ H Q I (hi σ H Q q)
theorem pe_gi {i : Int} (hg : Gl X x) (hm : ∃ t, X.mg x = some (Value.int i t)) (hd : (x == ("__debug__" : Str)) = false := by decide) : PE X (.Name x pos) (tC (.int i)) := by
  obtain ⟨t, hm⟩ := hm
  exact pe_glob hg hm ⟨t, rfl⟩ hd
/-- a table as a value -/
def tTab (K : PySem.W.Frag) (mg : Str → Option Value) (ns : List Str) : TE := fun _ H Q => ∀ a fs, (∀ H, SqT K H a (fs.map V.ref)) → Paired (fun n f => mg n = some (.ref f)) ns fs → Q (.ref a) H
theorem pe_gr {ns : List Str} (hg : Gl X x) (hm : Tab X.K X.mg x ns) (hd : (x == ("__debug__" : Str)) = false := by decide) : PE X (.Name x pos) (tTab X.K X.mg ns) := by
  obtain ⟨a, fs, hm, h1, h2⟩ := hm
  exact PE.imp (pe_glob (v := .ref a) hg hm rfl hd) fun σ H Q q => q a fs h1 h2
def tTabI (K : PySem.W.Frag) (ns : List Int) : TE := fun _ H Q => ∀ a, (∀ H, SqT K H a (ns.map V.int)) → Q (.ref a) H
theorem pe_gti {ns : List Int} (hg : Gl X x) (hm : TabI X.K X.mg x ns) (hd : (x == ("__debug__" : Str)) = false := by decide) : PE X (.Name x pos) (tTabI X.K ns) := by
  obtain ⟨a, hm, h1⟩ := hm
  exact PE.imp (pe_glob (v := .ref a) hg hm rfl hd) fun σ H Q q => q a h1
theorem pe_df (D : DF X.prog X.w X.K X.mg X.base name k ps sp) (hr : Room k X.A) (ha : PA X (e :: es) t) (hg : Gl X name := by rfl) (hdb : (name == ("__debug__" : Str)) = false := by decide)
    (he : starEach (e :: es) X.env = (false, eval e X.env) :: starEach es X.env := by rfl) (hpl : (backTo pos (starEach es X.env)).any (·.1) = false := by rfl) :
    PE X (.Call (.Name name p) (e :: es) [] pos) (tCall sp [] E0 t) := by
  obtain ⟨f, fd, hm, hk, hb, F⟩ := D.ex
  exact pe_call F hr hg hm hk hb .nil pass0 ha hdb he hpl
/-- a call of a def that a table holds -/
def tCallV (P : Program) (w : World) (K : PySem.W.Frag) (mg : Str → Option Value) (base : Heap) (k : Nat) (tf : TE) (t : TA) : TE := fun σ H Q => tf σ H fun x H1 => ∃ f, x = .ref f ∧ PySem.W.keepIn K (.ref f) = true ∧
  t σ H1 fun vs H2 => ∃ fd ps sp, Binds K fd ps [] ∧ FnOk P w K mg base CX0 k f fd ps sp ∧ sp (vs ++ []) H2 Q E0
theorem pe_dfV {func : Expr} (hr : Room k X.A) (hf : PE X func tf) (ha : PA X (e :: es) t)
    (hev : eval (.Call func (e :: es) [] pos) X.env = (do callWith pos (← eval func X.env) [] (backTo pos (starEach (e :: es) X.env)) (backToKw pos (keywordEach [] X.env))) := by rfl)
    (he : starEach (e :: es) X.env = (false, eval e X.env) :: starEach es X.env := by rfl) (hpl : (backTo pos (starEach es X.env)).any (·.1) = false := by rfl) :
    PE X (.Call func (e :: es) [] pos) (tCallV X.prog X.w X.K X.mg X.base k tf t) := by
  intro pins s σ H Q I h
  refine PyProof.Rows.Call_ (thn (hf pins s σ H _ I h) fun u s1 ⟨x, H1, I1, r1, f, ex, hk, q1⟩ => ?_) hev
  subst ex
  obtain rfl : u = Value.ref f := r1
  refine PySem.W.callWith_K (h₀ := X.base) I.ok.mod.kin hk (thn (ha pos pins s1 σ H1 _ I1 q1) fun us s2 ⟨vs, H2, I2, r, fd, ps, sp, hb, F, q⟩ => ⟨I2.kIn, ?_⟩) he hpl
  exact run_fn F hr hb .nil pass0 I2 r q
theorem pe_mt {pl : Sem Bool} (c : Cls X.K C) (D : DM X.prog X.w X.K X.mg X.base C m k ps sp) (hr : Room k X.A) (ho : PE X o ta) (ha : PA X (e :: es) t)
    (hst : starEach (e :: es) X.env = (false, eval e X.env) :: starEach es X.env := by rfl) (hpl : (backTo pos (starEach es X.env)).any (·.1) = false := by rfl)
    (ht : eval (.Call (.Attribute o m apos) (e :: es) [] pos) X.env = (do
      let ov ← eval o X.env
      standAt apos.atName
      let (f, first) ← holding [ov] (getMethod ov m pl)
      callWith pos f first (backTo pos (starEach (e :: es) X.env)) (backToKw pos (keywordEach [] X.env))) := by rfl) :
    PE X (.Call (.Attribute o m apos) (e :: es) [] pos) (tMeth C m sp [] E0 ta t) := by
  obtain ⟨f, fd, hm, hb, F⟩ := D.ex
  exact pe_meth (pl := pl) ho c hm F hr hb .nil pass0 ha hst hpl ht
theorem pe_mt0 {pl : Sem Bool} (c : Cls X.K C) (D : DM X.prog X.w X.K X.mg X.base C m k ps sp) (hr : Room k X.A) (ho : PE X o ta)
    (ht : eval (.Call (.Attribute o m apos) [] [] pos) X.env = (do
      let ov ← eval o X.env
      standAt apos.atName
      let (f, first) ← holding [ov] (getMethod ov m pl)
      callWith pos f first (backTo pos (starEach [] X.env)) (backToKw pos (keywordEach [] X.env))) := by rfl) :
    PE X (.Call (.Attribute o m apos) [] [] pos) (tMeth C m sp [] E0 ta tNil) := by
  obtain ⟨f, fd, hm, hb, F⟩ := D.ex
  exact pe_meth0 (pl := pl) ho c hm F hr hb .nil pass0 ht
/-! ints of any size that occurs here -/
def CShl (i j : Int) : Prop := 0 ≤ j ∧ j ≤ 1000 ∧ i.natAbs < 2 ^ 200
theorem intBits_le {i : Int} {n : Nat} (h : i.natAbs < 2 ^ n) : Builtin.Int.intBits i ≤ n := by
  unfold Builtin.Int.intBits
  by_cases c : (i == 0) = true
  · rw [if_pos c]; exact Nat.zero_le _
  · rw [if_neg c]
    have h0 : i.natAbs ≠ 0 := by
      intro e
      exact c (by rw [beq_iff_eq]; omega)
    exact (Nat.log2_lt h0).mpr h
theorem op_shlB : OpR X (binaryOp .LShift) (rI CShl fun i j => .int (i * 2 ^ j.toNat)) := opI fun i j _ _ _ _ _ hc q =>
  PyProof.Rows.lshift_int hc.1 (by have := intBits_le hc.2.2; have := hc.2.1; omega) q
def CDivB (i j : Int) : Prop := 0 < j ∧ j.natAbs < 2 ^ 200
theorem op_fdivB : OpR X (binaryOp .FloorDiv) (rI CDivB fun i j => .int (i / j)) := opI fun i j _ _ _ _ _ hc q => by
  have h1 : (0 : Int) < j := hc.1
  refine PyProof.Rows.floordiv_int (by omega) (by rw [Int.fdiv_eq_ediv_of_nonneg i (by omega)]; exact q) (.inl (PyProof.noPylong_of_log2 ?_))
  have : j.natAbs.log2 < 200 := (Nat.log2_lt (by omega)).mpr hc.2
  omega
theorem mt_bitlen : MtR X "int.bit_length" (fun x xs H Q => ∃ i, x = .int i ∧ xs = [] ∧ Q (.int (Builtin.Int.intBits i : Nat)) H) := by
  intro pins s σ H x xs v us Q I rx rs h
  obtain ⟨i, rfl, rfl, q⟩ := h
  obtain ⟨t, rfl⟩ := rx
  cases rs
  exact PyProof.Rows.call_int_bit_length ⟨.int _, H, I.tok _, ⟨_, rfl⟩, q⟩
end
/-! bits of naturals -/
theorem bAnd (a b : Nat) : Builtin.bitAnd (a : Int) (b : Int) = ((a &&& b : Nat) : Int) := by
  rw [PyProof.Rows.bitAnd_pp (by omega) (by omega)]; rfl
theorem bOr (a b : Nat) : Builtin.bitOr (a : Int) (b : Int) = ((a ||| b : Nat) : Int) := by
  rw [PyProof.Rows.bitOr_and, bAnd]
  have h : (a ||| b) + (a &&& b) = a + b := by
    induction a using Nat.strongRecOn generalizing b with
    | ind a ih =>
      by_cases h0 : a = 0
      · subst h0; simp
      · have h2 := ih (a / 2) (by omega) (b / 2)
        have e1 : (a ||| b) / 2 = a / 2 ||| b / 2 := by have := Nat.or_div_two_pow (a := a) (b := b) (n := 1); simpa using this
        have e2 : (a &&& b) / 2 = a / 2 &&& b / 2 := by have := Nat.and_div_two_pow (a := a) (b := b) (n := 1); simpa using this
        have e3 : (a ||| b) % 2 = (a % 2 ||| b % 2) := by have := Nat.or_mod_two_pow (a := a) (b := b) (n := 1); simpa using this
        have e4 : (a &&& b) % 2 = (a % 2 &&& b % 2) := by have := Nat.and_mod_two_pow (a := a) (b := b) (n := 1); simpa using this
        have e5 : (a % 2 ||| b % 2) + (a % 2 &&& b % 2) = a % 2 + b % 2 := by
          rcases Nat.mod_two_eq_zero_or_one a with h | h <;> rcases Nat.mod_two_eq_zero_or_one b with h' | h' <;> rw [h, h'] <;> decide
        omega
  omega
theorem bXor (a b : Nat) : Builtin.bitXor (a : Int) (b : Int) = ((a ^^^ b : Nat) : Int) := by
  unfold Builtin.bitXor
  rw [bOr, bAnd]
  have h : (a ^^^ b) + (a &&& b) = (a ||| b) := by
    induction a using Nat.strongRecOn generalizing b with
    | ind a ih =>
      by_cases h0 : a = 0
      · subst h0; simp
      · have h2 := ih (a / 2) (by omega) (b / 2)
        have e1 : (a ||| b) / 2 = a / 2 ||| b / 2 := by have := Nat.or_div_two_pow (a := a) (b := b) (n := 1); simpa using this
        have e2 : (a &&& b) / 2 = a / 2 &&& b / 2 := by have := Nat.and_div_two_pow (a := a) (b := b) (n := 1); simpa using this
        have e3 : (a ||| b) % 2 = (a % 2 ||| b % 2) := by have := Nat.or_mod_two_pow (a := a) (b := b) (n := 1); simpa using this
        have e4 : (a &&& b) % 2 = (a % 2 &&& b % 2) := by have := Nat.and_mod_two_pow (a := a) (b := b) (n := 1); simpa using this
        have e6 : (a ^^^ b) / 2 = a / 2 ^^^ b / 2 := by have := Nat.xor_div_two_pow (a := a) (b := b) (n := 1); simpa using this
        have e7 : (a ^^^ b) % 2 = (a % 2 ^^^ b % 2) := by have := Nat.xor_mod_two_pow (a := a) (b := b) (n := 1); simpa using this
        have e5 : (a % 2 ^^^ b % 2) + (a % 2 &&& b % 2) = (a % 2 ||| b % 2) := by
          rcases Nat.mod_two_eq_zero_or_one a with h | h <;> rcases Nat.mod_two_eq_zero_or_one b with h' | h' <;> rw [h, h'] <;> decide
        omega
  omega
theorem shrN (a n : Nat) : (a : Int) / 2 ^ (n : Int).toNat = ((a / 2 ^ n : Nat) : Int) := by
  rw [Int.toNat_natCast]
  have : ((2 : Int) ^ n) = ((2 ^ n : Nat) : Int) := by norm_cast
  rw [this]; norm_cast
theorem shlN (a n : Nat) : (a : Int) * 2 ^ (n : Int).toNat = ((a * 2 ^ n : Nat) : Int) := by
  rw [Int.toNat_natCast]
  have : ((2 : Int) ^ n) = ((2 ^ n : Nat) : Int) := by norm_cast
  rw [this]; norm_cast
end Sx
set_option Elab.async false
set_option linter.all false
set_option maxRecDepth 100000
set_option maxHeartbeats 4000000
namespace Sx
open PySem L2
structure Txt (K : PySem.W.Frag) (mg : Str → Option Value) (C : Addr) : Prop where
  c_ONES60 : ∃ t, mg "ONES60" = some (Value.int 1152921504606846975 t)
  c_SIGN60 : ∃ t, mg "SIGN60" = some (Value.int 576460752303423488 t)
  c_ONES18 : ∃ t, mg "ONES18" = some (Value.int 262143 t)
  c_SIGN18 : ∃ t, mg "SIGN18" = some (Value.int 131072 t)
  c_MEMORY_WORDS : ∃ t, mg "MEMORY_WORDS" = some (Value.int 65536 t)
  c_FIRST_B : ∃ t, mg "FIRST_B" = some (Value.int 8 t)
  c_FIRST_X : ∃ t, mg "FIRST_X" = some (Value.int 16 t)
  c_NEXT_WORD : ∃ t, mg "NEXT_WORD" = some (Value.int 24 t)
  c_LAST_TOLD : ∃ t, mg "LAST_TOLD" = some (Value.int 25 t)
  c_LAST_SET : ∃ t, mg "LAST_SET" = some (Value.int 24 t)
  c_DONE : ∃ t, mg "DONE" = some (Value.int 0 t)
  c_STOPPED : ∃ t, mg "STOPPED" = some (Value.int 1 t)
  c_NO_WORD : ∃ t, mg "NO_WORD" = some (Value.int 2 t)
  c_CUT_OFF : ∃ t, mg "CUT_OFF" = some (Value.int 3 t)
  c_NO_INSTRUCTION : ∃ t, mg "NO_INSTRUCTION" = some (Value.int 4 t)
  c_INFINITE : ∃ t, mg "INFINITE" = some (Value.int 2047 t)
  c_INDEFINITE : ∃ t, mg "INDEFINITE" = some (Value.int 1023 t)
  c_INFINITE_WORD : ∃ t, mg "INFINITE_WORD" = some (Value.int 576179277326712832 t)
  c_INDEFINITE_WORD : ∃ t, mg "INDEFINITE_WORD" = some (Value.int 287948901175001088 t)
  c_COEFFICIENT : ∃ t, mg "COEFFICIENT" = some (Value.int 281474976710655 t)
  c_TOP_BIT : ∃ t, mg "TOP_BIT" = some (Value.int 140737488355328 t)
  c_UPPER : ∃ t, mg "UPPER" = some (Value.int 0 t)
  c_LOWER : ∃ t, mg "LOWER" = some (Value.int 1 t)
  c_ROUNDED : ∃ t, mg "ROUNDED" = some (Value.int 2 t)
  c_MEMORY_PARTS : ∃ t, mg "MEMORY_PARTS" = some (Value.int 262144 t)
  c_LOAD : ∃ t, mg "LOAD" = some (Value.int 1 t)
  c_MOST_STEPS : ∃ t, mg "MOST_STEPS" = some (Value.int 10000000 t)
  t_SUMS : Tab K mg "SUMS" ["a_plus_number", "b_plus_number", "x_plus_number", "x_plus_b", "a_plus_b", "a_minus_b", "b_plus_b", "b_minus_b"]
  t_JUMPS : Tab K mg "JUMPS" ["stop", "leave_way_back", "go_on_from_b", "go_on_by_x", "go_on_if_same", "go_on_unless_same", "go_on_unless_less", "go_on_if_less"]
  t_RESULTS : Tab K mg "RESULTS" ["copied", "both", "either", "one_alone", "complement", "both_complement", "either_complement", "one_alone_complement", "left_by_jk", "right_by_jk", "left_by_b", "right_by_b", "normalize", "normalize_rounded", "unpack", "pack", "upper_total", "upper_difference", "lower_total", "lower_difference", "rounded_total", "rounded_difference", "whole_total", "whole_difference", "upper_product", "rounded_product", "lower_product", "mask", "plain_quotient", "rounded_quotient", "unchanged", "count_of_ones"]
  t_PARTS : TabI K mg "PARTS" [1, 2, 2, 2, 2, 2, 2, 2, 1, 1, 1, 1, 1, 1, 1, 1, 1, 1, 1, 1, 1, 1, 1, 1, 1, 1, 1, 1, 1, 1, 1, 1, 1, 1, 1, 1, 1, 1, 1, 1, 2, 2, 2, 1, 1, 1, 1, 1, 2, 2, 2, 1, 1, 1, 1, 1, 2, 2, 2, 1, 1, 1, 1, 1]
  t_LENGTHS : TabI K mg "LENGTHS" [1, 3, 3, 2, 1, 2, 3]
  t_CALLS : Tab K mg "CALLS" ["begin_anew", "load", "look", "run_steps", "why_ended", "tell_number", "set_number"]
  f_plus : Dx K mg "plus" s_plus ["a", "b", "ones"]
  f_minus : Dx K mg "minus" s_minus ["a", "b", "ones"]
  f_below_zero : Dx K mg "below_zero" s_below_zero ["word"]
  f_size_of : Dx K mg "size_of" s_size_of ["word"]
  f_with_sign : Dx K mg "with_sign" s_with_sign ["word", "negative"]
  f_in_60_bits : Dx K mg "in_60_bits" s_in_60_bits ["number"]
  f_left_around : Dx K mg "left_around" s_left_around ["word", "n"]
  f_right_with_sign : Dx K mg "right_with_sign" s_right_with_sign ["word", "n"]
  f_ones_in : Dx K mg "ones_in" s_ones_in ["word"]
  f_upper_ones : Dx K mg "upper_ones" s_upper_ones ["n"]
  f_number_in : Dx K mg "number_in" s_number_in ["m", "which"]
  f_put_number : Dx K mg "put_number" s_put_number ["m", "which", "value"]
  f_a_plus_number : Dx K mg "a_plus_number" s_a_plus_number ["m", "j", "k"]
  f_b_plus_number : Dx K mg "b_plus_number" s_b_plus_number ["m", "j", "k"]
  f_x_plus_number : Dx K mg "x_plus_number" s_x_plus_number ["m", "j", "k"]
  f_x_plus_b : Dx K mg "x_plus_b" s_x_plus_b ["m", "j", "k"]
  f_a_plus_b : Dx K mg "a_plus_b" s_a_plus_b ["m", "j", "k"]
  f_a_minus_b : Dx K mg "a_minus_b" s_a_minus_b ["m", "j", "k"]
  f_b_plus_b : Dx K mg "b_plus_b" s_b_plus_b ["m", "j", "k"]
  f_b_minus_b : Dx K mg "b_minus_b" s_b_minus_b ["m", "j", "k"]
  f_set_a : Dx K mg "set_a" s_set_a ["m", "i", "address"]
  f_exponent_field : Dx K mg "exponent_field" s_exponent_field ["word"]
  f_exponent : Dx K mg "exponent" s_exponent ["field"]
  f_coefficient : Dx K mg "coefficient" s_coefficient ["word"]
  f_is_zero : Dx K mg "is_zero" s_is_zero ["word"]
  f_infinite : Dx K mg "infinite" s_infinite ["negative"]
  f_as_word : Dx K mg "as_word" s_as_word ["negative", "c", "e"]
  f_half : Dx K mg "half" s_half ["which", "negative", "r", "f"]
  f_total : Dx K mg "total" s_total ["which", "left", "right"]
  f_infinite_total : Dx K mg "infinite_total" s_infinite_total ["left", "right", "fields"]
  f_aligned : Dx K mg "aligned" s_aligned ["word", "n"]
  f_product : Dx K mg "product" s_product ["which", "left", "right"]
  f_quotient : Dx K mg "quotient" s_quotient ["rounded", "left", "right"]
  f_finite_quotient : Dx K mg "finite_quotient" s_finite_quotient ["rounded", "negative", "c", "d", "e"]
  f_normalizing_shift : Dx K mg "normalizing_shift" s_normalizing_shift ["word"]
  f_normalized : Dx K mg "normalized" s_normalized ["rounded", "word"]
  f_stop : Dx K mg "stop" s_stop ["m", "i", "j", "k"]
  f_leave_way_back : Dx K mg "leave_way_back" s_leave_way_back ["m", "i", "j", "k"]
  f_go_on_from_b : Dx K mg "go_on_from_b" s_go_on_from_b ["m", "i", "j", "k"]
  f_go_on_by_x : Dx K mg "go_on_by_x" s_go_on_by_x ["m", "i", "j", "k"]
  f_go_on_if_same : Dx K mg "go_on_if_same" s_go_on_if_same ["m", "i", "j", "k"]
  f_go_on_unless_same : Dx K mg "go_on_unless_same" s_go_on_unless_same ["m", "i", "j", "k"]
  f_go_on_unless_less : Dx K mg "go_on_unless_less" s_go_on_unless_less ["m", "i", "j", "k"]
  f_go_on_if_less : Dx K mg "go_on_if_less" s_go_on_if_less ["m", "i", "j", "k"]
  f_word_holds : Dx K mg "word_holds" s_word_holds ["word", "i"]
  f_copied : Dx K mg "copied" s_copied ["m", "i", "j", "k"]
  f_both : Dx K mg "both" s_both ["m", "i", "j", "k"]
  f_either : Dx K mg "either" s_either ["m", "i", "j", "k"]
  f_one_alone : Dx K mg "one_alone" s_one_alone ["m", "i", "j", "k"]
  f_complement : Dx K mg "complement" s_complement ["m", "i", "j", "k"]
  f_both_complement : Dx K mg "both_complement" s_both_complement ["m", "i", "j", "k"]
  f_either_complement : Dx K mg "either_complement" s_either_complement ["m", "i", "j", "k"]
  f_one_alone_complement : Dx K mg "one_alone_complement" s_one_alone_complement ["m", "i", "j", "k"]
  f_left_by_jk : Dx K mg "left_by_jk" s_left_by_jk ["m", "i", "j", "k"]
  f_right_by_jk : Dx K mg "right_by_jk" s_right_by_jk ["m", "i", "j", "k"]
  f_left_by_b : Dx K mg "left_by_b" s_left_by_b ["m", "i", "j", "k"]
  f_right_by_b : Dx K mg "right_by_b" s_right_by_b ["m", "i", "j", "k"]
  f_normalize : Dx K mg "normalize" s_normalize ["m", "i", "j", "k"]
  f_normalize_rounded : Dx K mg "normalize_rounded" s_normalize_rounded ["m", "i", "j", "k"]
  f_unpack : Dx K mg "unpack" s_unpack ["m", "i", "j", "k"]
  f_pack : Dx K mg "pack" s_pack ["m", "i", "j", "k"]
  f_upper_total : Dx K mg "upper_total" s_upper_total ["m", "i", "j", "k"]
  f_upper_difference : Dx K mg "upper_difference" s_upper_difference ["m", "i", "j", "k"]
  f_lower_total : Dx K mg "lower_total" s_lower_total ["m", "i", "j", "k"]
  f_lower_difference : Dx K mg "lower_difference" s_lower_difference ["m", "i", "j", "k"]
  f_rounded_total : Dx K mg "rounded_total" s_rounded_total ["m", "i", "j", "k"]
  f_rounded_difference : Dx K mg "rounded_difference" s_rounded_difference ["m", "i", "j", "k"]
  f_whole_total : Dx K mg "whole_total" s_whole_total ["m", "i", "j", "k"]
  f_whole_difference : Dx K mg "whole_difference" s_whole_difference ["m", "i", "j", "k"]
  f_upper_product : Dx K mg "upper_product" s_upper_product ["m", "i", "j", "k"]
  f_rounded_product : Dx K mg "rounded_product" s_rounded_product ["m", "i", "j", "k"]
  f_lower_product : Dx K mg "lower_product" s_lower_product ["m", "i", "j", "k"]
  f_mask : Dx K mg "mask" s_mask ["m", "i", "j", "k"]
  f_plain_quotient : Dx K mg "plain_quotient" s_plain_quotient ["m", "i", "j", "k"]
  f_rounded_quotient : Dx K mg "rounded_quotient" s_rounded_quotient ["m", "i", "j", "k"]
  f_unchanged : Dx K mg "unchanged" s_unchanged ["m", "i", "j", "k"]
  f_count_of_ones : Dx K mg "count_of_ones" s_count_of_ones ["m", "i", "j", "k"]
  f_step : Dx K mg "step" s_step ["m"]
  f_perform : Dx K mg "perform" s_perform ["m", "fm", "i", "j", "k"]
  f_run : Dx K mg "run" s_run ["m", "n"]
  f_begin_anew : Dx K mg "begin_anew" s_begin_anew ["m", "call"]
  f_load : Dx K mg "load" s_load ["m", "call"]
  f_look : Dx K mg "look" s_look ["m", "call"]
  f_run_steps : Dx K mg "run_steps" s_run_steps ["m", "call"]
  f_why_ended : Dx K mg "why_ended" s_why_ended ["m", "call"]
  f_tell_number : Dx K mg "tell_number" s_tell_number ["m", "call"]
  f_set_number : Dx K mg "set_number" s_set_number ["m", "call"]
  f_answers : Dx K mg "answers" s_answers ["calls"]
  f_length_of_call : Dx K mg "length_of_call" s_length_of_call ["calls", "at"]
  m_set_b : Mx K C "set_b" "Machine.set_b" s_Machine_set_b ["self", "i", "number"]
  m_begin : Mx K C "begin" "Machine.begin" s_Machine_begin ["self"]
  m_init : ∃ f fd, Mk K C f ∧ Fun K "__init__" "Machine.__init__" s_Machine_init f fd ∧ Binds K fd ["self"] []
  cl : Cls K C
  nWhy : NoAttr K C "why"
  nX : NoAttr K C "x"
  nA : NoAttr K C "a"
  nB : NoAttr K C "b"
  nM : NoAttr K C "memory"
  nAt : NoAttr K C "at"
  mgC : mg "Machine" = some (.ref C)
  b_max : mg "max" = none
  b_abs : mg "abs" = none
  b_len : mg "len" = none
  b_enumerate : mg "enumerate" = none
theorem qeq {Q : VK} {i j : Int} {H : Hp} (h : Q (.int j) H) (e : i = j) : Q (.int i) H := by rw [e]; exact h
theorem qbl {Q : VK} {i j : Bool} {H : Hp} (h : Q (.bl j) H) (e : i = j) : Q (.bl i) H := by rw [e]; exact h
theorem nz_of {i j : Int} (h : (!decide (V.int i = V.int j)) = true) : i ≠ j := by
  intro e
  subst e
  simp at h
theorem z_of {i j : Int} (h : ¬ (!decide (V.int i = V.int j)) = true) : i = j := by
  by_cases e : i = j
  · exact e
  · exfalso
    apply h
    have : ¬ V.int i = V.int j := fun q => e (V.int.inj q)
    rw [decide_eq_false this]; rfl
theorem eq_of {i j : Int} (h : decide (V.int i = V.int j) = true) : i = j := V.int.inj (of_decide_eq_true h)
theorem ne_of' {i j : Int} (h : ¬ decide (V.int i = V.int j) = true) : i ≠ j := fun e => h (by rw [e]; exact decide_eq_true rfl)
theorem no_of {p : Prop} [Decidable p] (h : ¬ decide p = true) : ¬ p := fun q => h (decide_eq_true q)
local macro_rules | `(tactic| walk_at "rd") => `(tactic| repeat (first | refine ⟨_, rfl, ?_⟩ | refine ⟨_, _, rfl, rfl, ?_⟩))
def spPlus : Sp := fun vs H Q _ => ∃ a b m : Nat, vs = [.int a, .int b, .int m] ∧ b ≤ m ∧ Q (.int (Ql50.plus m a b : Nat)) H
def spMinus : Sp := fun vs H Q _ => ∃ a b m : Nat, vs = [.int a, .int b, .int m] ∧ b ≤ m ∧ Q (.int (Ql50.minus m a b : Nat)) H
def spBelow : Sp := fun vs H Q _ => ∃ a : Nat, vs = [.int a] ∧ Q (.bl (Ql50.negative Ql50.M60 a)) H
def spSize : Sp := fun vs H Q _ => ∃ a : Nat, vs = [.int a] ∧ a < 2 ^ 60 ∧ Q (.int (Ql50.size Ql50.M60 a : Nat)) H
def spSign : Sp := fun vs H Q _ => ∃ (a : Nat) (s : Bool), vs = [.int a, .bl s] ∧ a < 2 ^ 60 ∧ Q (.int (Ql50.signed s a : Nat)) H
def spWide : Sp := fun vs H Q _ => ∃ a : Nat, vs = [.int a] ∧ Q (.int (Ql50.wide a : Nat)) H
def spLeft : Sp := fun vs H Q _ => ∃ a n : Nat, vs = [.int a, .int n] ∧ a < 2 ^ 60 ∧ Q (.int (Ql50.left a n : Nat)) H
def spRight : Sp := fun vs H Q _ => ∃ a n : Nat, vs = [.int a, .int n] ∧ a < 2 ^ 60 ∧ Q (.int (Ql50.right a n : Nat)) H
def spOnes : Sp := fun vs H Q _ => ∃ a : Nat, vs = [.int a] ∧ a < 2 ^ 60 ∧ Q (.int (Ql50.ones 60 a : Nat)) H
def spUpper : Sp := fun vs H Q _ => ∃ n : Nat, vs = [.int n] ∧ Q (.int (Ql50.M60 - (2 ^ (60 - min n 60) - 1) : Nat)) H
section
variable {P : Program} {w : World} {K : PySem.W.Frag} {mg : Str → Option Value} {base : Heap} {C : Addr}
theorem sc_plus : FnScope ["a", "b", "ones"] ["a", "b", "ones"] (defScope s_plus) := ⟨rfl, rfl, rfl, by decide +kernel, rfl, by decide +kernel, by decide +kernel⟩
theorem ok_plus (T : Txt K mg C) : DF P w K mg base "plus" 1 ["a", "b", "ones"] spPlus := by
  refine df_of T.f_plus sc_plus (fun vs H Q E h => ?_) (fun f cdv A outer s H vs Q E hr h => ?_)
  · obtain ⟨a, b, m, rfl, _⟩ := h; rfl
  · obtain ⟨a, b, m, rfl, hb, k⟩ := h
    refine ⟨_, (pss_cons (ps_if (pt_cmpR op_ge (pe_op op_add (pv 0) (pv 1)) (pv 2) (nomark _)) (pss_one (ps_ret (pe_op op_sub (pe_op op_add (pv 0) (pv 1)) (pv 2)))) pss_nil) (pss_one (ps_ret (pe_op op_add (pv 0) (pv 1))))), ?_⟩
    walk_at "rd"
    refine ite2 (fun c => ?_) (fun c => ?_)
    · have c := of_decide_eq_true c
      walk_at "rd"
      exact qeq k (by rw [plus_eq _ _ _ hb, if_pos (by omega)]; omega)
    · have c := no_of c
      walk_at "rd"
      exact qeq k (by rw [plus_eq _ _ _ hb, if_neg (by omega)]; omega)
theorem sc_minus : FnScope ["a", "b", "ones"] ["a", "b", "ones"] (defScope s_minus) := ⟨rfl, rfl, rfl, by decide +kernel, rfl, by decide +kernel, by decide +kernel⟩
theorem ok_minus (T : Txt K mg C) : DF P w K mg base "minus" 1 ["a", "b", "ones"] spMinus := by
  refine df_of T.f_minus sc_minus (fun vs H Q E h => ?_) (fun f cdv A outer s H vs Q E hr h => ?_)
  · obtain ⟨a, b, m, rfl, _⟩ := h; rfl
  · obtain ⟨a, b, m, rfl, hb, k⟩ := h
    refine ⟨_, (pss_cons (ps_if (pt_cmpR op_ge (pv 0) (pv 1) (nomark _)) (pss_one (ps_ret (pe_op op_sub (pv 0) (pv 1)))) pss_nil) (pss_one (ps_ret (pe_op op_sub (pe_op op_add (pv 0) (pv 2)) (pv 1))))), ?_⟩
    walk_at "rd"
    refine ite2 (fun c => ?_) (fun c => ?_)
    · have c := of_decide_eq_true c
      walk_at "rd"
      exact qeq k (by rw [minus_eq _ _ _ hb, if_pos (by omega)]; omega)
    · have c := no_of c
      walk_at "rd"
      exact qeq k (by rw [minus_eq _ _ _ hb, if_neg (by omega)]; omega)
theorem sc_below_zero : FnScope ["word"] ["word"] (defScope s_below_zero) := ⟨rfl, rfl, rfl, by decide +kernel, rfl, by decide +kernel, by decide +kernel⟩
theorem ok_below_zero (T : Txt K mg C) : DF P w K mg base "below_zero" 1 ["word"] spBelow := by
  refine df_of T.f_below_zero sc_below_zero (fun vs H Q E h => ?_) (fun f cdv A outer s H vs Q E hr h => ?_)
  · obtain ⟨a, rfl, _⟩ := h; rfl
  · obtain ⟨a, rfl, k⟩ := h
    refine ⟨_, (pss_one (ps_ret (pe_cmpR op_ge (pv 0) (pe_gi rfl T.c_SIGN60) (nomark _)))), ?_⟩
    walk_at "rd"
    exact qbl k (by rw [neg60]; congr 1; exact propext (by omega))
theorem sc_size_of : FnScope ["word"] ["word"] (defScope s_size_of) := ⟨rfl, rfl, rfl, by decide +kernel, rfl, by decide +kernel, by decide +kernel⟩
theorem ok_size_of (T : Txt K mg C) : DF P w K mg base "size_of" 1 ["word"] spSize := by
  refine df_of T.f_size_of sc_size_of (fun vs H Q E h => ?_) (fun f cdv A outer s H vs Q E hr h => ?_)
  · obtain ⟨a, rfl, _⟩ := h; rfl
  · obtain ⟨a, rfl, ha, k⟩ := h
    refine ⟨_, (pss_cons (ps_if (pt_cmpR op_ge (pv 0) (pe_gi rfl T.c_SIGN60) (nomark _)) (pss_one (ps_ret (pe_op op_sub (pe_gi rfl T.c_ONES60) (pv 0)))) pss_nil) (pss_one (ps_ret (pv 0)))), ?_⟩
    walk_at "rd"
    refine ite2 (fun c => ?_) (fun c => ?_)
    · have c := of_decide_eq_true c
      walk_at "rd"
      exact qeq k (by unfold Ql50.size; rw [neg60, if_pos (decide_eq_true (by omega)), M60v]; omega)
    · have c := no_of c
      walk_at "rd"
      exact qeq k (by unfold Ql50.size; rw [neg60, if_neg (by rw [decide_eq_true_iff]; omega)])
theorem sc_with_sign : FnScope ["word", "negative"] ["word", "negative"] (defScope s_with_sign) := ⟨rfl, rfl, rfl, by decide +kernel, rfl, by decide +kernel, by decide +kernel⟩
theorem ok_with_sign (T : Txt K mg C) : DF P w K mg base "with_sign" 1 ["word", "negative"] spSign := by
  refine df_of T.f_with_sign sc_with_sign (fun vs H Q E h => ?_) (fun f cdv A outer s H vs Q E hr h => ?_)
  · obtain ⟨a, s, rfl, _⟩ := h; rfl
  · obtain ⟨a, s, rfl, ha, k⟩ := h
    refine ⟨_, (pss_cons (ps_if (pt_val (pv 1)) (pss_one (ps_ret (pe_op op_sub (pe_gi rfl T.c_ONES60) (pv 0)))) pss_nil) (pss_one (ps_ret (pv 0)))), ?_⟩
    walk_at "rd"
    refine ite2 (fun c => ?_) (fun c => ?_)
    · walk_at "rd"
      exact qeq k (by unfold Ql50.signed; rw [if_pos c, M60v]; omega)
    · walk_at "rd"
      exact qeq k (by unfold Ql50.signed; rw [if_neg c])
theorem sc_in_60_bits : FnScope ["number"] ["number"] (defScope s_in_60_bits) := ⟨rfl, rfl, rfl, by decide +kernel, rfl, by decide +kernel, by decide +kernel⟩
theorem ok_in_60_bits (T : Txt K mg C) : DF P w K mg base "in_60_bits" 1 ["number"] spWide := by
  refine df_of T.f_in_60_bits sc_in_60_bits (fun vs H Q E h => ?_) (fun f cdv A outer s H vs Q E hr h => ?_)
  · obtain ⟨a, rfl, _⟩ := h; rfl
  · obtain ⟨a, rfl, k⟩ := h
    refine ⟨_, (pss_cons (ps_if (pt_cmpR op_ge (pv 0) (pe_gi rfl T.c_SIGN18) (nomark _)) (pss_one (ps_ret (pe_op op_add (pv 0) (pe_op op_sub (pe_gi rfl T.c_ONES60) (pe_gi rfl T.c_ONES18))))) pss_nil) (pss_one (ps_ret (pv 0)))), ?_⟩
    walk_at "rd"
    refine ite2 (fun c => ?_) (fun c => ?_)
    · have c := of_decide_eq_true c
      walk_at "rd"
      exact qeq k (by unfold Ql50.wide; rw [neg18, if_pos (decide_eq_true (by omega)), M60v, M18v]; omega)
    · have c := no_of c
      walk_at "rd"
      exact qeq k (by unfold Ql50.wide; rw [neg18, if_neg (by rw [decide_eq_true_iff]; omega)])
theorem sc_left_around : FnScope ["word", "n", "turned"] ["word", "n"] (defScope s_left_around) := ⟨rfl, rfl, rfl, by decide +kernel, rfl, by decide +kernel, by decide +kernel⟩
theorem ok_left_around (T : Txt K mg C) : DF P w K mg base "left_around" 1 ["word", "n"] spLeft := by
  refine df_of T.f_left_around sc_left_around (fun vs H Q E h => ?_) (fun f cdv A outer s H vs Q E hr h => ?_)
  · obtain ⟨a, n, rfl, _⟩ := h; rfl
  · obtain ⟨a, n, rfl, ha, k⟩ := h
    refine ⟨_, (pss_cons (ps_set (i := 2) sc_left_around.nd rfl (Or.inl rfl) (pe_op op_mod (pv 1) pe_int)) (pss_one (ps_ret (pe_op op_and (pe_op op_or (pe_op op_shlB (pv 0) (pv 2)) (pe_op op_shr (pv 0) (pe_op op_sub pe_int (pv 2)))) (pe_gi rfl T.c_ONES60))))), ?_⟩
    refine ⟨_, rfl, _, _, rfl, rfl, (by show (0 : Int) < 60; decide), _, rfl, _, rfl, _, _, rfl, rfl, ?_, _, rfl, _, rfl, _, _, rfl, rfl, _, _, rfl, rfl, ?_, _, _, rfl, rfl, _, _, rfl, rfl, ?_⟩
    · exact ⟨by omega, by omega, by omega⟩
    · show (0 : Int) ≤ 60 - (n : Int) % 60
      omega
    · have e1 : ((n : Int) % 60) = ((n % 60 : Nat) : Int) := by omega
      have e2 : (60 : Int) - ((n % 60 : Nat) : Int) = ((60 - n % 60 : Nat) : Int) := by omega
      refine qeq k ?_
      rw [e1, e2, shrN, shlN, bOr, show (1152921504606846975 : Int) = ((2 ^ 60 - 1 : Nat) : Int) from rfl, bAnd, left_eq a n ha]
theorem sc_right_with_sign : FnScope ["word", "n"] ["word", "n"] (defScope s_right_with_sign) := ⟨rfl, rfl, rfl, by decide +kernel, rfl, by decide +kernel, by decide +kernel⟩
theorem ok_right_with_sign (T : Txt K mg C) : DF P w K mg base "right_with_sign" 2 ["word", "n"] spRight := by
  refine df_of T.f_right_with_sign sc_right_with_sign (fun vs H Q E h => ?_) (fun f cdv A outer s H vs Q E hr h => ?_)
  · obtain ⟨a, n, rfl, _⟩ := h; rfl
  · obtain ⟨a, n, rfl, ha, k⟩ := h
    refine ⟨_, (pss_one (ps_ret (pe_df (ok_with_sign T) (hr.mono (by decide)) (pa_cons (pe_op op_shr (pe_df (ok_size_of T) (hr.mono (by decide)) (pa_cons (pv 0) pa_nil)) (pv 1)) (pa_cons (pe_df (ok_below_zero T) (hr.mono (by decide)) (pa_cons (pv 0) pa_nil)) pa_nil))))), ?_⟩
    refine ⟨_, rfl, a, rfl, ha, _, rfl, _, _, rfl, rfl, ?_, _, rfl, a, rfl, Ql50.size Ql50.M60 a / 2 ^ n, Ql50.negative Ql50.M60 a, ?_, ?_, ?_⟩
    · show (0 : Int) ≤ n
      omega
    · show [V.int ((Ql50.size Ql50.M60 a : Int) / 2 ^ (n : Int).toNat), V.bl _] = _
      rw [shrN]
    · exact Nat.lt_of_le_of_lt (Nat.div_le_self _ _) (Nat.lt_trans (size_le a ha) (by decide))
    · rw [← right_eq]; exact k
theorem sc_upper_ones : FnScope ["n"] ["n"] (defScope s_upper_ones) := ⟨rfl, rfl, rfl, by decide +kernel, rfl, by decide +kernel, by decide +kernel⟩
theorem ok_upper_ones (T : Txt K mg C) : DF P w K mg base "upper_ones" 1 ["n"] spUpper := by
  refine df_of T.f_upper_ones sc_upper_ones (fun vs H Q E h => ?_) (fun f cdv A outer s H vs Q E hr h => ?_)
  · obtain ⟨n, rfl, _⟩ := h; rfl
  · obtain ⟨n, rfl, k⟩ := h
    refine ⟨_, (pss_one (ps_ret (pe_op op_sub (pe_gi rfl T.c_ONES60) (pe_op op_shr (pe_gi rfl T.c_ONES60) (pv 0))))), ?_⟩
    refine ⟨_, rfl, _, _, rfl, rfl, ?_, _, _, rfl, rfl, ?_⟩
    · show (0 : Int) ≤ n
      omega
    · refine qeq k ?_
      rw [← upper_eq, show (1152921504606846975 : Int) = ((1152921504606846975 : Nat) : Int) from rfl, shrN]
      have := Nat.div_le_self 1152921504606846975 (2 ^ n)
      omega
theorem sc_ones_in : FnScope ["word", "found", "rest"] ["word"] (defScope s_ones_in) := ⟨rfl, rfl, rfl, by decide +kernel, rfl, by decide +kernel, by decide +kernel⟩
theorem ok_ones_in (T : Txt K mg C) : DF P w K mg base "ones_in" 1 ["word"] spOnes := by
  refine df_of T.f_ones_in sc_ones_in (fun vs H Q E h => ?_) (fun f cdv A outer s H vs Q E hr h => ?_)
  · obtain ⟨a, rfl, _⟩ := h; rfl
  · obtain ⟨a, rfl, ha, k⟩ := h
    refine ⟨_, (pss_cons (ps_set (i := 1) sc_ones_in.nd rfl (Or.inl rfl) pe_int) (pss_cons (ps_set (i := 2) sc_ones_in.nd rfl (Or.inl rfl) (pv 0)) (pss_cons (ps_while PassesOwn.never (pt_cmpR op_ne (pv 2) pe_int (nomark _)) (pss_cons (ps_set (i := 2) sc_ones_in.nd rfl (Or.inl rfl) (pe_op op_and (pv 2) (pe_op op_sub (pv 2) pe_int))) (pss_one (ps_set (i := 1) sc_ones_in.nd rfl (Or.inl rfl) (pe_op op_add (pv 1) pe_int))))) (pss_one (ps_ret (pv 1)))))), ?_⟩
    refine ⟨_, rfl, ?_⟩
    refine ⟨fun r σ H' => ∃ d : Nat, σ = [some (.int a), some (.int d), some (.int r)] ∧ H' = H ∧ r < 2 ^ 60 ∧ d + Ql50.ones 60 r = Ql50.ones 60 a, ⟨a, 0, rfl, rfl, ha, by omega⟩, ?_⟩
    rintro r σ H' ⟨d, rfl, rfl, hr60, hd⟩
    refine ⟨_, rfl, rfl, _, rfl, ?_⟩
    refine ite2 (fun c => ?_) (fun c => ?_)
    · have c := nz_of c
      have hr0 : 0 < r := by omega
      have hand := ones_drop 60 r hr0 hr60
      have hle : r &&& (r - 1) ≤ r - 1 := Nat.and_le_right
      refine ⟨fun σ' H'' => ∃ r' d' : Nat, r' < r ∧ σ' = [some (.int a), some (.int d'), some (.int r')] ∧ H'' = H' ∧ r' < 2 ^ 60 ∧ d' + Ql50.ones 60 r' = Ql50.ones 60 a, fun σ' H'' ⟨r', d', h1, h2, h3, h4, h5⟩ => ⟨r', h1, d', h2, h3, h4, h5⟩, ?_⟩
      refine ⟨_, rfl, _, rfl, _, _, rfl, rfl, _, _, rfl, rfl, _, rfl, _, _, rfl, rfl, ?_⟩
      refine ⟨r &&& (r - 1), d + 1, by omega, ?_, rfl, by omega, by omega⟩
      have e : Builtin.bitAnd (r : Int) ((r : Int) - 1) = ((r &&& (r - 1) : Nat) : Int) := by
        rw [show (r : Int) - 1 = ((r - 1 : Nat) : Int) by omega, bAnd]
      show [some (V.int (a : Int)), some (V.int ((d : Int) + 1)), some (V.int (Builtin.bitAnd (r : Int) ((r : Int) - 1)))] = _
      rw [e]; rfl
    · have c := z_of c
      refine ⟨_, rfl, ?_⟩
      have hz : r = 0 := by omega
      subst hz
      rw [ones_zero] at hd
      exact qeq k (by omega)
end
end Sx
set_option Elab.async false
set_option linter.all false
set_option maxRecDepth 100000
set_option maxHeartbeats 4000000
namespace Sx
open PySem L2
local macro_rules | `(tactic| walk_at "rd") => `(tactic| repeat (first | refine ⟨_, rfl, ?_⟩ | refine ⟨_, _, rfl, rfl, ?_⟩))
/-- a def that hands back a value and leaves what was tracked as it was -/
abbrev Giv (H : Hp) (Q : VK) (v : V) : Prop := ∀ H', Same H H' → Q v H'
def spField : Sp := fun vs H Q _ => ∃ a : Nat, vs = [.int a] ∧ a < 2 ^ 60 ∧ Q (.int (Ql50.exponent a : Nat)) H
def spExpo : Sp := fun vs H Q _ => ∃ a : Nat, vs = [.int a] ∧ Q (.int (expo a)) H
def spCoef : Sp := fun vs H Q _ => ∃ a : Nat, vs = [.int a] ∧ a < 2 ^ 60 ∧ Q (.int (coef a : Nat)) H
def isZ (a : Nat) : Bool := decide (coef a = 0 ∧ Ql50.exponent a ≠ 2047 ∧ Ql50.exponent a ≠ 1023)
def spZero : Sp := fun vs H Q _ => ∃ a : Nat, vs = [.int a] ∧ a < 2 ^ 60 ∧ Giv H Q (.bl (isZ a))
def spInf : Sp := fun vs H Q _ => ∃ s : Bool, vs = [.bl s] ∧ Q (.int (Ql50.word (.infinite s) : Nat)) H
def spWord : Sp := fun vs H Q _ => ∃ (s : Bool) (c : Nat) (e : Int), vs = [.bl s, .int c, .int e] ∧ c < 2 ^ 48 ∧ Q (.int (Ql50.word (.finite s c e) : Nat)) H
def spHalf : Sp := fun vs H Q _ => ∃ (h : Ql50.Half) (s : Bool) (r : Nat) (f : Int), vs = [.int (hN h : Nat), .bl s, .int r, .int f] ∧ r < 2 ^ 97 ∧ Q (.int (Ql50.word (Ql50.half h s r f) : Nat)) H
def spAli : Sp := fun vs H Q _ => ∃ a n : Nat, vs = [.int a, .int n] ∧ a < 2 ^ 60 ∧ Q (.int (ali (Ql50.negative Ql50.M60 a) (coef a) n)) H
section
variable {P : Program} {w : World} {K : PySem.W.Frag} {mg : Str → Option Value} {base : Heap} {C : Addr}
theorem sc_exponent_field : FnScope ["word"] ["word"] (defScope s_exponent_field) := ⟨rfl, rfl, rfl, by decide +kernel, rfl, by decide +kernel, by decide +kernel⟩
theorem ok_exponent_field (T : Txt K mg C) : DF P w K mg base "exponent_field" 2 ["word"] spField := by
  refine df_of T.f_exponent_field sc_exponent_field (fun vs H Q E h => ?_) (fun f cdv A outer s H vs Q E hr h => ?_)
  · obtain ⟨a, rfl, _⟩ := h; rfl
  · obtain ⟨a, rfl, ha, k⟩ := h
    refine ⟨_, (pss_one (ps_ret (pe_op op_shr (pe_df (ok_size_of T) (hr.mono (by decide)) (pa_cons (pv 0) pa_nil)) pe_int))), ?_⟩
    refine ⟨_, rfl, a, rfl, ha, _, _, rfl, rfl, (by show (0 : Int) ≤ 48; decide), ?_⟩
    exact qeq k (shrN _ 48)
theorem sc_exponent : FnScope ["field"] ["field"] (defScope s_exponent) := ⟨rfl, rfl, rfl, by decide +kernel, rfl, by decide +kernel, by decide +kernel⟩
theorem ok_exponent (T : Txt K mg C) : DF P w K mg base "exponent" 1 ["field"] spExpo := by
  refine df_of T.f_exponent sc_exponent (fun vs H Q E h => ?_) (fun f cdv A outer s H vs Q E hr h => ?_)
  · obtain ⟨a, rfl, _⟩ := h; rfl
  · obtain ⟨a, rfl, k⟩ := h
    refine ⟨_, (pss_cons (ps_if (pt_cmpR op_ge (pv 0) pe_int (nomark _)) (pss_one (ps_ret (pe_op op_sub (pv 0) pe_int))) pss_nil) (pss_one (ps_ret (pe_op op_sub (pv 0) pe_int)))), ?_⟩
    walk_at "rd"
    refine ite2 (fun c => ?_) (fun c => ?_)
    · have c := of_decide_eq_true c
      walk_at "rd"
      exact qeq k (by unfold expo; rw [if_pos (by omega)])
    · have c := no_of c
      walk_at "rd"
      exact qeq k (by unfold expo; rw [if_neg (by omega)])
theorem sc_coefficient : FnScope ["word"] ["word"] (defScope s_coefficient) := ⟨rfl, rfl, rfl, by decide +kernel, rfl, by decide +kernel, by decide +kernel⟩
theorem ok_coefficient (T : Txt K mg C) : DF P w K mg base "coefficient" 2 ["word"] spCoef := by
  refine df_of T.f_coefficient sc_coefficient (fun vs H Q E h => ?_) (fun f cdv A outer s H vs Q E hr h => ?_)
  · obtain ⟨a, rfl, _⟩ := h; rfl
  · obtain ⟨a, rfl, ha, k⟩ := h
    refine ⟨_, (pss_one (ps_ret (pe_op op_and (pe_df (ok_size_of T) (hr.mono (by decide)) (pa_cons (pv 0) pa_nil)) (pe_gi rfl T.c_COEFFICIENT)))), ?_⟩
    refine ⟨_, rfl, a, rfl, ha, _, _, rfl, rfl, ?_⟩
    exact qeq k (by rw [show (281474976710655 : Int) = ((2 ^ 48 - 1 : Nat) : Int) from rfl, bAnd, and_mask]; rfl)
theorem sc_infinite : FnScope ["negative"] ["negative"] (defScope s_infinite) := ⟨rfl, rfl, rfl, by decide +kernel, rfl, by decide +kernel, by decide +kernel⟩
theorem ok_infinite (T : Txt K mg C) : DF P w K mg base "infinite" 2 ["negative"] spInf := by
  refine df_of T.f_infinite sc_infinite (fun vs H Q E h => ?_) (fun f cdv A outer s H vs Q E hr h => ?_)
  · obtain ⟨s, rfl, _⟩ := h; rfl
  · obtain ⟨s, rfl, k⟩ := h
    refine ⟨_, (pss_one (ps_ret (pe_df (ok_with_sign T) (hr.mono (by decide)) (pa_cons (pe_gi rfl T.c_INFINITE_WORD) (pa_cons (pv 0) pa_nil))))), ?_⟩
    exact ⟨_, rfl, 2047 * 2 ^ 48, s, rfl, by decide, k⟩
theorem sc_as_word : FnScope ["negative", "c", "e", "field"] ["negative", "c", "e"] (defScope s_as_word) := ⟨rfl, rfl, rfl, by decide +kernel, rfl, by decide +kernel, by decide +kernel⟩
theorem ok_as_word (T : Txt K mg C) : DF P w K mg base "as_word" 3 ["negative", "c", "e"] spWord := by
  refine df_of T.f_as_word sc_as_word (fun vs H Q E h => ?_) (fun f cdv A outer s H vs Q E hr h => ?_)
  · obtain ⟨s, c, e, rfl, _⟩ := h; rfl
  · obtain ⟨s, c, e, rfl, hc, k⟩ := h
    have e0 : Ql50.word (.finite s c e) = if c = 0 ∨ e < -1023 then 0 else if 1022 < e then Ql50.signed s (2047 * 2 ^ 48) else Ql50.signed s ((if e < 0 then e + 1023 else e + 1024).toNat * 2 ^ 48 + c) := rfl
    refine ⟨_, (pss_cons (ps_if (PW.pt (pw_or (pt_cmpR op_eq (pv 1) pe_int (nomark _)) (pw_or1 (pt_cmpR op_lt (pv 2) (pe_un un_neg pe_int) (nomark _))))) (pss_one (ps_ret pe_int)) pss_nil) (pss_cons (ps_if (pt_cmpR op_gt (pv 2) pe_int (nomark _)) (pss_one (ps_ret (pe_df (ok_infinite T) (hr.mono (by decide)) (pa_cons (pv 0) pa_nil)))) pss_nil) (pss_cons (ps_set (i := 3) sc_as_word.nd rfl (Or.inl rfl) (pe_ifExp (pt_cmpR op_ge (pv 2) pe_int (nomark _)) (pe_op op_add (pv 2) pe_int) (pe_op op_add (pv 2) pe_int))) (pss_one (ps_ret (pe_df (ok_with_sign T) (hr.mono (by decide)) (pa_cons (pe_op op_or (pe_op op_shlB (pv 3) pe_int) (pv 1)) (pa_cons (pv 0) pa_nil)))))))), ?_⟩
    refine ⟨_, rfl, rfl, _, rfl, ?_⟩
    refine ite2 (fun c0 => ?_) (fun c0 => ?_)
    · have c0 := eq_of c0
      refine iteT ?_
      exact qeq k (by rw [e0, if_pos (.inl (by omega))]; rfl)
    · have c0 := ne_of' c0
      refine ⟨_, rfl, _, rfl, _, _, rfl, rfl, _, rfl, ?_⟩
      refine ite2 (fun c1 => ?_) (fun c1 => ?_)
      · have c1 := of_decide_eq_true c1
        exact qeq k (by rw [e0, if_pos (.inr c1)]; rfl)
      · have c1 := no_of c1
        have hn : ¬ (c = 0 ∨ e < -1023) := by omega
        walk_at "rd"
        refine ite2 (fun c2 => ?_) (fun c2 => ?_)
        · have c2 := of_decide_eq_true c2
          refine ⟨_, rfl, s, rfl, ?_⟩
          exact qeq k (by rw [e0, if_neg hn, if_pos c2]; rfl)
        · have c2 := no_of c2
          walk_at "rd"
          rw [e0, if_neg hn, if_neg c2] at k
          refine ite2 (fun c3 => ?_) (fun c3 => ?_)
          · have c3 := of_decide_eq_true c3
            obtain ⟨n, hn⟩ : ∃ n : Nat, e + 1024 = (n : Int) := ⟨(e + 1024).toNat, by omega⟩
            rw [if_neg (by omega), show (e + 1024).toNat = n by omega] at k
            refine ⟨_, rfl, _, _, rfl, rfl, _, rfl, _, _, rfl, rfl, ⟨by decide, by decide, by omega⟩, _, rfl, _, _, rfl, rfl, _, rfl, n * 2 ^ 48 + c, s, ?_, by omega, k⟩
            show [V.int (Builtin.bitOr ((e + 1024) * 2 ^ (48 : Int).toNat) c), V.bl s] = _
            rw [hn, show (48 : Int) = ((48 : Nat) : Int) from rfl, shlN, bOr, or_low _ _ _ hc]
          · have c3 := no_of c3
            obtain ⟨n, hn⟩ : ∃ n : Nat, e + 1023 = (n : Int) := ⟨(e + 1023).toNat, by omega⟩
            rw [if_pos (by omega), show (e + 1023).toNat = n by omega] at k
            refine ⟨_, rfl, _, _, rfl, rfl, _, rfl, _, _, rfl, rfl, ⟨by decide, by decide, by omega⟩, _, rfl, _, _, rfl, rfl, _, rfl, n * 2 ^ 48 + c, s, ?_, by omega, k⟩
            show [V.int (Builtin.bitOr ((e + 1023) * 2 ^ (48 : Int).toNat) c), V.bl s] = _
            rw [hn, show (48 : Int) = ((48 : Nat) : Int) from rfl, shlN, bOr, or_low _ _ _ hc]
theorem sc_half : FnScope ["which", "negative", "r", "f", "c", "e"] ["which", "negative", "r", "f"] (defScope s_half) := ⟨rfl, rfl, rfl, by decide +kernel, rfl, by decide +kernel, by decide +kernel⟩
theorem ok_half (T : Txt K mg C) : DF P w K mg base "half" 4 ["which", "negative", "r", "f"] spHalf := by
  refine df_of T.f_half sc_half (fun vs H Q E h => ?_) (fun f cdv A outer s H vs Q E hr h => ?_)
  · obtain ⟨h, s, r, f, rfl, _⟩ := h; rfl
  · obtain ⟨h, s, r, f, rfl, hrr, k⟩ := h
    refine ⟨_, (pss_cons (ps_if (pt_cmpR op_ne (pe_op op_shr (pv 2) pe_int) pe_int (nomark _)) (pss_cons (ps_set (i := 2) sc_half.nd rfl (Or.inl rfl) (pe_op op_shr (pv 2) pe_int)) (pss_one (ps_set (i := 3) sc_half.nd rfl (Or.inl rfl) (pe_op op_add (pv 3) pe_int)))) pss_nil) (pss_cons (ps_if (pt_cmpR op_eq (pv 0) (pe_gi rfl T.c_LOWER) (nomark _)) (pss_one (ps_ret (pe_df (ok_as_word T) (hr.mono (by decide)) (pa_cons (pv 1) (pa_cons (pe_op op_and (pv 2) (pe_gi rfl T.c_COEFFICIENT)) (pa_cons (pv 3) pa_nil)))))) pss_nil) (pss_cons (ps_set (i := 4) sc_half.nd rfl (Or.inl rfl) (pe_op op_shr (pv 2) pe_int)) (pss_cons (ps_set (i := 5) sc_half.nd rfl (Or.inl rfl) (pe_op op_add (pv 3) pe_int)) (pss_cons (ps_if (pt_cmpR op_eq (pv 0) (pe_gi rfl T.c_ROUNDED) (nomark _)) (pss_cons (ps_set (i := 4) sc_half.nd rfl (Or.inl rfl) (pe_op op_add (pv 4) (pe_op op_and (pe_op op_shr (pv 2) pe_int) pe_int))) (pss_one (ps_if (pt_cmpR op_gt (pv 4) (pe_gi rfl T.c_COEFFICIENT) (nomark _)) (pss_cons (ps_set (i := 4) sc_half.nd rfl (Or.inl rfl) (pe_op op_shr (pv 4) pe_int)) (pss_one (ps_set (i := 5) sc_half.nd rfl (Or.inl rfl) (pe_op op_add (pv 5) pe_int)))) pss_nil))) pss_nil) (pss_one (ps_ret (pe_df (ok_as_word T) (hr.mono (by decide)) (pa_cons (pv 1) (pa_cons (pv 4) (pa_cons (pv 5) pa_nil))))))))))), ?_⟩
    refine ⟨_, rfl, _, _, rfl, rfl, (by show (0 : Int) ≤ 96; decide), rfl, _, rfl, ?_⟩
    refine ite2 (fun c => ?a) (fun c => ?b)
    case' a =>
      have c : (r : Int) / 2 ^ (96 : Int).toNat ≠ 0 := nz_of c
      rw [show (96 : Int) = ((96 : Nat) : Int) from rfl, shrN] at c
      have hge : 2 ^ 96 ≤ r := by
        refine Nat.le_of_not_lt fun q => c ?_
        rw [Nat.div_eq_of_lt q]; rfl
      rw [half_ge hge] at k
      have e : (r : Int) / 2 ^ (1 : Int).toNat = ((r / 2 : Nat) : Int) := shrN r 1
      have hr96 : r / 2 < 2 ^ 96 := by omega
      refine ⟨_, rfl, _, _, rfl, rfl, (by show (0 : Int) ≤ 1; decide), _, rfl, _, _, rfl, rfl, ?_⟩
      dsimp only
      rw [e]
      clear e c hge hrr
      generalize r / 2 = r at *
      generalize f + 1 = f at *
    case' b =>
      have c : (r : Int) / 2 ^ (96 : Int).toNat = 0 := z_of c
      rw [show (96 : Int) = ((96 : Nat) : Int) from rfl, shrN] at c
      have hlt : ¬ 2 ^ 96 ≤ r := by
        intro q
        have : 0 < r / 2 ^ 96 := Nat.div_pos q (by decide)
        omega
      rw [half_lt hlt] at k
      have hr96 : r < 2 ^ 96 := by omega
    all_goals
      refine ⟨_, rfl, rfl, _, rfl, ?_⟩
      have e1 : (r : Int) / 2 ^ (48 : Int).toNat = ((r / 2 ^ 48 : Nat) : Int) := shrN r 48
      have e2 : (r : Int) / 2 ^ (47 : Int).toNat = ((r / 2 ^ 47 : Nat) : Int) := shrN r 47
      refine ite2 (fun c => ?_) (fun c => ?_)
      · have c := eq_of c
        have hl : h = .lower := by cases h <;> first | rfl | (exfalso; simp [hN] at c)
        subst hl
        refine ⟨_, rfl, _, rfl, _, _, rfl, rfl, _, rfl, s, r % 2 ^ 48, f, ?_, Nat.mod_lt _ (by decide), k⟩
        show [V.bl s, V.int (Builtin.bitAnd (r : Int) 281474976710655), V.int f] = _
        rw [show (281474976710655 : Int) = ((2 ^ 48 - 1 : Nat) : Int) from rfl, bAnd, and_mask]
      · have c := ne_of' c
        refine ⟨_, rfl, _, _, rfl, rfl, (by show (0 : Int) ≤ 48; decide), _, rfl, _, _, rfl, rfl, _, rfl, rfl, _, rfl, ?_⟩
        refine ite2 (fun c2 => ?_) (fun c2 => ?_)
        · have c2 := eq_of c2
          have hl : h = .rounded := by cases h <;> first | rfl | (exfalso; simp [hN] at c2)
          subst hl
          refine ⟨_, rfl, _, rfl, _, _, rfl, rfl, (by show (0 : Int) ≤ 47; decide), _, _, rfl, rfl, _, _, rfl, rfl, _, rfl, _, _, rfl, rfl, _, rfl, ?_⟩
          have e3 : (r : Int) / 2 ^ (48 : Int).toNat + Builtin.bitAnd ((r : Int) / 2 ^ (47 : Int).toNat) 1 = ((r / 2 ^ 48 + r / 2 ^ 47 % 2 : Nat) : Int) := by
            rw [e1, e2, show (1 : Int) = ((2 ^ 1 - 1 : Nat) : Int) from rfl, bAnd, and_mask]; omega
          have hq : r / 2 ^ 48 + r / 2 ^ 47 % 2 ≤ 2 ^ 48 := by omega
          refine ite2 (fun c3 => ?_) (fun c3 => ?_)
          · have c3 : (281474976710655 : Int) < (r : Int) / 2 ^ (48 : Int).toNat + Builtin.bitAnd ((r : Int) / 2 ^ (47 : Int).toNat) 1 := of_decide_eq_true c3
            rw [e3] at c3
            refine ⟨_, rfl, _, _, rfl, rfl, (by show (0 : Int) ≤ 1; decide), _, rfl, _, _, rfl, rfl, _, rfl, _, rfl, _, rfl, s, (r / 2 ^ 48 + r / 2 ^ 47 % 2) / 2, f + 49, ?_, by omega, ?_⟩
            · show [V.bl s, V.int (((r : Int) / 2 ^ (48 : Int).toNat + Builtin.bitAnd ((r : Int) / 2 ^ (47 : Int).toNat) 1) / 2 ^ (1 : Int).toNat), V.int (f + 48 + 1)] = _
              rw [e3, show (1 : Int) = ((1 : Nat) : Int) from rfl, shrN, show f + 48 + ((1 : Nat) : Int) = f + 49 by omega]
            · unfold half0 at k
              simp only at k
              rw [if_pos (by omega)] at k
              exact k
          · have c3 : ¬ (281474976710655 : Int) < (r : Int) / 2 ^ (48 : Int).toNat + Builtin.bitAnd ((r : Int) / 2 ^ (47 : Int).toNat) 1 := no_of c3
            rw [e3] at c3
            refine ⟨_, rfl, _, rfl, _, rfl, s, r / 2 ^ 48 + r / 2 ^ 47 % 2, f + 48, ?_, by omega, ?_⟩
            · show [V.bl s, V.int ((r : Int) / 2 ^ (48 : Int).toNat + Builtin.bitAnd ((r : Int) / 2 ^ (47 : Int).toNat) 1), V.int (f + 48)] = _
              rw [e3]
            · unfold half0 at k
              simp only at k
              rw [if_neg (by omega)] at k
              exact k
        · have c2 := ne_of' c2
          have hl : h = .upper := by cases h <;> first | rfl | (exfalso; simp [hN] at c c2)
          subst hl
          refine ⟨_, rfl, _, rfl, _, rfl, s, r / 2 ^ 48, f + 48, ?_, by omega, k⟩
          show [V.bl s, V.int ((r : Int) / 2 ^ (48 : Int).toNat), V.int (f + 48)] = _
          rw [e1]
end
end Sx
set_option Elab.async false
set_option linter.all false
set_option maxRecDepth 100000
set_option maxHeartbeats 4000000
namespace Sx
open PySem L2
local macro_rules | `(tactic| walk_at "rd") => `(tactic| repeat (first | refine ⟨_, rfl, ?_⟩ | refine ⟨_, _, rfl, rfl, ?_⟩))
theorem inV2 (x a b : Int) : inV (.int x) [.int a, .int b] = decide (a = x ∨ b = x) := by
  unfold inV
  show ((a == x) || ((b == x) || false)) = _
  rw [Bool.or_false, Bool.eq_iff_iff]
  simp
theorem in_of {x a b : Int} (h : (if false = true then !inV (.int x) [.int a, .int b] else inV (.int x) [.int a, .int b]) = true) : a = x ∨ b = x := by
  rw [if_neg (by decide), inV2] at h
  exact of_decide_eq_true h
theorem nin_of {x a b : Int} (h : ¬ (if false = true then !inV (.int x) [.int a, .int b] else inV (.int x) [.int a, .int b]) = true) : a ≠ x ∧ b ≠ x := by
  rw [if_neg (by decide), inV2] at h
  have := no_of h
  omega
theorem notin_eq (x a b : Int) : (if true = true then !inV (.int x) [.int a, .int b] else inV (.int x) [.int a, .int b]) = decide (a ≠ x ∧ b ≠ x) := by
  rw [if_pos rfl, inV2, Bool.eq_iff_iff]
  simp
theorem same_tup {H : Hp} {p : Addr} {xs : List V} (h : H p = none) : Same H (upd H p (.tup xs)) := fun b o e => by
  rw [upd_ne (ne_of_none e h)]; exact e
theorem bne_of (a b : Bool) : (!decide (V.bl a = V.bl b)) = (a != b) := by cases a <;> cases b <;> decide
def spInfT (K : PySem.W.Frag) : Sp := fun vs H Q _ => ∃ (h : Ql50.Half) (a b : Nat) (p : Addr), vs = [.int a, .int b, .ref p] ∧ a < 2 ^ 60 ∧ b < 2 ^ 60 ∧ SqT K H p [.int (Ql50.exponent a : Nat), .int (Ql50.exponent b : Nat)] ∧
  (Ql50.exponent a = 2047 ∨ Ql50.exponent b = 2047) ∧ Ql50.exponent a ≠ 1023 ∧ Ql50.exponent b ≠ 1023 ∧ Q (.int (Ql50.word (Ql50.add h (Ql50.num a) (Ql50.num b)) : Nat)) H
def spTotal : Sp := fun vs H Q _ => ∃ (h : Ql50.Half) (a b : Nat), vs = [.int (hN h : Nat), .int a, .int b] ∧ a < 2 ^ 60 ∧ b < 2 ^ 60 ∧ Giv H Q (.int (Ql50.word (Ql50.add h (Ql50.num a) (Ql50.num b)) : Nat))
def spProd : Sp := fun vs H Q _ => ∃ (h : Ql50.Half) (a b : Nat), vs = [.int (hN h : Nat), .int a, .int b] ∧ a < 2 ^ 60 ∧ b < 2 ^ 60 ∧ Giv H Q (.int (Ql50.word (Ql50.mul h (Ql50.num a) (Ql50.num b)) : Nat))
def spFinQ : Sp := fun vs H Q _ => ∃ (r s : Bool) (c d : Nat) (e : Int), vs = [.bl r, .bl s, .int c, .int d, .int e] ∧ c < 2 ^ 48 ∧ d < 2 ^ 48 ∧ 0 < d ∧ Q (.int (Ql50.word (quo r s c d e) : Nat)) H
def spQuot : Sp := fun vs H Q _ => ∃ (r : Bool) (a b : Nat), vs = [.bl r, .int a, .int b] ∧ a < 2 ^ 60 ∧ b < 2 ^ 60 ∧ Giv H Q (.int (Ql50.word (Ql50.div r (Ql50.num a) (Ql50.num b)) : Nat))
def spShift : Sp := fun vs H Q _ => ∃ a : Nat, vs = [.int a] ∧ a < 2 ^ 60 ∧ Giv H Q (.int ((Ql50.normal false a).2 : Nat))
def spNormal : Sp := fun vs H Q _ => ∃ (r : Bool) (a : Nat), vs = [.bl r, .int a] ∧ a < 2 ^ 60 ∧ Giv H Q (.int ((Ql50.normal r a).1 : Nat))
section
variable {P : Program} {w : World} {K : PySem.W.Frag} {mg : Str → Option Value} {base : Heap} {C : Addr}
theorem sc_aligned : FnScope ["word", "n", "size"] ["word", "n"] (defScope s_aligned) := ⟨rfl, rfl, rfl, by decide +kernel, rfl, by decide +kernel, by decide +kernel⟩
theorem ok_aligned (T : Txt K mg C) : DF P w K mg base "aligned" 3 ["word", "n"] spAli := by
  refine df_of T.f_aligned sc_aligned (fun vs H Q E h => ?_) (fun f cdv A outer s H vs Q E hr h => ?_)
  · obtain ⟨a, n, rfl, _⟩ := h; rfl
  · obtain ⟨a, n, rfl, ha, k⟩ := h
    have hc := coef_lt48 a
    have e : (coef a : Int) * 2 ^ (48 : Int).toNat / 2 ^ (n : Int).toNat = ((coef a * 2 ^ 48 / 2 ^ n : Nat) : Int) := by
      rw [show (48 : Int) = ((48 : Nat) : Int) from rfl, shlN, shrN]
    refine ⟨_, (pss_cons (ps_set (i := 2) sc_aligned.nd rfl (Or.inl rfl) (pe_op op_shr (pe_op op_shlB (pe_df (ok_coefficient T) (hr.mono (by decide)) (pa_cons (pv 0) pa_nil)) pe_int) (pv 1))) (pss_cons (ps_if (pt_val (pe_df (ok_below_zero T) (hr.mono (by decide)) (pa_cons (pv 0) pa_nil))) (pss_one (ps_ret (pe_un un_neg (pv 2)))) pss_nil) (pss_one (ps_ret (pv 2))))), ?_⟩
    refine ⟨_, rfl, a, rfl, ha, _, _, rfl, rfl, ⟨by decide, by decide, by omega⟩, _, rfl, _, _, rfl, rfl, (by show (0 : Int) ≤ n; omega), _, rfl, a, rfl, _, rfl, ?_⟩
    refine ite2 (fun c => ?_) (fun c => ?_)
    · refine ⟨_, rfl, _, rfl, ?_⟩
      exact qeq k (by rw [e]; unfold ali; rw [if_pos c])
    · refine ⟨_, rfl, ?_⟩
      exact qeq k (by rw [e]; unfold ali; rw [if_neg c])
theorem sc_is_zero : FnScope ["word"] ["word"] (defScope s_is_zero) := ⟨rfl, rfl, rfl, by decide +kernel, rfl, by decide +kernel, by decide +kernel⟩
theorem ok_is_zero (T : Txt K mg C) : DF P w K mg base "is_zero" 3 ["word"] spZero := by
  refine df_of T.f_is_zero sc_is_zero (fun vs H Q E h => ?_) (fun f cdv A outer s H vs Q E hr h => ?_)
  · obtain ⟨a, rfl, _⟩ := h; rfl
  · obtain ⟨a, rfl, ha, k⟩ := h
    refine ⟨_, (pss_one (ps_ret (pe_and (pe_cmpR op_eq (pe_df (ok_coefficient T) (hr.mono (by decide)) (pa_cons (pv 0) pa_nil)) pe_int (nomark _)) (pe_one (pe_cmpR op_notIn_seq (pe_df (ok_exponent_field T) (hr.mono (by decide)) (pa_cons (pv 0) pa_nil)) (pe_tup (pa_cons (pe_gi rfl T.c_INFINITE) (pa_cons (pe_gi rfl T.c_INDEFINITE) pa_nil))) (by with_unfolding_all rfl)))))), ?_⟩
    refine ⟨_, rfl, a, rfl, ha, rfl, _, rfl, ?_⟩
    refine ite2 (fun c => ?_) (fun c => ?_)
    · have c := eq_of c
      refine ⟨_, rfl, a, rfl, ha, (by show 2 ≤ sizeLine; decide), fun p hp => ⟨p, _, rfl, .inr (SqT.of upd_same), rfl, rfl, ?_⟩⟩
      refine qbl (k _ (same_tup hp)) ?_
      rw [notin_eq]
      unfold isZ
      congr 1
      exact propext (by omega)
    · have c := ne_of' c
      refine qbl (k _ fun _ _ e => e) ?_
      unfold isZ
      rw [decide_eq_false (by omega)]
theorem sc_infinite_total : FnScope ["left", "right", "fields"] ["left", "right", "fields"] (defScope s_infinite_total) := ⟨rfl, rfl, rfl, by decide +kernel, rfl, by decide +kernel, by decide +kernel⟩
theorem ok_infinite_total (T : Txt K mg C) : DF P w K mg base "infinite_total" 3 ["left", "right", "fields"] (spInfT K) := by
  refine df_of T.f_infinite_total sc_infinite_total (fun vs H Q E h => ?_) (fun f cdv A outer s H vs Q E hr h => ?_)
  · obtain ⟨h, a, b, p, rfl, _⟩ := h; rfl
  · obtain ⟨h, a, b, p, rfl, ha, hb, hp, hi, na, nb, k⟩ := h
    refine ⟨_, (pss_cons (ps_if (pt_cmpR op_ne (pe_ix ix_tup (pv 2) pe_int (fun _ _ => rfl)) (pe_gi rfl T.c_INFINITE) (nomark _)) (pss_one (ps_ret (pe_df (ok_infinite T) (hr.mono (by decide)) (pa_cons (pe_df (ok_below_zero T) (hr.mono (by decide)) (pa_cons (pv 1) pa_nil)) pa_nil)))) pss_nil) (pss_cons (ps_if (PW.pt (pw_and (pt_cmpR op_eq (pe_ix ix_tup (pv 2) pe_int (fun _ _ => rfl)) (pe_gi rfl T.c_INFINITE) (nomark _)) (pw_and1 (pt_cmpR op_ne (pe_df (ok_below_zero T) (hr.mono (by decide)) (pa_cons (pv 0) pa_nil)) (pe_df (ok_below_zero T) (hr.mono (by decide)) (pa_cons (pv 1) pa_nil)) (nomark _))))) (pss_one (ps_ret (pe_gi rfl T.c_INDEFINITE_WORD))) pss_nil) (pss_one (ps_ret (pe_df (ok_infinite T) (hr.mono (by decide)) (pa_cons (pe_df (ok_below_zero T) (hr.mono (by decide)) (pa_cons (pv 0) pa_nil)) pa_nil)))))), ?_⟩
    refine ⟨_, rfl, p, _, _, _, rfl, rfl, hp, at_of (j := 0) rfl rfl, rfl, _, rfl, ?_⟩
    refine ite2 (fun c => ?_) (fun c => ?_)
    · have c := nz_of c
      refine ⟨_, rfl, b, rfl, Ql50.negative Ql50.M60 b, rfl, ?_⟩
      have hb2 : Ql50.exponent b = 2047 := by omega
      rw [num_inf hb2, num_fin (by omega) na] at k
      exact k
    · have c := z_of c
      have ha2 : Ql50.exponent a = 2047 := by omega
      refine ⟨_, rfl, p, _, _, _, rfl, rfl, hp, at_of (j := 1) rfl rfl, rfl, _, rfl, ?_⟩
      refine ite2 (fun c2 => ?_) (fun c2 => ?_)
      · have c2 := eq_of c2
        have hb2 : Ql50.exponent b = 2047 := by omega
        refine ⟨_, rfl, a, rfl, _, rfl, b, rfl, rfl, _, rfl, ?_⟩
        rw [num_inf ha2, num_inf hb2] at k
        refine ite2 (fun c3 => ?_) (fun c3 => ?_)
        · rw [bne_of] at c3
          have c3 : Ql50.negative Ql50.M60 a ≠ Ql50.negative Ql50.M60 b := by simpa using c3
          refine qeq k ?_
          show (287948901175001088 : Int) = ((Ql50.word (if Ql50.negative Ql50.M60 a = Ql50.negative Ql50.M60 b then _ else _) : Nat) : Int)
          rw [if_neg c3]; rfl
        · rw [bne_of] at c3
          have c3 : Ql50.negative Ql50.M60 a = Ql50.negative Ql50.M60 b := by simpa using c3
          refine ⟨_, rfl, a, rfl, Ql50.negative Ql50.M60 a, rfl, ?_⟩
          have e : Ql50.add h (.infinite (Ql50.negative Ql50.M60 a)) (.infinite (Ql50.negative Ql50.M60 b)) = .infinite (Ql50.negative Ql50.M60 a) := if_pos c3
          rw [e] at k
          exact k
      · have c2 := ne_of' c2
        refine iteF ?_
        refine ⟨_, rfl, a, rfl, Ql50.negative Ql50.M60 a, rfl, ?_⟩
        rw [num_inf ha2, num_fin (by omega) nb] at k
        exact k
theorem sc_total : FnScope ["which", "left", "right", "fields", "greater", "g", "r"] ["which", "left", "right"] (defScope s_total) := ⟨rfl, rfl, rfl, by decide +kernel, rfl, by decide +kernel, by decide +kernel⟩
theorem ok_total (T : Txt K mg C) : DF P w K mg base "total" 5 ["which", "left", "right"] spTotal := by
  refine df_of T.f_total sc_total (fun vs H Q E h => ?_) (fun f cdv A outer s H vs Q E hr h => ?_)
  · obtain ⟨h, a, b, rfl, _⟩ := h; rfl
  · obtain ⟨h, a, b, rfl, ha, hb, k⟩ := h
    refine ⟨_, (pss_cons (ps_set (i := 3) sc_total.nd rfl (Or.inl rfl) (pe_tup (pa_cons (pe_df (ok_exponent_field T) (hr.mono (by decide)) (pa_cons (pv 1) pa_nil)) (pa_cons (pe_df (ok_exponent_field T) (hr.mono (by decide)) (pa_cons (pv 2) pa_nil)) pa_nil)))) (pss_cons (ps_if (pt_cmpR op_in_seq (pe_gi rfl T.c_INDEFINITE) (pv 3) (by with_unfolding_all rfl)) (pss_one (ps_ret (pe_gi rfl T.c_INDEFINITE_WORD))) pss_nil) (pss_cons (ps_if (pt_cmpR op_in_seq (pe_gi rfl T.c_INFINITE) (pv 3) (by with_unfolding_all rfl)) (pss_one (ps_ret (pe_df (ok_infinite_total T) (hr.mono (by decide)) (pa_cons (pv 1) (pa_cons (pv 2) (pa_cons (pv 3) pa_nil)))))) pss_nil) (pss_cons (ps_set (i := 4) sc_total.nd rfl (Or.inl rfl) (pe_callB (call_max2 rfl) (by rfl) T.b_max PyProof.Rows.boot_max (pa_cons (pe_ix ix_tup (pv 3) pe_int (fun _ _ => rfl)) (pa_cons (pe_ix ix_tup (pv 3) pe_int (fun _ _ => rfl)) pa_nil)))) (pss_cons (ps_set (i := 5) sc_total.nd rfl (Or.inl rfl) (pe_df (ok_exponent T) (hr.mono (by decide)) (pa_cons (pv 4) pa_nil))) (pss_cons (ps_set (i := 6) sc_total.nd rfl (Or.inl rfl) (pe_op op_add (pe_df (ok_aligned T) (hr.mono (by decide)) (pa_cons (pv 1) (pa_cons (pe_op op_sub (pv 5) (pe_df (ok_exponent T) (hr.mono (by decide)) (pa_cons (pe_ix ix_tup (pv 3) pe_int (fun _ _ => rfl)) pa_nil))) pa_nil))) (pe_df (ok_aligned T) (hr.mono (by decide)) (pa_cons (pv 2) (pa_cons (pe_op op_sub (pv 5) (pe_df (ok_exponent T) (hr.mono (by decide)) (pa_cons (pe_ix ix_tup (pv 3) pe_int (fun _ _ => rfl)) pa_nil))) pa_nil))))) (pss_one (ps_ret (pe_df (ok_half T) (hr.mono (by decide)) (pa_cons (pv 0) (pa_cons (pe_cmpR op_lt (pv 6) pe_int (nomark _)) (pa_cons (pe_callB call_abs (by rfl) T.b_abs PyProof.Rows.boot_abs (pa_cons (pv 6) pa_nil)) (pa_cons (pe_op op_sub (pv 5) pe_int) pa_nil))))))))))))), ?_⟩
    refine ⟨_, rfl, a, rfl, ha, _, rfl, b, rfl, hb, (by show 2 ≤ sizeLine; decide), fun p hp => ?_⟩
    have k1 := k _ (same_tup (xs := [.int (Ql50.exponent a : Nat), .int (Ql50.exponent b : Nat)]) hp)
    clear k
    have hq : SqT K (upd H p (.tup [.int (Ql50.exponent a : Nat), .int (Ql50.exponent b : Nat)])) p [.int (Ql50.exponent a : Nat), .int (Ql50.exponent b : Nat)] := SqT.of upd_same
    generalize upd H p (.tup [.int (Ql50.exponent a : Nat), .int (Ql50.exponent b : Nat)]) = H1 at *
    refine ⟨_, rfl, p, _, rfl, .inr hq, rfl, rfl, _, rfl, ?_⟩
    refine ite2 (fun c => ?_) (fun c => ?_)
    · have c := in_of c
      refine qeq k1 ?_
      rcases c with c | c
      · rw [num_ind (show Ql50.exponent a = 1023 by omega)]; rfl
      · rw [num_ind (show Ql50.exponent b = 1023 by omega)]
        have : Ql50.add h (Ql50.num a) .indefinite = .indefinite := by cases Ql50.num a <;> rfl
        rw [this]; rfl
    · have ⟨n1, n2⟩ := nin_of c
      refine ⟨_, rfl, p, _, rfl, .inr hq, rfl, rfl, _, rfl, ?_⟩
      refine ite2 (fun c => ?_) (fun c => ?_)
      · have c := in_of c
        exact ⟨_, rfl, _, rfl, _, rfl, h, a, b, p, rfl, ha, hb, hq, by omega, by omega, by omega, k1⟩
      · have ⟨i1, i2⟩ := nin_of c
        have ea : Ql50.num a = _ := num_fin (w := a) (by omega) (by omega)
        have eb : Ql50.num b = _ := num_fin (w := b) (by omega) (by omega)
        have em := expo_max (Ql50.exponent a) (Ql50.exponent b) (by omega) (by omega)
        rw [ea, eb, add_fin em] at k1
        have hm1 : expo (Ql50.exponent a) ≤ expo (if Ql50.exponent b > Ql50.exponent a then Ql50.exponent b else Ql50.exponent a) := by rw [em]; omega
        have hm2 : expo (Ql50.exponent b) ≤ expo (if Ql50.exponent b > Ql50.exponent a then Ql50.exponent b else Ql50.exponent a) := by rw [em]; omega
        have ec : (if (Ql50.exponent b : Int) > (Ql50.exponent a : Int) then (Ql50.exponent b : Int) else (Ql50.exponent a : Int)) = (((if Ql50.exponent b > Ql50.exponent a then Ql50.exponent b else Ql50.exponent a) : Nat) : Int) := by
          by_cases q : Ql50.exponent b > Ql50.exponent a
          · rw [if_pos q, if_pos (by omega)]
          · rw [if_neg q, if_neg (by omega)]
        clear em
        refine ⟨_, rfl, p, _, _, _, rfl, rfl, hq, at_of (j := 0) rfl rfl, _, rfl, p, _, _, _, rfl, rfl, hq, at_of (j := 1) rfl rfl, _, _, rfl, ?_⟩
        rw [ec]
        generalize (if Ql50.exponent b > Ql50.exponent a then Ql50.exponent b else Ql50.exponent a) = gg at *
        refine ⟨_, rfl, gg, rfl, ?_⟩
        generalize expo gg = g at *
        refine ⟨_, rfl, _, rfl, _, rfl, p, _, _, _, rfl, rfl, hq, at_of (j := 0) rfl rfl, Ql50.exponent a, rfl, _, _, rfl, rfl, a, (g - expo (Ql50.exponent a)).toNat, ?_, ha,
          _, rfl, _, rfl, _, rfl, p, _, _, _, rfl, rfl, hq, at_of (j := 1) rfl rfl, Ql50.exponent b, rfl, _, _, rfl, rfl, b, (g - expo (Ql50.exponent b)).toNat, ?_, hb, _, _, rfl, rfl, ?_⟩
        · rw [Int.toNat_of_nonneg (by omega)]; rfl
        · rw [Int.toNat_of_nonneg (by omega)]; rfl
        have hz : (ali (Ql50.negative Ql50.M60 a) (coef a) (g - expo (Ql50.exponent a)).toNat + ali (Ql50.negative Ql50.M60 b) (coef b) (g - expo (Ql50.exponent b)).toNat).natAbs < 2 ^ 97 := by
          have s1 := ali_small (s := Ql50.negative Ql50.M60 a) (n := (g - expo (Ql50.exponent a)).toNat) (coef_lt48 a)
          have s2 := ali_small (s := Ql50.negative Ql50.M60 b) (n := (g - expo (Ql50.exponent b)).toNat) (coef_lt48 b)
          generalize ali (Ql50.negative Ql50.M60 a) (coef a) _ = u at s1 ⊢
          generalize ali (Ql50.negative Ql50.M60 b) (coef b) _ = v at s2 ⊢
          omega
        dsimp only
        generalize ali (Ql50.negative Ql50.M60 a) (coef a) (g - expo (Ql50.exponent a)).toNat + ali (Ql50.negative Ql50.M60 b) (coef b) (g - expo (Ql50.exponent b)).toNat = z at *
        refine ⟨_, rfl, _, rfl, _, _, rfl, rfl, _, rfl, _, rfl, _, rfl, _, _, rfl, rfl, h, decide (z < 0), z.natAbs, g - 48, ?_, ?_, k1⟩
        · show [V.int (hN h : Nat), V.bl (decide (z < 0)), V.int (if z < 0 then -z else z), V.int (g - 48)] = _
          congr 3
          by_cases q : z < 0
          · rw [if_pos q]; congr 1; omega
          · rw [if_neg q]; congr 1; omega
        · exact hz
theorem sc_product : FnScope ["which", "left", "right", "fields", "negative", "c", "d", "r", "f"] ["which", "left", "right"] (defScope s_product) := ⟨rfl, rfl, rfl, by decide +kernel, rfl, by decide +kernel, by decide +kernel⟩
theorem ok_product (T : Txt K mg C) : DF P w K mg base "product" 5 ["which", "left", "right"] spProd := by
  refine df_of T.f_product sc_product (fun vs H Q E h => ?_) (fun f cdv A outer s H vs Q E hr h => ?_)
  · obtain ⟨h, a, b, rfl, _⟩ := h; rfl
  · obtain ⟨h, a, b, rfl, ha, hb, k⟩ := h
    refine ⟨_, (pss_cons (ps_set (i := 3) sc_product.nd rfl (Or.inl rfl) (pe_tup (pa_cons (pe_df (ok_exponent_field T) (hr.mono (by decide)) (pa_cons (pv 1) pa_nil)) (pa_cons (pe_df (ok_exponent_field T) (hr.mono (by decide)) (pa_cons (pv 2) pa_nil)) pa_nil)))) (pss_cons (ps_if (pt_cmpR op_in_seq (pe_gi rfl T.c_INDEFINITE) (pv 3) (by with_unfolding_all rfl)) (pss_one (ps_ret (pe_gi rfl T.c_INDEFINITE_WORD))) pss_nil) (pss_cons (ps_set (i := 4) sc_product.nd rfl (Or.inl rfl) (pe_cmpR op_ne (pe_df (ok_below_zero T) (hr.mono (by decide)) (pa_cons (pv 1) pa_nil)) (pe_df (ok_below_zero T) (hr.mono (by decide)) (pa_cons (pv 2) pa_nil)) (nomark _))) (pss_cons (ps_if (pt_cmpR op_in_seq (pe_gi rfl T.c_INFINITE) (pv 3) (by with_unfolding_all rfl)) (pss_cons (ps_if (PW.pt (pw_or (pt_val (pe_df (ok_is_zero T) (hr.mono (by decide)) (pa_cons (pv 1) pa_nil))) (pw_or1 (pt_val (pe_df (ok_is_zero T) (hr.mono (by decide)) (pa_cons (pv 2) pa_nil)))))) (pss_one (ps_ret (pe_gi rfl T.c_INDEFINITE_WORD))) pss_nil) (pss_one (ps_ret (pe_df (ok_infinite T) (hr.mono (by decide)) (pa_cons (pv 4) pa_nil))))) pss_nil) (pss_cons (ps_set (i := 5) sc_product.nd rfl (Or.inl rfl) (pe_df (ok_coefficient T) (hr.mono (by decide)) (pa_cons (pv 1) pa_nil))) (pss_cons (ps_set (i := 6) sc_product.nd rfl (Or.inl rfl) (pe_df (ok_coefficient T) (hr.mono (by decide)) (pa_cons (pv 2) pa_nil))) (pss_cons (ps_set (i := 7) sc_product.nd rfl (Or.inl rfl) (pe_op op_mul (pv 5) (pv 6))) (pss_cons (ps_set (i := 8) sc_product.nd rfl (Or.inl rfl) (pe_op op_add (pe_df (ok_exponent T) (hr.mono (by decide)) (pa_cons (pe_ix ix_tup (pv 3) pe_int (fun _ _ => rfl)) pa_nil)) (pe_df (ok_exponent T) (hr.mono (by decide)) (pa_cons (pe_ix ix_tup (pv 3) pe_int (fun _ _ => rfl)) pa_nil)))) (pss_cons (ps_if (PW.pt (pw_and (pt_cmpR op_ge (pv 5) (pe_gi rfl T.c_TOP_BIT) (nomark _)) (pw_and (pt_cmpR op_ge (pv 6) (pe_gi rfl T.c_TOP_BIT) (nomark _)) (pw_and1 (pt_cmpR op_eq (pe_op op_shr (pv 7) pe_int) pe_int (nomark _)))))) (pss_cons (ps_set (i := 7) sc_product.nd rfl (Or.inl rfl) (pe_op op_shlB (pv 7) pe_int)) (pss_one (ps_set (i := 8) sc_product.nd rfl (Or.inl rfl) (pe_op op_sub (pv 8) pe_int)))) pss_nil) (pss_one (ps_ret (pe_df (ok_half T) (hr.mono (by decide)) (pa_cons (pv 0) (pa_cons (pv 4) (pa_cons (pv 7) (pa_cons (pv 8) pa_nil)))))))))))))))), ?_⟩
    refine ⟨_, rfl, a, rfl, ha, _, rfl, b, rfl, hb, (by show 2 ≤ sizeLine; decide), fun p hp => ?_⟩
    have k0 : ∀ H', Same (upd H p (.tup [.int (Ql50.exponent a : Nat), .int (Ql50.exponent b : Nat)])) H' → Q (.int (Ql50.word (Ql50.mul h (Ql50.num a) (Ql50.num b)) : Nat)) H' := fun H' e => k H' ((same_tup hp).trans e)
    clear k
    have hq : SqT K (upd H p (.tup [.int (Ql50.exponent a : Nat), .int (Ql50.exponent b : Nat)])) p [.int (Ql50.exponent a : Nat), .int (Ql50.exponent b : Nat)] := SqT.of upd_same
    generalize upd H p (.tup [.int (Ql50.exponent a : Nat), .int (Ql50.exponent b : Nat)]) = H1 at *
    have k1 := k0 H1 fun _ _ e => e
    refine ⟨_, rfl, p, _, rfl, .inr hq, rfl, rfl, _, rfl, ?_⟩
    refine ite2 (fun c => ?_) (fun c => ?_)
    · have c := in_of c
      refine qeq k1 ?_
      rcases c with c | c
      · rw [num_ind (show Ql50.exponent a = 1023 by omega)]; rfl
      · rw [num_ind (show Ql50.exponent b = 1023 by omega)]
        have : Ql50.mul h (Ql50.num a) .indefinite = .indefinite := by cases Ql50.num a <;> rfl
        rw [this]; rfl
    · have ⟨n1, n2⟩ := nin_of c
      refine ⟨_, rfl, a, rfl, _, rfl, b, rfl, rfl, ?_⟩
      rw [bne_of]
      refine ⟨_, rfl, p, _, rfl, .inr hq, rfl, rfl, _, rfl, ?_⟩
      refine ite2 (fun c => ?_) (fun c => ?_)
      · have c := in_of c
        refine ⟨_, rfl, a, rfl, ha, fun H2 s2 => ⟨_, rfl, ?_⟩⟩
        -- the one infinite, the other 0
        have zero : isZ a = true ∨ isZ b = true → Ql50.mul h (Ql50.num a) (Ql50.num b) = .indefinite := by
          rintro (z | z)
          · have z := of_decide_eq_true z
            rw [num_fin (w := a) z.2.1 z.2.2, num_inf (w := b) (by omega)]
            show (if coef a = 0 then _ else _) = _
            rw [if_pos z.1]
          · have z := of_decide_eq_true z
            rw [num_fin (w := b) z.2.1 z.2.2, num_inf (w := a) (by omega)]
            show (if coef b = 0 then _ else _) = _
            rw [if_pos z.1]
        refine ite2 (fun z => ?_) (fun z => ?_)
        · refine iteT ?_
          have k2 := k0 H2 s2
          rw [zero (.inl z)] at k2
          exact k2
        · refine ⟨_, rfl, b, rfl, hb, fun H3 s3 => ⟨_, rfl, ?_⟩⟩
          have k2 := k0 H3 (s2.trans s3)
          refine ite2 (fun z2 => ?_) (fun z2 => ?_)
          · rw [zero (.inr z2)] at k2
            exact k2
          · have za : ¬ (coef a = 0 ∧ Ql50.exponent a ≠ 2047 ∧ Ql50.exponent a ≠ 1023) := no_of z
            have zb : ¬ (coef b = 0 ∧ Ql50.exponent b ≠ 2047 ∧ Ql50.exponent b ≠ 1023) := no_of z2
            refine ⟨_, rfl, (Ql50.negative Ql50.M60 a != Ql50.negative Ql50.M60 b), rfl, ?_⟩
            have e : Ql50.mul h (Ql50.num a) (Ql50.num b) = .infinite (Ql50.negative Ql50.M60 a != Ql50.negative Ql50.M60 b) := by
              by_cases a2 : Ql50.exponent a = 2047
              · rw [num_inf a2]
                by_cases b2 : Ql50.exponent b = 2047
                · rw [num_inf b2]; rfl
                · rw [num_fin (w := b) b2 (by omega)]
                  show (if coef b = 0 then _ else _) = _
                  rw [if_neg (fun q => zb ⟨q, b2, by omega⟩)]
              · rw [num_fin (w := a) a2 (by omega), num_inf (w := b) (by omega)]
                show (if coef a = 0 then _ else _) = _
                rw [if_neg (fun q => za ⟨q, a2, by omega⟩)]
            rw [e] at k2
            exact k2
      · have ⟨i1, i2⟩ := nin_of c
        rw [num_fin (w := a) (by omega) (by omega), num_fin (w := b) (by omega) (by omega), mul_fin] at k1
        have ca := coef_lt48 a
        have cb := coef_lt48 b
        have cm := mul_small ca cb
        have e : (coef a : Int) * (coef b : Int) = ((coef a * coef b : Nat) : Int) := by norm_cast
        refine ⟨_, rfl, a, rfl, ha, _, rfl, b, rfl, hb, _, rfl, _, rfl, _, _, rfl, rfl, .inl ⟨by omega, by omega⟩, _, rfl, p, _, _, _, rfl, rfl, hq, at_of (j := 0) rfl rfl, Ql50.exponent a, rfl,
          _, rfl, p, _, _, _, rfl, rfl, hq, at_of (j := 1) rfl rfl, Ql50.exponent b, rfl, _, _, rfl, rfl, _, rfl, _, _, rfl, rfl, _, rfl, ?_⟩
        dsimp only
        rw [e]
        refine ite2 (fun c1 => ?_) (fun c1 => ?_)
        · have c1 := of_decide_eq_true c1
          refine ⟨_, rfl, _, _, rfl, rfl, _, rfl, ?_⟩
          refine ite2 (fun c2 => ?_) (fun c2 => ?_)
          · have c2 := of_decide_eq_true c2
            refine ⟨_, rfl, _, _, rfl, rfl, (by show (0 : Int) ≤ 95; decide), rfl, _, rfl, ?_⟩
            have e95 : ((coef a * coef b : Nat) : Int) / 2 ^ (95 : Int).toNat = ((coef a * coef b / 2 ^ 95 : Nat) : Int) := shrN _ 95
            refine ite2 (fun c3 => ?_) (fun c3 => ?_)
            · have c3 : ((coef a * coef b : Nat) : Int) / 2 ^ (95 : Int).toNat = 0 := eq_of c3
              rw [e95] at c3
              have h95 : coef a * coef b < 2 ^ 95 := by
                refine Nat.lt_of_not_le fun q => ?_
                have : 0 < coef a * coef b / 2 ^ 95 := Nat.div_pos q (by decide)
                omega
              rw [if_pos ⟨by omega, by omega, h95⟩] at k1
              refine ⟨_, rfl, _, _, rfl, rfl, ⟨by decide, by decide, by omega⟩, _, rfl, _, _, rfl, rfl, _, rfl, _, rfl, _, rfl, _, rfl, h, _, 2 * (coef a * coef b), _, ?_, by omega, k1⟩
              show [V.int (hN h : Nat), V.bl _, V.int (((coef a * coef b : Nat) : Int) * 2 ^ (1 : Int).toNat), V.int _] = _
              rw [show (1 : Int) = ((1 : Nat) : Int) from rfl, shlN, show coef a * coef b * 2 ^ 1 = 2 * (coef a * coef b) by omega]
              all_goals rfl
            · have c3 : ((coef a * coef b : Nat) : Int) / 2 ^ (95 : Int).toNat ≠ 0 := ne_of' c3
              rw [e95] at c3
              have h95 : ¬ coef a * coef b < 2 ^ 95 := fun q => by
                rw [Nat.div_eq_of_lt q] at c3; omega
              rw [if_neg (fun q => h95 q.2.2)] at k1
              exact ⟨_, rfl, _, rfl, _, rfl, _, rfl, h, _, coef a * coef b, _, rfl, by omega, k1⟩
          · have c2 := no_of c2
            refine iteF ?_
            rw [if_neg (fun q => c2 (by omega))] at k1
            exact ⟨_, rfl, _, rfl, _, rfl, _, rfl, h, _, coef a * coef b, _, rfl, by omega, k1⟩
        · have c1 := no_of c1
          refine iteF ?_
          rw [if_neg (fun q => c1 (by omega))] at k1
          exact ⟨_, rfl, _, rfl, _, rfl, _, rfl, h, _, coef a * coef b, _, rfl, by omega, k1⟩
end
end Sx
set_option Elab.async false
set_option linter.all false
set_option maxRecDepth 100000
set_option maxHeartbeats 4000000
namespace Sx
open PySem L2
local macro_rules | `(tactic| walk_at "rd") => `(tactic| repeat (first | refine ⟨_, rfl, ?_⟩ | refine ⟨_, _, rfl, rfl, ?_⟩))
theorem qf {q : Nat} (h : 2 ^ 48 ≤ q) : 2 ^ 48 < q ∨ (q = 2 ^ 48 ∧ false = false) := by
  rcases Nat.lt_or_ge (2 ^ 48) q with k | k
  · exact .inl k
  · exact .inr ⟨by omega, rfl⟩
theorem qf' {q : Nat} (h : ¬ 2 ^ 48 ≤ q) : ¬ (2 ^ 48 < q ∨ (q = 2 ^ 48 ∧ false = false)) := by
  rintro (k | k)
  · omega
  · omega
theorem qt' {q : Nat} (h : ¬ 2 ^ 48 < q) : ¬ (2 ^ 48 < q ∨ (q = 2 ^ 48 ∧ true = false)) := by
  rintro (k | k)
  · omega
  · exact Bool.noConfusion k.2
section
variable {P : Program} {w : World} {K : PySem.W.Frag} {mg : Str → Option Value} {base : Heap} {C : Addr}
theorem sc_finite_quotient : FnScope ["rounded", "negative", "c", "d", "e", "s", "q"] ["rounded", "negative", "c", "d", "e"] (defScope s_finite_quotient) := ⟨rfl, rfl, rfl, by decide +kernel, rfl, by decide +kernel, by decide +kernel⟩
theorem ok_finite_quotient (T : Txt K mg C) : DF P w K mg base "finite_quotient" 4 ["rounded", "negative", "c", "d", "e"] spFinQ := by
  refine df_of T.f_finite_quotient sc_finite_quotient (fun vs H Q E h => ?_) (fun f cdv A outer s H vs Q E hr h => ?_)
  · obtain ⟨r, s, c, d, e, rfl, _⟩ := h; rfl
  · obtain ⟨r, s, c, d, e, rfl, hc, hd, d0, k⟩ := h
    refine ⟨_, (pss_cons (ps_set (i := 5) sc_finite_quotient.nd rfl (Or.inl rfl) (pe_ifExp (pt_cmpR op_lt (pv 2) (pv 3) (nomark _)) pe_int pe_int)) (pss_cons (ps_set (i := 6) sc_finite_quotient.nd rfl (Or.inl rfl) (pe_op op_fdivB (pe_op op_add (pe_op op_shlB (pv 2) (pv 5)) (pe_ifExp (pt_val (pv 0)) (pe_op op_shr (pv 3) pe_int) pe_int)) (pv 3))) (pss_cons (ps_if (PW.pt (pw_and (pt_val (pv 0)) (pw_and1 (pt_cmpR op_eq (pv 6) (pe_op op_add (pe_gi rfl T.c_COEFFICIENT) pe_int) (nomark _))))) (pss_one (ps_ret (pe_df (ok_as_word T) (hr.mono (by decide)) (pa_cons (pv 1) (pa_cons (pe_gi rfl T.c_TOP_BIT) (pa_cons (pe_op op_add (pe_op op_sub (pv 4) (pv 5)) pe_int) pa_nil)))))) pss_nil) (pss_cons (ps_if (pt_cmpR op_gt (pv 6) (pe_gi rfl T.c_COEFFICIENT) (nomark _)) (pss_one (ps_ret (pe_gi rfl T.c_INDEFINITE_WORD))) pss_nil) (pss_one (ps_ret (pe_df (ok_as_word T) (hr.mono (by decide)) (pa_cons (pv 1) (pa_cons (pv 6) (pa_cons (pe_op op_sub (pv 4) (pv 5)) pa_nil)))))))))), ?_⟩
    walk_at "rd"
    refine ite2 (fun c1 => ?a) (fun c1 => ?b)
    case' a =>
      have c1 := of_decide_eq_true c1
      obtain ⟨n, hn⟩ : ∃ n : Nat, n = 48 := ⟨48, rfl⟩
      have hk : (if c < d then 48 else 47) = n := by rw [if_pos (by omega), hn]
      have hin : V.int 48 = V.int (n : Int) := by rw [hn]; rfl
      rw [hin]
    case' b =>
      have c1 := no_of c1
      obtain ⟨n, hn⟩ : ∃ n : Nat, n = 47 := ⟨47, rfl⟩
      have hk : (if c < d then 48 else 47) = n := by rw [if_neg (by omega), hn]
      have hin : V.int 47 = V.int (n : Int) := by rw [hn]; rfl
      rw [hin]
    all_goals
      have hn49 : n < 49 := by omega
      unfold quo at k
      simp only [hk] at k
      clear hin hn hk c1
      have hcn : c * 2 ^ n < 2 ^ 97 := Nat.lt_of_lt_of_le (Nat.mul_lt_mul_of_lt_of_le hc (Nat.pow_le_pow_right (by decide) (show n ≤ 48 by omega)) (Nat.two_pow_pos 48)) (by decide)
      have e1 : (c : Int) * 2 ^ (n : Int).toNat = ((c * 2 ^ n : Nat) : Int) := shlN c n
      have e2 : (d : Int) / 2 ^ (1 : Int).toNat = ((d / 2 : Nat) : Int) := shrN d 1
      cases r with
      | false =>
        rw [if_neg (show ¬ false = true by decide)] at k
        refine ⟨_, rfl, _, rfl, _, _, rfl, rfl, ⟨by omega, by omega, by omega⟩, _, rfl, _, rfl, iteF ⟨_, _, rfl, rfl, _, rfl, _, _, rfl, rfl, ⟨by omega, by omega⟩, ?_⟩⟩
        have eq : ((c : Int) * 2 ^ (n : Int).toNat + 0) / (d : Int) = (((c * 2 ^ n + 0) / d : Nat) : Int) := by rw [e1]; norm_cast
        dsimp only
        rw [eq]
        generalize (c * 2 ^ n + 0) / d = q at *
        refine ⟨_, rfl, _, rfl, iteF (iteF ⟨_, rfl, _, _, rfl, rfl, _, rfl, ?_⟩)⟩
        refine ite2 (fun c2 => ?_) (fun c2 => ?_)
        · have c2 := of_decide_eq_true c2
          rw [if_pos (qf (by omega))] at k
          exact k
        · have c2 := no_of c2
          rw [if_neg (qf' (by omega)), if_neg (by omega)] at k
          exact ⟨_, rfl, _, rfl, _, rfl, _, rfl, _, _, rfl, rfl, s, q, e - n, rfl, by omega, k⟩
      | true =>
        rw [if_pos rfl] at k
        refine ⟨_, rfl, _, rfl, _, _, rfl, rfl, ⟨by omega, by omega, by omega⟩, _, rfl, _, rfl, iteT ⟨_, rfl, _, _, rfl, rfl, (by show (0 : Int) ≤ 1; decide), _, _, rfl, rfl, _, rfl, _, _, rfl, rfl, ⟨by omega, by omega⟩, ?_⟩⟩
        have eq : ((c : Int) * 2 ^ (n : Int).toNat + (d : Int) / 2 ^ (1 : Int).toNat) / (d : Int) = (((c * 2 ^ n + d / 2) / d : Nat) : Int) := by rw [e1, e2]; norm_cast
        dsimp only
        rw [eq]
        generalize (c * 2 ^ n + d / 2) / d = q at *
        refine ⟨_, rfl, _, rfl, iteT ⟨_, rfl, _, _, rfl, rfl, rfl, _, rfl, ?_⟩⟩
        refine ite2 (fun c2 => ?_) (fun c2 => ?_)
        · have c2 := eq_of c2
          rw [if_neg (qt' (by omega)), if_pos (by omega)] at k
          exact ⟨_, rfl, _, rfl, _, rfl, _, _, rfl, rfl, _, _, rfl, rfl, s, 2 ^ 47, e - n + 1, rfl, by decide, k⟩
        · have c2 := ne_of' c2
          refine ⟨_, rfl, _, _, rfl, rfl, _, rfl, ?_⟩
          refine ite2 (fun c3 => ?_) (fun c3 => ?_)
          · have c3 := of_decide_eq_true c3
            rw [if_pos (.inl (by omega))] at k
            exact k
          · have c3 := no_of c3
            rw [if_neg (qt' (by omega)), if_neg (by omega)] at k
            exact ⟨_, rfl, _, rfl, _, rfl, _, rfl, _, _, rfl, rfl, s, q, e - n, rfl, by omega, k⟩
theorem sc_quotient : FnScope ["rounded", "left", "right", "fields", "negative", "c", "d"] ["rounded", "left", "right"] (defScope s_quotient) := ⟨rfl, rfl, rfl, by decide +kernel, rfl, by decide +kernel, by decide +kernel⟩
theorem ok_quotient (T : Txt K mg C) : DF P w K mg base "quotient" 5 ["rounded", "left", "right"] spQuot := by
  refine df_of T.f_quotient sc_quotient (fun vs H Q E h => ?_) (fun f cdv A outer s H vs Q E hr h => ?_)
  · obtain ⟨r, a, b, rfl, _⟩ := h; rfl
  · obtain ⟨r, a, b, rfl, ha, hb, k⟩ := h
    refine ⟨_, (pss_cons (ps_set (i := 3) sc_quotient.nd rfl (Or.inl rfl) (pe_tup (pa_cons (pe_df (ok_exponent_field T) (hr.mono (by decide)) (pa_cons (pv 1) pa_nil)) (pa_cons (pe_df (ok_exponent_field T) (hr.mono (by decide)) (pa_cons (pv 2) pa_nil)) pa_nil)))) (pss_cons (ps_if (pt_cmpR op_in_seq (pe_gi rfl T.c_INDEFINITE) (pv 3) (by with_unfolding_all rfl)) (pss_one (ps_ret (pe_gi rfl T.c_INDEFINITE_WORD))) pss_nil) (pss_cons (ps_set (i := 4) sc_quotient.nd rfl (Or.inl rfl) (pe_cmpR op_ne (pe_df (ok_below_zero T) (hr.mono (by decide)) (pa_cons (pv 1) pa_nil)) (pe_df (ok_below_zero T) (hr.mono (by decide)) (pa_cons (pv 2) pa_nil)) (nomark _))) (pss_cons (ps_if (pt_cmpR op_eq (pe_ix ix_tup (pv 3) pe_int (fun _ _ => rfl)) (pe_gi rfl T.c_INFINITE) (nomark _)) (pss_one (ps_ret (pe_ifExp (pt_cmpR op_eq (pe_ix ix_tup (pv 3) pe_int (fun _ _ => rfl)) (pe_gi rfl T.c_INFINITE) (nomark _)) (pe_gi rfl T.c_INDEFINITE_WORD) (pe_df (ok_infinite T) (hr.mono (by decide)) (pa_cons (pv 4) pa_nil))))) pss_nil) (pss_cons (ps_if (pt_cmpR op_eq (pe_ix ix_tup (pv 3) pe_int (fun _ _ => rfl)) (pe_gi rfl T.c_INFINITE) (nomark _)) (pss_one (ps_ret pe_int)) pss_nil) (pss_cons (ps_set (i := 5) sc_quotient.nd rfl (Or.inl rfl) (pe_df (ok_coefficient T) (hr.mono (by decide)) (pa_cons (pv 1) pa_nil))) (pss_cons (ps_set (i := 6) sc_quotient.nd rfl (Or.inl rfl) (pe_df (ok_coefficient T) (hr.mono (by decide)) (pa_cons (pv 2) pa_nil))) (pss_cons (ps_if (pt_cmpR op_eq (pv 6) pe_int (nomark _)) (pss_one (ps_ret (pe_ifExp (pt_cmpR op_eq (pv 5) pe_int (nomark _)) (pe_gi rfl T.c_INDEFINITE_WORD) (pe_df (ok_infinite T) (hr.mono (by decide)) (pa_cons (pv 4) pa_nil))))) pss_nil) (pss_one (ps_ret (pe_df (ok_finite_quotient T) (hr.mono (by decide)) (pa_cons (pv 0) (pa_cons (pv 4) (pa_cons (pv 5) (pa_cons (pv 6) (pa_cons (pe_op op_sub (pe_df (ok_exponent T) (hr.mono (by decide)) (pa_cons (pe_ix ix_tup (pv 3) pe_int (fun _ _ => rfl)) pa_nil)) (pe_df (ok_exponent T) (hr.mono (by decide)) (pa_cons (pe_ix ix_tup (pv 3) pe_int (fun _ _ => rfl)) pa_nil))) pa_nil)))))))))))))))), ?_⟩
    refine ⟨_, rfl, a, rfl, ha, _, rfl, b, rfl, hb, (by show 2 ≤ sizeLine; decide), fun p hp => ?_⟩
    have k1 := k _ (same_tup (xs := [.int (Ql50.exponent a : Nat), .int (Ql50.exponent b : Nat)]) hp)
    clear k
    have hq : SqT K (upd H p (.tup [.int (Ql50.exponent a : Nat), .int (Ql50.exponent b : Nat)])) p [.int (Ql50.exponent a : Nat), .int (Ql50.exponent b : Nat)] := SqT.of upd_same
    generalize upd H p (.tup [.int (Ql50.exponent a : Nat), .int (Ql50.exponent b : Nat)]) = H1 at *
    refine ⟨_, rfl, p, _, rfl, .inr hq, rfl, rfl, _, rfl, ?_⟩
    refine ite2 (fun c => ?_) (fun c => ?_)
    · have c := in_of c
      refine qeq k1 ?_
      rcases c with c | c
      · rw [num_ind (show Ql50.exponent a = 1023 by omega)]; rfl
      · rw [num_ind (show Ql50.exponent b = 1023 by omega)]
        have : Ql50.div r (Ql50.num a) .indefinite = .indefinite := by cases Ql50.num a <;> rfl
        rw [this]; rfl
    · have ⟨n1, n2⟩ := nin_of c
      refine ⟨_, rfl, a, rfl, _, rfl, b, rfl, rfl, ?_⟩
      rw [bne_of]
      refine ⟨_, rfl, p, _, _, _, rfl, rfl, hq, at_of (j := 0) rfl rfl, rfl, _, rfl, ?_⟩
      refine ite2 (fun c => ?_) (fun c => ?_)
      · have c := eq_of c
        rw [num_inf (w := a) (by omega)] at k1
        refine ⟨_, rfl, p, _, _, _, rfl, rfl, hq, at_of (j := 1) rfl rfl, rfl, _, rfl, ?_⟩
        refine ite2 (fun c2 => ?_) (fun c2 => ?_)
        · have c2 := eq_of c2
          rw [num_inf (w := b) (by omega)] at k1
          exact k1
        · have c2 := ne_of' c2
          rw [num_fin (w := b) (by omega) (by omega)] at k1
          exact ⟨_, rfl, _, rfl, k1⟩
      · have c := ne_of' c
        rw [num_fin (w := a) (by omega) (by omega)] at k1
        refine ⟨_, rfl, p, _, _, _, rfl, rfl, hq, at_of (j := 1) rfl rfl, rfl, _, rfl, ?_⟩
        refine ite2 (fun c2 => ?_) (fun c2 => ?_)
        · have c2 := eq_of c2
          rw [num_inf (w := b) (by omega)] at k1
          have e : ∀ b : Bool, Ql50.word (.finite b 0 0) = 0 := fun b => by
            show (if (0 : Nat) = 0 ∨ (0 : Int) < -1023 then 0 else if (1022 : Int) < 0 then Ql50.signed b (2047 * 2 ^ 48) else Ql50.signed b ((if (0 : Int) < 0 then (0 : Int) + 1023 else 0 + 1024).toNat * 2 ^ 48 + 0)) = 0
            rw [if_pos (Or.inl rfl)]
          exact qeq k1 (congrArg (fun n : Nat => (n : Int)) (e _)).symm
        · have c2 := ne_of' c2
          rw [num_fin (w := b) (by omega) (by omega)] at k1
          have ca := coef_lt48 a
          have cb := coef_lt48 b
          refine ⟨_, rfl, a, rfl, ha, _, rfl, b, rfl, hb, _, rfl, rfl, _, rfl, ?_⟩
          refine ite2 (fun c3 => ?_) (fun c3 => ?_)
          · have c3 := eq_of c3
            have e : ∀ (s t : Bool) (c d : Nat) (e f : Int), d = 0 → Ql50.div r (.finite s c e) (.finite t d f) = if c = 0 then .indefinite else .infinite (s != t) := by
              intro s t c d e f hd
              show (if d = 0 then _ else _) = _
              rw [if_pos hd]
            rw [e _ _ _ _ _ _ (by omega)] at k1
            refine ⟨_, rfl, rfl, _, rfl, ?_⟩
            refine ite2 (fun c4 => ?_) (fun c4 => ?_)
            · have c4 := eq_of c4
              rw [if_pos (by omega)] at k1
              exact k1
            · have c4 := ne_of' c4
              rw [if_neg (by omega)] at k1
              exact ⟨_, rfl, _, rfl, k1⟩
          · have c3 := ne_of' c3
            rw [div_fin (by omega)] at k1
            exact ⟨_, rfl, _, rfl, _, rfl, _, rfl, _, rfl, p, _, _, _, rfl, rfl, hq, at_of (j := 0) rfl rfl, Ql50.exponent a, rfl, _, rfl, p, _, _, _, rfl, rfl, hq, at_of (j := 1) rfl rfl, Ql50.exponent b, rfl, _, _, rfl, rfl,
              r, _, coef a, coef b, _, rfl, ca, cb, by omega, k1⟩
end
end Sx
set_option Elab.async false
set_option linter.all false
set_option maxRecDepth 100000
set_option maxHeartbeats 4000000
namespace Sx
open PySem L2
local macro_rules | `(tactic| walk_at "rd") => `(tactic| repeat (first | refine ⟨_, rfl, ?_⟩ | refine ⟨_, _, rfl, rfl, ?_⟩))
section
variable {P : Program} {w : World} {K : PySem.W.Frag} {mg : Str → Option Value} {base : Heap} {C : Addr}
theorem sc_normalizing_shift : FnScope ["word"] ["word"] (defScope s_normalizing_shift) := ⟨rfl, rfl, rfl, by decide +kernel, rfl, by decide +kernel, by decide +kernel⟩
theorem ok_normalizing_shift (T : Txt K mg C) : DF P w K mg base "normalizing_shift" 3 ["word"] spShift := by
  refine df_of T.f_normalizing_shift sc_normalizing_shift (fun vs H Q E h => ?_) (fun f cdv A outer s H vs Q E hr h => ?_)
  · obtain ⟨a, rfl, _⟩ := h; rfl
  · obtain ⟨a, rfl, ha, k⟩ := h
    rw [normal_snd] at k
    refine ⟨_, (pss_cons (ps_if (pt_cmpR op_in_seq (pe_df (ok_exponent_field T) (hr.mono (by decide)) (pa_cons (pv 0) pa_nil)) (pe_tup (pa_cons (pe_gi rfl T.c_INFINITE) (pa_cons (pe_gi rfl T.c_INDEFINITE) pa_nil))) (by with_unfolding_all rfl)) (pss_one (ps_ret pe_int)) pss_nil) (pss_one (ps_ret (pe_op op_sub pe_int (pe_bm0 PySem.F.plainAttrs_int PyProof.Rows.slot_int_bit_length PyProof.Rows.type_int_bit_length mt_bitlen (pe_df (ok_coefficient T) (hr.mono (by decide)) (pa_cons (pv 0) pa_nil))))))), ?_⟩
    refine ⟨_, rfl, a, rfl, ha, (by show 2 ≤ sizeLine; decide), fun p hp => ⟨p, _, rfl, .inr (SqT.of upd_same), rfl, rfl, _, rfl, ?_⟩⟩
    have k1 := k _ (same_tup (xs := [.int 2047, .int 1023]) hp)
    refine ite2 (fun c => ?_) (fun c => ?_)
    · have c := in_of c
      rw [if_pos (by omega)] at k1
      exact k1
    · have c := nin_of c
      rw [if_neg (by omega)] at k1
      refine ⟨_, rfl, a, rfl, ha, rfl, _, rfl, rfl, _, _, rfl, rfl, ?_⟩
      refine qeq k1 ?_
      have h48 := coef_lt48 a
      rw [lead_eq _ h48]
      have e : Builtin.Int.intBits (coef a : Int) = if coef a = 0 then 0 else (coef a).log2 + 1 := by
        unfold Builtin.Int.intBits
        by_cases q : coef a = 0
        · rw [q]; rfl
        · rw [if_neg (by simpa using q), if_neg q]; rfl
      rw [e]
      by_cases q : coef a = 0
      · rw [if_pos q]; rfl
      · rw [if_neg q]
        have := log2_lt48 _ h48 q
        omega
theorem sc_normalized : FnScope ["rounded", "word", "field", "n", "c"] ["rounded", "word"] (defScope s_normalized) := ⟨rfl, rfl, rfl, by decide +kernel, rfl, by decide +kernel, by decide +kernel⟩
theorem ok_normalized (T : Txt K mg C) : DF P w K mg base "normalized" 5 ["rounded", "word"] spNormal := by
  refine df_of T.f_normalized sc_normalized (fun vs H Q E h => ?_) (fun f cdv A outer s H vs Q E hr h => ?_)
  · obtain ⟨r, a, rfl, _⟩ := h; rfl
  · obtain ⟨r, a, rfl, ha, k⟩ := h
    refine ⟨_, (pss_cons (ps_set (i := 2) sc_normalized.nd rfl (Or.inl rfl) (pe_df (ok_exponent_field T) (hr.mono (by decide)) (pa_cons (pv 1) pa_nil))) (pss_cons (ps_if (pt_cmpR op_in_seq (pv 2) (pe_tup (pa_cons (pe_gi rfl T.c_INFINITE) (pa_cons (pe_gi rfl T.c_INDEFINITE) pa_nil))) (by with_unfolding_all rfl)) (pss_one (ps_ret (pv 1))) pss_nil) (pss_cons (ps_set (i := 3) sc_normalized.nd rfl (Or.inl rfl) (pe_df (ok_normalizing_shift T) (hr.mono (by decide)) (pa_cons (pv 1) pa_nil))) (pss_cons (ps_set (i := 4) sc_normalized.nd rfl (Or.inl rfl) (pe_op op_shlB (pe_df (ok_coefficient T) (hr.mono (by decide)) (pa_cons (pv 1) pa_nil)) (pv 3))) (pss_cons (ps_if (PW.pt (pw_and (pt_val (pv 0)) (pw_and (pt_cmpR op_ne (pv 4) pe_int (nomark _)) (pw_and1 (pt_cmpR op_gt (pv 3) pe_int (nomark _)))))) (pss_one (ps_set (i := 4) sc_normalized.nd rfl (Or.inl rfl) (pe_op op_or (pv 4) (pe_op op_shlB pe_int (pe_op op_sub (pv 3) pe_int))))) pss_nil) (pss_one (ps_ret (pe_df (ok_as_word T) (hr.mono (by decide)) (pa_cons (pe_df (ok_below_zero T) (hr.mono (by decide)) (pa_cons (pv 1) pa_nil)) (pa_cons (pv 4) (pa_cons (pe_op op_sub (pe_df (ok_exponent T) (hr.mono (by decide)) (pa_cons (pv 2) pa_nil)) (pv 3)) pa_nil))))))))))), ?_⟩
    refine ⟨_, rfl, a, rfl, ha, _, rfl, (by show 2 ≤ sizeLine; decide), fun p hp => ⟨p, _, rfl, .inr (SqT.of upd_same), rfl, rfl, _, rfl, ?_⟩⟩
    have k0 : Giv _ Q _ := fun H' e => k H' ((same_tup (xs := [.int 2047, .int 1023]) hp).trans e)
    clear k
    generalize upd H p _ = H1 at *
    refine ite2 (fun c => ?_) (fun c => ?_)
    · have c := in_of c
      refine ⟨_, rfl, ?_⟩
      have k1 := k0 H1 fun _ _ e => e
      rw [normal_inf (by omega)] at k1
      exact k1
    · have c := nin_of c
      refine ⟨_, rfl, a, rfl, ha, fun H2 s2 => ?_⟩
      have k1 := k0 H2 s2
      rw [normal_fin (by omega) (by omega)] at k1
      have en : (Ql50.normal false a).2 = Ql50.lead (coef a) := by rw [normal_snd, if_neg (by omega)]
      rw [en]
      have h48 := coef_lt48 a
      have hl : Ql50.lead (coef a) ≤ 48 := by unfold Ql50.lead; split <;> omega
      have hfull : coef a ≠ 0 → coef a * 2 ^ Ql50.lead (coef a) + 2 ^ Ql50.lead (coef a) ≤ 2 ^ 48 := norm_lt _ h48
      have hpos := Nat.two_pow_pos (Ql50.lead (coef a))
      have hz : coef a = 0 → Ql50.lead (coef a) = 48 := fun z => by unfold Ql50.lead; rw [if_pos z]
      have e1 : (coef a : Int) * 2 ^ (Ql50.lead (coef a) : Int).toNat = ((coef a * 2 ^ Ql50.lead (coef a) : Nat) : Int) := shlN _ _
      have hor := norm_or (coef a) (Ql50.lead (coef a))
      generalize Ql50.lead (coef a) = n at *
      refine ⟨_, rfl, a, rfl, ha, _, rfl, _, _, rfl, rfl, ⟨by omega, by omega, by omega⟩, ?_⟩
      dsimp only
      rw [e1]
      refine ⟨_, rfl, _, rfl, ?_⟩
      by_cases z : coef a = 0
      · -- nothing to shift
        rw [if_pos z] at k1
        have hw : ∀ (s : Bool) (e : Int), Ql50.word (.finite s 0 e) = 0 := fun s e => by
          show (if (0 : Nat) = 0 ∨ e < -1023 then 0 else if 1022 < e then Ql50.signed s (2047 * 2 ^ 48) else Ql50.signed s ((if e < 0 then e + 1023 else e + 1024).toNat * 2 ^ 48 + 0)) = 0
          rw [if_pos (Or.inl rfl)]
        have hc0 : coef a * 2 ^ n = 0 := by rw [z, Nat.zero_mul]
        rw [hc0]
        have fin : Q (.int (Ql50.word (.finite (Ql50.negative Ql50.M60 a) 0 (expo (Ql50.exponent a) - n)) : Nat)) H2 := by rw [hw]; exact k1
        refine ite2 (fun c1 => ?_) (fun c1 => ?_)
        · refine ⟨_, rfl, rfl, _, rfl, ?_⟩
          refine ite2 (fun c2 => ?_) (fun c2 => ?_)
          · have c2 := nz_of c2
            omega
          · refine iteF ?_
            exact ⟨_, rfl, a, rfl, _, rfl, _, rfl, Ql50.exponent a, rfl, _, rfl, _, _, rfl, rfl, _, 0, _, rfl, by decide, fin⟩
        · refine iteF ?_
          exact ⟨_, rfl, a, rfl, _, rfl, _, rfl, Ql50.exponent a, rfl, _, rfl, _, _, rfl, rfl, _, 0, _, rfl, by decide, fin⟩
      · rw [if_neg z] at k1
        have hf := hfull z
        have hc0 : coef a * 2 ^ n ≠ 0 := Nat.mul_ne_zero z (by omega)
        refine ite2 (fun c1 => ?_) (fun c1 => ?_)
        · have c1 : r = true := c1
          refine ⟨_, rfl, rfl, _, rfl, ?_⟩
          refine ite2 (fun c2 => ?_) (fun c2 => ?_)
          · refine ⟨_, rfl, _, _, rfl, rfl, _, rfl, ?_⟩
            refine ite2 (fun c3 => ?_) (fun c3 => ?_)
            · have c3 := of_decide_eq_true c3
              have n0 : 0 < n := by omega
              rw [if_pos ⟨c1, n0⟩] at k1
              have hp : 2 ^ (n - 1) < 2 ^ n := Nat.pow_lt_pow_right (by decide) (by omega)
              refine ⟨_, rfl, _, rfl, _, _, rfl, rfl, _, _, rfl, rfl, ⟨by omega, by omega, by decide⟩, _, _, rfl, rfl, ?_⟩
              have eo : Builtin.bitOr ((coef a * 2 ^ n : Nat) : Int) (1 * 2 ^ ((n : Int) - 1).toNat) = ((coef a * 2 ^ n + 2 ^ (n - 1) : Nat) : Int) := by
                rw [show (n : Int) - 1 = ((n - 1 : Nat) : Int) by omega, show (1 : Int) = ((1 : Nat) : Int) from rfl, shlN, bOr, Nat.one_mul, hor n0]
              dsimp only
              rw [eo]
              exact ⟨_, rfl, a, rfl, _, rfl, _, rfl, Ql50.exponent a, rfl, _, rfl, _, _, rfl, rfl, _, coef a * 2 ^ n + 2 ^ (n - 1), _, rfl, by omega, k1⟩
            · have c3 := no_of c3
              rw [if_neg (fun q => c3 (by omega))] at k1
              exact ⟨_, rfl, a, rfl, _, rfl, _, rfl, Ql50.exponent a, rfl, _, rfl, _, _, rfl, rfl, _, coef a * 2 ^ n, _, rfl, by omega, k1⟩
          · have c2 := z_of c2
            omega
        · refine iteF ?_
          rw [if_neg (fun q => c1 q.1)] at k1
          exact ⟨_, rfl, a, rfl, _, rfl, _, rfl, Ql50.exponent a, rfl, _, rfl, _, _, rfl, rfl, _, coef a * 2 ^ n, _, rfl, by omega, k1⟩
end
end Sx
set_option Elab.async false
set_option linter.all false
set_option maxRecDepth 100000
set_option maxHeartbeats 4000000
namespace Sx
open PySem L2
/-- where a machine's objects stand -/
structure Ads where
  p : Addr
  dx : Addr
  lx : Addr
  la : Addr
  lb : Addr
  lm : Addr
def regs (n : Nat) (f : Nat → Nat) : List V := (List.range n).map fun k => V.int (f k : Nat)
theorem regs_len (n : Nat) (f : Nat → Nat) : (regs n f).length = n := by unfold regs; rw [List.length_map, List.length_range]
theorem regs_get {n : Nat} {f : Nat → Nat} {k : Nat} (h : k < n) : (regs n f)[k]? = some (V.int (f k : Nat)) := by
  unfold regs
  rw [List.getElem?_map, List.getElem?_range h]; rfl
theorem regs_set (n : Nat) (f : Nat → Nat) (k v : Nat) : (regs n f).set k (V.int (v : Nat)) = regs n (Ql50.upd f k v) := by
  apply List.ext_getElem?
  intro i
  by_cases hi : i < n
  · rw [regs_get hi]
    by_cases hk : k = i
    · subst hk
      rw [List.getElem?_set_self (by rw [regs_len]; exact hi)]
      unfold Ql50.upd; rw [if_pos rfl]
    · rw [List.getElem?_set_ne hk, regs_get hi]
      unfold Ql50.upd; rw [if_neg (fun e => hk e.symm)]
  · rw [List.getElem?_eq_none (by rw [List.length_set, regs_len]; omega), List.getElem?_eq_none (by rw [regs_len]; omega)]
theorem lk_eq {f : Str} {u : V} {r : List (Str × V)} : ((f, u) :: r).lookup f = some u := by simp [List.lookup]
theorem lk_ne {f g : Str} {u : V} {r : List (Str × V)} (h : g ≠ f) : ((f, u) :: r).lookup g = r.lookup g := by
  have : (g == f) = false := by simpa using h
  simp [List.lookup, this]
theorem pf_eq {f : Str} {u v : V} {r : List (Str × V)} : putF f v ((f, u) :: r) = (f, v) :: r := by
  show (if f = f then (f, v) :: r else _) = _
  rw [if_pos rfl]
theorem pf_ne {f g : Str} {u v : V} {r : List (Str × V)} (h : g ≠ f) : putF f v ((g, u) :: r) = (g, u) :: putF f v r := by
  show (if g = f then (g, v) :: r else _) = _
  rw [if_neg h]
theorem ne_x_a : ("x" : Str) ≠ "a" := by decide +kernel
theorem ne_x_b : ("x" : Str) ≠ "b" := by decide +kernel
theorem ne_x_memory : ("x" : Str) ≠ "memory" := by decide +kernel
theorem ne_x_at : ("x" : Str) ≠ "at" := by decide +kernel
theorem ne_x_why : ("x" : Str) ≠ "why" := by decide +kernel
theorem ne_a_x : ("a" : Str) ≠ "x" := by decide +kernel
theorem ne_a_b : ("a" : Str) ≠ "b" := by decide +kernel
theorem ne_a_memory : ("a" : Str) ≠ "memory" := by decide +kernel
theorem ne_a_at : ("a" : Str) ≠ "at" := by decide +kernel
theorem ne_a_why : ("a" : Str) ≠ "why" := by decide +kernel
theorem ne_b_x : ("b" : Str) ≠ "x" := by decide +kernel
theorem ne_b_a : ("b" : Str) ≠ "a" := by decide +kernel
theorem ne_b_memory : ("b" : Str) ≠ "memory" := by decide +kernel
theorem ne_b_at : ("b" : Str) ≠ "at" := by decide +kernel
theorem ne_b_why : ("b" : Str) ≠ "why" := by decide +kernel
theorem ne_memory_x : ("memory" : Str) ≠ "x" := by decide +kernel
theorem ne_memory_a : ("memory" : Str) ≠ "a" := by decide +kernel
theorem ne_memory_b : ("memory" : Str) ≠ "b" := by decide +kernel
theorem ne_memory_at : ("memory" : Str) ≠ "at" := by decide +kernel
theorem ne_memory_why : ("memory" : Str) ≠ "why" := by decide +kernel
theorem ne_at_x : ("at" : Str) ≠ "x" := by decide +kernel
theorem ne_at_a : ("at" : Str) ≠ "a" := by decide +kernel
theorem ne_at_b : ("at" : Str) ≠ "b" := by decide +kernel
theorem ne_at_memory : ("at" : Str) ≠ "memory" := by decide +kernel
theorem ne_at_why : ("at" : Str) ≠ "why" := by decide +kernel
theorem ne_why_x : ("why" : Str) ≠ "x" := by decide +kernel
theorem ne_why_a : ("why" : Str) ≠ "a" := by decide +kernel
theorem ne_why_b : ("why" : Str) ≠ "b" := by decide +kernel
theorem ne_why_memory : ("why" : Str) ≠ "memory" := by decide +kernel
theorem ne_why_at : ("why" : Str) ≠ "at" := by decide +kernel
def mf (A : Ads) (z y : Int) : List (Str × V) := [("x", .ref A.lx), ("a", .ref A.la), ("b", .ref A.lb), ("memory", .ref A.lm), ("at", .int z), ("why", .int y)]
theorem mf_x {A : Ads} {z y : Int} : (mf A z y).lookup ("x" : Str) = some (.ref A.lx) := by unfold mf; rw [lk_eq]
theorem mf_a {A : Ads} {z y : Int} : (mf A z y).lookup ("a" : Str) = some (.ref A.la) := by unfold mf; rw [lk_ne ne_a_x, lk_eq]
theorem mf_b {A : Ads} {z y : Int} : (mf A z y).lookup ("b" : Str) = some (.ref A.lb) := by unfold mf; rw [lk_ne ne_b_x, lk_ne ne_b_a, lk_eq]
theorem mf_memory {A : Ads} {z y : Int} : (mf A z y).lookup ("memory" : Str) = some (.ref A.lm) := by unfold mf; rw [lk_ne ne_memory_x, lk_ne ne_memory_a, lk_ne ne_memory_b, lk_eq]
theorem mf_at_get {A : Ads} {z y : Int} : (mf A z y).lookup ("at" : Str) = some (.int z) := by unfold mf; rw [lk_ne ne_at_x, lk_ne ne_at_a, lk_ne ne_at_b, lk_ne ne_at_memory, lk_eq]
theorem mf_why_get {A : Ads} {z y : Int} : (mf A z y).lookup ("why" : Str) = some (.int y) := by unfold mf; rw [lk_ne ne_why_x, lk_ne ne_why_a, lk_ne ne_why_b, lk_ne ne_why_memory, lk_ne ne_why_at, lk_eq]
theorem mf_at {A : Ads} {z y v : Int} : putF "at" (.int v) (mf A z y) = mf A v y := by unfold mf; rw [pf_ne ne_x_at, pf_ne ne_a_at, pf_ne ne_b_at, pf_ne ne_memory_at, pf_eq]
theorem mf_why {A : Ads} {z y v : Int} : putF "why" (.int v) (mf A z y) = mf A z v := by unfold mf; rw [pf_ne ne_x_why, pf_ne ne_a_why, pf_ne ne_b_why, pf_ne ne_memory_why, pf_ne ne_at_why, pf_eq]
theorem mf_no {A : Ads} {z y : Int} {m : Str} (h0 : m ≠ "x") (h1 : m ≠ "a") (h2 : m ≠ "b") (h3 : m ≠ "memory") (h4 : m ≠ "at") (h5 : m ≠ "why") : (mf A z y).lookup m = none := by unfold mf; rw [lk_ne h0, lk_ne h1, lk_ne h2, lk_ne h3, lk_ne h4, lk_ne h5]; rfl
theorem pf_nil {f : Str} {v : V} : putF f v [] = [(f, v)] := rfl
theorem mf_new {A : Ads} : putF "why" (.int 0) (putF "at" (.int 0) (putF "memory" (.ref A.lm) (putF "b" (.ref A.lb) (putF "a" (.ref A.la) (putF "x" (.ref A.lx) ([])))))) = mf A 0 0 := by unfold mf; rw [pf_nil, pf_ne ne_x_a, pf_nil, pf_ne ne_x_b, pf_ne ne_a_b, pf_nil, pf_ne ne_x_memory, pf_ne ne_a_memory, pf_ne ne_b_memory, pf_nil, pf_ne ne_x_at, pf_ne ne_a_at, pf_ne ne_b_at, pf_ne ne_memory_at, pf_nil, pf_ne ne_x_why, pf_ne ne_a_why, pf_ne ne_b_why, pf_ne ne_memory_why, pf_ne ne_at_why, pf_nil]
theorem mf_anew {A B : Ads} {z y : Int} : putF "why" (.int 0) (putF "at" (.int 0) (putF "memory" (.ref A.lm) (putF "b" (.ref A.lb) (putF "a" (.ref A.la) (putF "x" (.ref A.lx) (mf B z y)))))) = mf A 0 0 := by unfold mf; rw [pf_eq, pf_ne ne_x_a, pf_eq, pf_ne ne_x_b, pf_ne ne_a_b, pf_eq, pf_ne ne_x_memory, pf_ne ne_a_memory, pf_ne ne_b_memory, pf_eq, pf_ne ne_x_at, pf_ne ne_a_at, pf_ne ne_b_at, pf_ne ne_memory_at, pf_eq, pf_ne ne_x_why, pf_ne ne_a_why, pf_ne ne_b_why, pf_ne ne_memory_why, pf_ne ne_at_why, pf_eq]

structure Mach (C : Addr) (H : Hp) (A : Ads) (M : Ql50.St) : Prop where
  ob : H A.p = some (.ins C A.dx (mf A ((4 * M.p + M.q : Nat) : Int) (M.why : Nat)))
  x : H A.lx = some (.lst (regs 8 M.x))
  a : H A.la = some (.lst (regs 8 M.a))
  b : H A.lb = some (.lst (regs 8 M.b))
  m : H A.lm = some (.lst (regs 65536 M.mem))
  xa : A.lx ≠ A.la
  xb : A.lx ≠ A.lb
  xm : A.lx ≠ A.lm
  ab : A.la ≠ A.lb
  am : A.la ≠ A.lm
  bm : A.lb ≠ A.lm
  wf : WF M
/-- all else stays -/
def Keep (A : Ads) (H H' : Hp) : Prop := ∀ b o, H b = some o → b ≠ A.p → b ≠ A.lx → b ≠ A.la → b ≠ A.lb → b ≠ A.lm → H' b = some o
theorem Keep.of_same {A : Ads} {H H' : Hp} (s : Same H H') : Keep A H H' := fun b o e _ _ _ _ _ => s b o e
theorem Keep.refl {A : Ads} {H : Hp} : Keep A H H := fun _ _ e _ _ _ _ _ => e
theorem Keep.trans {A : Ads} {H H1 H2 : Hp} (a : Keep A H H1) (b : Keep A H1 H2) : Keep A H H2 := fun c o e h1 h2 h3 h4 h5 => b c o (a c o e h1 h2 h3 h4 h5) h1 h2 h3 h4 h5
section
variable {C : Addr} {H H' : Hp} {A : Ads} {M : Ql50.St}
theorem Mach.same (h : Mach C H A M) (s : Same H H') : Mach C H' A M := ⟨s _ _ h.ob, s _ _ h.x, s _ _ h.a, s _ _ h.b, s _ _ h.m, h.xa, h.xb, h.xm, h.ab, h.am, h.bm, h.wf⟩
theorem Mach.px (h : Mach C H A M) : A.p ≠ A.lx := ne_of h.ob h.x (by intro z; cases z)
theorem Mach.pa (h : Mach C H A M) : A.p ≠ A.la := ne_of h.ob h.a (by intro z; cases z)
theorem Mach.pb (h : Mach C H A M) : A.p ≠ A.lb := ne_of h.ob h.b (by intro z; cases z)
theorem Mach.pm (h : Mach C H A M) : A.p ≠ A.lm := ne_of h.ob h.m (by intro z; cases z)
theorem Mach.setX (h : Mach C H A M) (i : Nat) {v : Nat} (hv : v < 2 ^ 60) : Mach C (upd H A.lx (.lst ((regs 8 M.x).set i (.int (v : Nat))))) A (M.setX i v) := by
  rw [regs_set]
  exact ⟨by rw [upd_ne h.px]; exact h.ob, upd_same, by rw [upd_ne h.xa.symm]; exact h.a, by rw [upd_ne h.xb.symm]; exact h.b, by rw [upd_ne h.xm.symm]; exact h.m, h.xa, h.xb, h.xm, h.ab, h.am, h.bm, h.wf.setX i hv⟩
theorem Mach.keepX {o : HO} : Keep A H (upd H A.lx o) := fun b u e _ h _ _ _ => by rw [upd_ne h]; exact e
theorem Mach.keepA {o : HO} : Keep A H (upd H A.la o) := fun b u e _ _ h _ _ => by rw [upd_ne h]; exact e
theorem Mach.keepB {o : HO} : Keep A H (upd H A.lb o) := fun b u e _ _ _ h _ => by rw [upd_ne h]; exact e
theorem Mach.keepM {o : HO} : Keep A H (upd H A.lm o) := fun b u e _ _ _ _ h => by rw [upd_ne h]; exact e
theorem Mach.keepP {o : HO} : Keep A H (upd H A.p o) := fun b u e h _ _ _ _ => by rw [upd_ne h]; exact e
theorem Mach.putB (h : Mach C H A M) {i : Nat} (hi : i ≠ 0) {v : Nat} (hv : v ≤ 262143) : Mach C (upd H A.lb (.lst ((regs 8 M.b).set i (.int (v : Nat))))) A (M.setB i v) := by
  have e : M.setB i v = { M with b := Ql50.upd M.b i v } := by unfold Ql50.St.setB; rw [if_neg hi]
  have w := h.wf.setB i hv
  rw [e] at w ⊢
  rw [regs_set]
  exact ⟨by rw [upd_ne h.pb]; exact h.ob, by rw [upd_ne h.xb]; exact h.x, by rw [upd_ne h.ab]; exact h.a, upd_same, by rw [upd_ne h.bm.symm]; exact h.m, h.xa, h.xb, h.xm, h.ab, h.am, h.bm, w⟩
theorem Mach.putM (h : Mach C H A M) (i : Nat) {v : Nat} (hv : v < 2 ^ 60) : Mach C (upd H A.lm (.lst ((regs 65536 M.mem).set i (.int (v : Nat))))) A { M with mem := Ql50.upd M.mem i v } := by
  rw [regs_set]
  exact ⟨by rw [upd_ne h.pm]; exact h.ob, by rw [upd_ne h.xm]; exact h.x, by rw [upd_ne h.am]; exact h.a, by rw [upd_ne h.bm]; exact h.b, upd_same, h.xa, h.xb, h.xm, h.ab, h.am, h.bm, h.wf.setMem i hv⟩
theorem Mach.putA (h : Mach C H A M) (i : Nat) {v : Nat} (hv : v ≤ 262143) : Mach C (upd H A.la (.lst ((regs 8 M.a).set i (.int (v : Nat))))) A { M with a := Ql50.upd M.a i v } := by
  rw [regs_set]
  exact ⟨by rw [upd_ne h.pa]; exact h.ob, by rw [upd_ne h.xa]; exact h.x, upd_same, by rw [upd_ne h.ab.symm]; exact h.b, by rw [upd_ne h.am.symm]; exact h.m, h.xa, h.xb, h.xm, h.ab, h.am, h.bm, ⟨upd_all (P := fun z => z ≤ 262143) h.wf.a hv, h.wf.b, h.wf.b0, h.wf.x, h.wf.mem, h.wf.p, h.wf.q⟩⟩
/-- why is set -/
theorem Mach.putWhy (h : Mach C H A M) {y : Nat} : Mach C (upd H A.p (.ins C A.dx (putF "why" (.int (y : Nat)) (mf A ((4 * M.p + M.q : Nat) : Int) (M.why : Nat))))) A { M with why := y } := by
  rw [mf_why]
  exact ⟨upd_same, by rw [upd_ne h.px.symm]; exact h.x, by rw [upd_ne h.pa.symm]; exact h.a, by rw [upd_ne h.pb.symm]; exact h.b, by rw [upd_ne h.pm.symm]; exact h.m, h.xa, h.xb, h.xm, h.ab, h.am, h.bm, ⟨h.wf.a, h.wf.b, h.wf.b0, h.wf.x, h.wf.mem, h.wf.p, h.wf.q⟩⟩
/-- at is set -/
theorem Mach.putAt (h : Mach C H A M) {p q : Nat} {z : Int} (hz : z = ((4 * p + q : Nat) : Int)) (hp : p ≤ 262143) (hq : q ≤ 3) : Mach C (upd H A.p (.ins C A.dx (putF "at" (.int z) (mf A ((4 * M.p + M.q : Nat) : Int) (M.why : Nat))))) A { M with p := p, q := q } := by
  rw [mf_at, hz]
  exact ⟨upd_same, by rw [upd_ne h.px.symm]; exact h.x, by rw [upd_ne h.pa.symm]; exact h.a, by rw [upd_ne h.pb.symm]; exact h.b, by rw [upd_ne h.pm.symm]; exact h.m, h.xa, h.xb, h.xm, h.ab, h.am, h.bm, ⟨h.wf.a, h.wf.b, h.wf.b0, h.wf.x, h.wf.mem, hp, hq⟩⟩
end
/-- m.x[j] and the like, both plain names -/
def tReg (C : Addr) (sel : Ql50.St → Nat → Nat) (im ij : Nat) : TE := fun σ H Q => ∃ (A : Ads) (M : Ql50.St) (j : Nat), σ[im]? = some (some (.ref A.p)) ∧ σ[ij]? = some (some (.int (j : Nat))) ∧ Mach C H A M ∧ j < 8 ∧ Q (.int (sel M j : Nat)) H
section
variable {X : Cx} {C : Addr} {xm xj : Str} {p1 p2 p3 pos : Pos}
theorem ix_nat {n j : Nat} (h : j < n) : ixN n (j : Int) = some j := by
  unfold ixN
  rw [if_pos (by omega), if_pos (by omega)]; simp
theorem pe_regX (T : Txt X.K X.mg C) (im ij : Nat) (hm : PE X (.Name xm p1) (tVar im) := by exact pv _) (hj : PE X (.Name xj p3) (tVar ij) := by exact pv _)
    (hb : attributeBase (.Name xm p1) "x" X.env (eval (.Name xm p1) X.env) = eval (.Name xm p1) X.env := by rfl) :
    PE X (.Subscript (.Attribute (.Name xm p1) "x" p2) (.Name xj p3) pos) (tReg C (·.x) im ij) :=
  PE.imp (pe_ix ix_list (pe_fld hm hb) hj (fun _ _ => rfl)) fun σ H Q ⟨A, M, j, e1, e2, hM, hj8, q⟩ =>
    ⟨_, e1, A.p, C, A.dx, _, _, rfl, hM.ob, T.cl, T.nX, mf_x, _, e2, A.lx, _, _, _, rfl, rfl, SqL.of hM.x, atI_nat (regs_get hj8), q⟩
theorem pe_regA (T : Txt X.K X.mg C) (im ij : Nat) (hm : PE X (.Name xm p1) (tVar im) := by exact pv _) (hj : PE X (.Name xj p3) (tVar ij) := by exact pv _)
    (hb : attributeBase (.Name xm p1) "a" X.env (eval (.Name xm p1) X.env) = eval (.Name xm p1) X.env := by rfl) :
    PE X (.Subscript (.Attribute (.Name xm p1) "a" p2) (.Name xj p3) pos) (tReg C (·.a) im ij) :=
  PE.imp (pe_ix ix_list (pe_fld hm hb) hj (fun _ _ => rfl)) fun σ H Q ⟨A, M, j, e1, e2, hM, hj8, q⟩ =>
    ⟨_, e1, A.p, C, A.dx, _, _, rfl, hM.ob, T.cl, T.nA, mf_a, _, e2, A.la, _, _, _, rfl, rfl, SqL.of hM.a, atI_nat (regs_get hj8), q⟩
theorem pe_regB (T : Txt X.K X.mg C) (im ij : Nat) (hm : PE X (.Name xm p1) (tVar im) := by exact pv _) (hj : PE X (.Name xj p3) (tVar ij) := by exact pv _)
    (hb : attributeBase (.Name xm p1) "b" X.env (eval (.Name xm p1) X.env) = eval (.Name xm p1) X.env := by rfl) :
    PE X (.Subscript (.Attribute (.Name xm p1) "b" p2) (.Name xj p3) pos) (tReg C (·.b) im ij) :=
  PE.imp (pe_ix ix_list (pe_fld hm hb) hj (fun _ _ => rfl)) fun σ H Q ⟨A, M, j, e1, e2, hM, hj8, q⟩ =>
    ⟨_, e1, A.p, C, A.dx, _, _, rfl, hM.ob, T.cl, T.nB, mf_b, _, e2, A.lb, _, _, _, rfl, rfl, SqL.of hM.b, atI_nat (regs_get hj8), q⟩
end
end Sx
set_option Elab.async false
set_option linter.all false
set_option maxRecDepth 100000
set_option maxHeartbeats 4000000
namespace Sx
open PySem L2
theorem c60_lt (x : Nat) : Ql50.M60 - x < 2 ^ 60 := by rw [M60v]; omega
theorem int_sub60 {x : Nat} (h : x < 2 ^ 60) : (1152921504606846975 : Int) - (x : Int) = ((1152921504606846975 - x : Nat) : Int) := by omega
theorem setB_x (m : Ql50.St) (i v : Nat) : (m.setB i v).x = m.x := by unfold Ql50.St.setB; split <;> rfl
theorem setXB (m : Ql50.St) (i v j u : Nat) : (m.setX i v).setB j u = (m.setB j u).setX i v := by unfold Ql50.St.setB; split <;> rfl
theorem setX_self (m : Ql50.St) (i : Nat) : m.setX i (m.x i) = m := by
  have : Ql50.upd m.x i (m.x i) = m.x := by
    funext k; unfold Ql50.upd; split
    · rename_i h; rw [h]
    · rfl
  unfold Ql50.St.setX; rw [this]
theorem size18 (b : Nat) : Ql50.size Ql50.M18 b = if 131072 ≤ b then 262143 - b else b := by
  unfold Ql50.size; rw [neg18, M18v]
  by_cases c : 131072 ≤ b
  · rw [if_pos (decide_eq_true c), if_pos c]
  · rw [if_neg (by rw [decide_eq_true_iff]; exact c), if_neg c]
theorem byB_t1 (x b : Nat) (h : ¬ 131072 ≤ b) : Ql50.byB true x b = Ql50.left x (b % 64) := by
  unfold Ql50.byB; rw [neg18, decide_eq_false h, if_neg (by decide), size18, if_neg h]
theorem byB_t2 (x b : Nat) (h : 131072 ≤ b) : Ql50.byB true x b = Ql50.right x ((262143 - b) % 4096) := by
  unfold Ql50.byB; rw [neg18, decide_eq_true h, if_pos rfl, size18, if_pos h]
theorem byB_f1 (x b : Nat) (h : ¬ 131072 ≤ b) : Ql50.byB false x b = Ql50.right x (b % 4096) := by
  unfold Ql50.byB; rw [neg18, decide_eq_false h, if_pos rfl, size18, if_neg h]
theorem byB_f2 (x b : Nat) (h : 131072 ≤ b) : Ql50.byB false x b = Ql50.left x ((262143 - b) % 64) := by
  unfold Ql50.byB; rw [neg18, decide_eq_true h, if_neg (by decide), size18, if_pos h]
def spSetB (C : Addr) : Sp := fun vs H Q _ => ∃ (A : Ads) (M : Ql50.St) (i v : Nat), vs = [.ref A.p, .int i, .int v] ∧ Mach C H A M ∧ i < 8 ∧ v ≤ 262143 ∧ ∀ H', Mach C H' A (M.setB i v) → Keep A H H' → Q .non H'
/-- an instruction that sets Xi to what it hands back -/
def spRes (C : Addr) (f : Nat) : Sp := fun vs H Q _ => ∃ (A : Ads) (M : Ql50.St) (i j k : Nat), vs = [.ref A.p, .int i, .int j, .int k] ∧ Mach C H A M ∧ i < 8 ∧ j < 8 ∧ k < 8 ∧
  ∀ (H' : Hp) (M' : Ql50.St) (v : Nat), Mach C H' A M' → Keep A H H' → v < 2 ^ 60 → (∀ here n, M.act here f i j k n = .ok (M'.setX i v)) → Q (.int v) H'
section
variable {P : Program} {w : World} {K : PySem.W.Frag} {mg : Str → Option Value} {base : Heap} {C : Addr}
theorem sc_Machine_set_b : FnScope ["self", "i", "number"] ["self", "i", "number"] (defScope s_Machine_set_b) := ⟨rfl, rfl, rfl, by decide +kernel, rfl, by decide +kernel, by decide +kernel⟩
theorem ok_Machine_set_b (T : Txt K mg C) : DM P w K mg base C "set_b" 1 ["self", "i", "number"] (spSetB C) := by
  refine dm_of T.m_set_b sc_Machine_set_b (fun vs H Q E h => ?_) (fun f cdv A outer s H vs Q E hr h => ?_)
  · obtain ⟨A, M, i, v, rfl, _⟩ := h; rfl
  · obtain ⟨A, M, i, v, rfl, hM, hi, hv, q⟩ := h
    refine ⟨_, (pss_one (ps_if (pt_cmpR op_ne (pv 1) pe_int (nomark _)) (pss_one (ps_asg (pv 2) (pg_sub (pe_fld (pv 0) rfl) (pv 1) set_list))) pss_nil)), ?_⟩
    refine ⟨_, rfl, rfl, _, rfl, ?_⟩
    refine ite2 (fun c => ?_) (fun c => ?_)
    · have c := nz_of c
      refine ⟨_, rfl, _, rfl, A.p, C, A.dx, _, _, rfl, hM.ob, T.cl, T.nB, mf_b, _, rfl, A.lb, _, _, i, rfl, rfl, hM.b, by rw [regs_len]; exact ix_nat hi, ?_⟩
      exact q _ (hM.putB (by omega) hv) Mach.keepB
    · have c := z_of c
      have e : M.setB i v = M := by unfold Ql50.St.setB; rw [if_pos (by omega)]
      exact q H (by rw [e]; exact hM) Keep.refl
theorem sc_copied : FnScope ["m", "i", "j", "k"] ["m", "i", "j", "k"] (defScope s_copied) := ⟨rfl, rfl, rfl, by decide +kernel, rfl, by decide +kernel, by decide +kernel⟩
theorem ok_copied (T : Txt K mg C) : DF P w K mg base "copied" 6 ["m", "i", "j", "k"] (spRes C 8) := by
  refine df_of T.f_copied sc_copied (fun vs H Q E h => ?_) (fun f cdv A outer s H vs Q E hr h => ?_)
  · obtain ⟨A, M, i, j, k, rfl, _⟩ := h; rfl
  · obtain ⟨A, M, i, j, k, rfl, hM, hi, hj, hk, q⟩ := h
    refine ⟨_, (pss_one (ps_ret (pe_regX (C := C) T 0 2))), ?_⟩
    exact ⟨A, M, j, rfl, rfl, hM, hj, q H M _ hM Keep.refl (hM.wf.x j) fun _ _ => rfl⟩
theorem sc_both : FnScope ["m", "i", "j", "k"] ["m", "i", "j", "k"] (defScope s_both) := ⟨rfl, rfl, rfl, by decide +kernel, rfl, by decide +kernel, by decide +kernel⟩
theorem ok_both (T : Txt K mg C) : DF P w K mg base "both" 6 ["m", "i", "j", "k"] (spRes C 9) := by
  refine df_of T.f_both sc_both (fun vs H Q E h => ?_) (fun f cdv A outer s H vs Q E hr h => ?_)
  · obtain ⟨A, M, i, j, k, rfl, _⟩ := h; rfl
  · obtain ⟨A, M, i, j, k, rfl, hM, hi, hj, hk, q⟩ := h
    refine ⟨_, (pss_one (ps_ret (pe_op op_and (pe_regX (C := C) T 0 2) (pe_regX (C := C) T 0 3)))), ?_⟩
    refine ⟨A, M, j, rfl, rfl, hM, hj, A, M, k, rfl, rfl, hM, hk, _, _, rfl, rfl, ?_⟩
    exact qeq (q H M (M.x j &&& M.x k) hM Keep.refl (and_lt (hM.wf.x j)) fun _ _ => rfl) (bAnd _ _)
theorem sc_either : FnScope ["m", "i", "j", "k"] ["m", "i", "j", "k"] (defScope s_either) := ⟨rfl, rfl, rfl, by decide +kernel, rfl, by decide +kernel, by decide +kernel⟩
theorem ok_either (T : Txt K mg C) : DF P w K mg base "either" 6 ["m", "i", "j", "k"] (spRes C 10) := by
  refine df_of T.f_either sc_either (fun vs H Q E h => ?_) (fun f cdv A outer s H vs Q E hr h => ?_)
  · obtain ⟨A, M, i, j, k, rfl, _⟩ := h; rfl
  · obtain ⟨A, M, i, j, k, rfl, hM, hi, hj, hk, q⟩ := h
    refine ⟨_, (pss_one (ps_ret (pe_op op_or (pe_regX (C := C) T 0 2) (pe_regX (C := C) T 0 3)))), ?_⟩
    refine ⟨A, M, j, rfl, rfl, hM, hj, A, M, k, rfl, rfl, hM, hk, _, _, rfl, rfl, ?_⟩
    exact qeq (q H M (M.x j ||| M.x k) hM Keep.refl (Nat.or_lt_two_pow (hM.wf.x j) (hM.wf.x k)) fun _ _ => rfl) (bOr _ _)
theorem sc_one_alone : FnScope ["m", "i", "j", "k"] ["m", "i", "j", "k"] (defScope s_one_alone) := ⟨rfl, rfl, rfl, by decide +kernel, rfl, by decide +kernel, by decide +kernel⟩
theorem ok_one_alone (T : Txt K mg C) : DF P w K mg base "one_alone" 6 ["m", "i", "j", "k"] (spRes C 11) := by
  refine df_of T.f_one_alone sc_one_alone (fun vs H Q E h => ?_) (fun f cdv A outer s H vs Q E hr h => ?_)
  · obtain ⟨A, M, i, j, k, rfl, _⟩ := h; rfl
  · obtain ⟨A, M, i, j, k, rfl, hM, hi, hj, hk, q⟩ := h
    refine ⟨_, (pss_one (ps_ret (pe_op op_xor (pe_regX (C := C) T 0 2) (pe_regX (C := C) T 0 3)))), ?_⟩
    refine ⟨A, M, j, rfl, rfl, hM, hj, A, M, k, rfl, rfl, hM, hk, _, _, rfl, rfl, ?_⟩
    exact qeq (q H M (M.x j ^^^ M.x k) hM Keep.refl (Nat.xor_lt_two_pow (hM.wf.x j) (hM.wf.x k)) fun _ _ => rfl) (bXor _ _)
theorem sc_complement : FnScope ["m", "i", "j", "k"] ["m", "i", "j", "k"] (defScope s_complement) := ⟨rfl, rfl, rfl, by decide +kernel, rfl, by decide +kernel, by decide +kernel⟩
theorem ok_complement (T : Txt K mg C) : DF P w K mg base "complement" 6 ["m", "i", "j", "k"] (spRes C 12) := by
  refine df_of T.f_complement sc_complement (fun vs H Q E h => ?_) (fun f cdv A outer s H vs Q E hr h => ?_)
  · obtain ⟨A, M, i, j, k, rfl, _⟩ := h; rfl
  · obtain ⟨A, M, i, j, k, rfl, hM, hi, hj, hk, q⟩ := h
    refine ⟨_, (pss_one (ps_ret (pe_op op_sub (pe_gi rfl T.c_ONES60) (pe_regX (C := C) T 0 3)))), ?_⟩
    refine ⟨A, M, k, rfl, rfl, hM, hk, _, _, rfl, rfl, ?_⟩
    exact qeq (q H M (Ql50.M60 - M.x k) hM Keep.refl (c60_lt _) fun _ _ => rfl) ((show (1152921504606846975 : Int) - (M.x k : Int) = ((Ql50.M60 - M.x k : Nat) : Int) by rw [M60v]; have := hM.wf.x k; omega))
theorem sc_both_complement : FnScope ["m", "i", "j", "k"] ["m", "i", "j", "k"] (defScope s_both_complement) := ⟨rfl, rfl, rfl, by decide +kernel, rfl, by decide +kernel, by decide +kernel⟩
theorem ok_both_complement (T : Txt K mg C) : DF P w K mg base "both_complement" 6 ["m", "i", "j", "k"] (spRes C 13) := by
  refine df_of T.f_both_complement sc_both_complement (fun vs H Q E h => ?_) (fun f cdv A outer s H vs Q E hr h => ?_)
  · obtain ⟨A, M, i, j, k, rfl, _⟩ := h; rfl
  · obtain ⟨A, M, i, j, k, rfl, hM, hi, hj, hk, q⟩ := h
    refine ⟨_, (pss_one (ps_ret (pe_op op_and (pe_regX (C := C) T 0 2) (pe_op op_sub (pe_gi rfl T.c_ONES60) (pe_regX (C := C) T 0 3))))), ?_⟩
    refine ⟨A, M, j, rfl, rfl, hM, hj, A, M, k, rfl, rfl, hM, hk, _, _, rfl, rfl, _, _, rfl, rfl, ?_⟩
    exact qeq (q H M (M.x j &&& (Ql50.M60 - M.x k)) hM Keep.refl (and_lt (hM.wf.x j)) fun _ _ => rfl) (by rw [(show (1152921504606846975 : Int) - (M.x k : Int) = ((Ql50.M60 - M.x k : Nat) : Int) by rw [M60v]; have := hM.wf.x k; omega), bAnd])
theorem sc_either_complement : FnScope ["m", "i", "j", "k"] ["m", "i", "j", "k"] (defScope s_either_complement) := ⟨rfl, rfl, rfl, by decide +kernel, rfl, by decide +kernel, by decide +kernel⟩
theorem ok_either_complement (T : Txt K mg C) : DF P w K mg base "either_complement" 6 ["m", "i", "j", "k"] (spRes C 14) := by
  refine df_of T.f_either_complement sc_either_complement (fun vs H Q E h => ?_) (fun f cdv A outer s H vs Q E hr h => ?_)
  · obtain ⟨A, M, i, j, k, rfl, _⟩ := h; rfl
  · obtain ⟨A, M, i, j, k, rfl, hM, hi, hj, hk, q⟩ := h
    refine ⟨_, (pss_one (ps_ret (pe_op op_or (pe_regX (C := C) T 0 2) (pe_op op_sub (pe_gi rfl T.c_ONES60) (pe_regX (C := C) T 0 3))))), ?_⟩
    refine ⟨A, M, j, rfl, rfl, hM, hj, A, M, k, rfl, rfl, hM, hk, _, _, rfl, rfl, _, _, rfl, rfl, ?_⟩
    exact qeq (q H M (M.x j ||| (Ql50.M60 - M.x k)) hM Keep.refl (Nat.or_lt_two_pow (hM.wf.x j) (c60_lt _)) fun _ _ => rfl) (by rw [(show (1152921504606846975 : Int) - (M.x k : Int) = ((Ql50.M60 - M.x k : Nat) : Int) by rw [M60v]; have := hM.wf.x k; omega), bOr])
theorem sc_one_alone_complement : FnScope ["m", "i", "j", "k"] ["m", "i", "j", "k"] (defScope s_one_alone_complement) := ⟨rfl, rfl, rfl, by decide +kernel, rfl, by decide +kernel, by decide +kernel⟩
theorem ok_one_alone_complement (T : Txt K mg C) : DF P w K mg base "one_alone_complement" 6 ["m", "i", "j", "k"] (spRes C 15) := by
  refine df_of T.f_one_alone_complement sc_one_alone_complement (fun vs H Q E h => ?_) (fun f cdv A outer s H vs Q E hr h => ?_)
  · obtain ⟨A, M, i, j, k, rfl, _⟩ := h; rfl
  · obtain ⟨A, M, i, j, k, rfl, hM, hi, hj, hk, q⟩ := h
    refine ⟨_, (pss_one (ps_ret (pe_op op_xor (pe_regX (C := C) T 0 2) (pe_op op_sub (pe_gi rfl T.c_ONES60) (pe_regX (C := C) T 0 3))))), ?_⟩
    refine ⟨A, M, j, rfl, rfl, hM, hj, A, M, k, rfl, rfl, hM, hk, _, _, rfl, rfl, _, _, rfl, rfl, ?_⟩
    exact qeq (q H M (M.x j ^^^ (Ql50.M60 - M.x k)) hM Keep.refl (Nat.xor_lt_two_pow (hM.wf.x j) (c60_lt _)) fun _ _ => rfl) (by rw [(show (1152921504606846975 : Int) - (M.x k : Int) = ((Ql50.M60 - M.x k : Nat) : Int) by rw [M60v]; have := hM.wf.x k; omega), bXor])
theorem sc_left_by_jk : FnScope ["m", "i", "j", "k"] ["m", "i", "j", "k"] (defScope s_left_by_jk) := ⟨rfl, rfl, rfl, by decide +kernel, rfl, by decide +kernel, by decide +kernel⟩
theorem ok_left_by_jk (T : Txt K mg C) : DF P w K mg base "left_by_jk" 6 ["m", "i", "j", "k"] (spRes C 16) := by
  refine df_of T.f_left_by_jk sc_left_by_jk (fun vs H Q E h => ?_) (fun f cdv A outer s H vs Q E hr h => ?_)
  · obtain ⟨A, M, i, j, k, rfl, _⟩ := h; rfl
  · obtain ⟨A, M, i, j, k, rfl, hM, hi, hj, hk, q⟩ := h
    refine ⟨_, (pss_one (ps_ret (pe_df (ok_left_around T) (hr.mono (by decide)) (pa_cons (pe_regX (C := C) T 0 1) (pa_cons (pe_op op_add (pe_op op_mul pe_int (pv 2)) (pv 3)) pa_nil))))), ?_⟩
    exact ⟨A, M, i, rfl, rfl, hM, hi, _, rfl, _, _, rfl, rfl, .inl ⟨by decide, by decide⟩, _, rfl, _, _, rfl, rfl, M.x i, 8 * j + k, rfl, hM.wf.x i, q H M _ hM Keep.refl (left_lt _ _ (hM.wf.x i)) fun _ _ => rfl⟩
theorem sc_right_by_jk : FnScope ["m", "i", "j", "k"] ["m", "i", "j", "k"] (defScope s_right_by_jk) := ⟨rfl, rfl, rfl, by decide +kernel, rfl, by decide +kernel, by decide +kernel⟩
theorem ok_right_by_jk (T : Txt K mg C) : DF P w K mg base "right_by_jk" 6 ["m", "i", "j", "k"] (spRes C 17) := by
  refine df_of T.f_right_by_jk sc_right_by_jk (fun vs H Q E h => ?_) (fun f cdv A outer s H vs Q E hr h => ?_)
  · obtain ⟨A, M, i, j, k, rfl, _⟩ := h; rfl
  · obtain ⟨A, M, i, j, k, rfl, hM, hi, hj, hk, q⟩ := h
    refine ⟨_, (pss_one (ps_ret (pe_df (ok_right_with_sign T) (hr.mono (by decide)) (pa_cons (pe_regX (C := C) T 0 1) (pa_cons (pe_op op_add (pe_op op_mul pe_int (pv 2)) (pv 3)) pa_nil))))), ?_⟩
    exact ⟨A, M, i, rfl, rfl, hM, hi, _, rfl, _, _, rfl, rfl, .inl ⟨by decide, by decide⟩, _, rfl, _, _, rfl, rfl, M.x i, 8 * j + k, rfl, hM.wf.x i, q H M _ hM Keep.refl (right_lt _ _ (hM.wf.x i)) fun _ _ => rfl⟩
theorem sc_left_by_b : FnScope ["m", "i", "j", "k", "n"] ["m", "i", "j", "k"] (defScope s_left_by_b) := ⟨rfl, rfl, rfl, by decide +kernel, rfl, by decide +kernel, by decide +kernel⟩
theorem ok_left_by_b (T : Txt K mg C) : DF P w K mg base "left_by_b" 6 ["m", "i", "j", "k"] (spRes C 18) := by
  refine df_of T.f_left_by_b sc_left_by_b (fun vs H Q E h => ?_) (fun f cdv A outer s H vs Q E hr h => ?_)
  · obtain ⟨A, M, i, j, k, rfl, _⟩ := h; rfl
  · obtain ⟨A, M, i, j, k, rfl, hM, hi, hj, hk, q⟩ := h
    refine ⟨_, (pss_cons (ps_set (i := 4) sc_left_by_b.nd rfl (Or.inl rfl) (pe_regB (C := C) T 0 2)) (pss_cons (ps_if (pt_cmpR op_lt (pv 4) (pe_gi rfl T.c_SIGN18) (nomark _)) (pss_one (ps_ret (pe_df (ok_left_around T) (hr.mono (by decide)) (pa_cons (pe_regX (C := C) T 0 3) (pa_cons (pe_op op_mod (pv 4) pe_int) pa_nil))))) pss_nil) (pss_one (ps_ret (pe_df (ok_right_with_sign T) (hr.mono (by decide)) (pa_cons (pe_regX (C := C) T 0 3) (pa_cons (pe_op op_mod (pe_op op_sub (pe_gi rfl T.c_ONES18) (pv 4)) pe_int) pa_nil))))))), ?_⟩
    have hb := hM.wf.b j
    refine ⟨A, M, j, rfl, rfl, hM, hj, _, rfl, _, _, rfl, rfl, _, rfl, ?_⟩
    dsimp only
    with_reducible refine ite2 (fun c => ?_) (fun c => ?_)
    · have c := of_decide_eq_true c
      have q' := q H M (Ql50.byB true (M.x k) (M.b j)) hM Keep.refl (by rw [byB_t1 _ _ (by omega)]; exact left_lt _ _ (hM.wf.x k)) fun _ _ => rfl
      rw [byB_t1 _ _ (by omega)] at q'
      exact ⟨A, M, k, rfl, rfl, hM, hk, _, rfl, _, _, rfl, rfl, (by show (0 : Int) < 64; decide), M.x k, M.b j % 64, (by dsimp only; rw [show (M.b j : Int) % 64 = ((M.b j % 64 : Nat) : Int) by omega] <;> rfl), hM.wf.x k, q'⟩
    · have c := no_of c
      have q' := q H M (Ql50.byB true (M.x k) (M.b j)) hM Keep.refl (by rw [byB_t2 _ _ (by omega)]; exact right_lt _ _ (hM.wf.x k)) fun _ _ => rfl
      rw [byB_t2 _ _ (by omega)] at q'
      refine ⟨A, M, k, rfl, rfl, hM, hk, _, rfl, _, _, rfl, rfl, _, _, rfl, rfl, (by show (0 : Int) < 4096; decide), M.x k, (262143 - M.b j) % 4096, ?_, hM.wf.x k, q'⟩
      dsimp only
      rw [show ((262143 : Int) - (M.b j : Int)) % 4096 = (((262143 - M.b j) % 4096 : Nat) : Int) by omega] <;> rfl
theorem sc_right_by_b : FnScope ["m", "i", "j", "k", "n"] ["m", "i", "j", "k"] (defScope s_right_by_b) := ⟨rfl, rfl, rfl, by decide +kernel, rfl, by decide +kernel, by decide +kernel⟩
theorem ok_right_by_b (T : Txt K mg C) : DF P w K mg base "right_by_b" 6 ["m", "i", "j", "k"] (spRes C 19) := by
  refine df_of T.f_right_by_b sc_right_by_b (fun vs H Q E h => ?_) (fun f cdv A outer s H vs Q E hr h => ?_)
  · obtain ⟨A, M, i, j, k, rfl, _⟩ := h; rfl
  · obtain ⟨A, M, i, j, k, rfl, hM, hi, hj, hk, q⟩ := h
    refine ⟨_, (pss_cons (ps_set (i := 4) sc_right_by_b.nd rfl (Or.inl rfl) (pe_regB (C := C) T 0 2)) (pss_cons (ps_if (pt_cmpR op_lt (pv 4) (pe_gi rfl T.c_SIGN18) (nomark _)) (pss_one (ps_ret (pe_df (ok_right_with_sign T) (hr.mono (by decide)) (pa_cons (pe_regX (C := C) T 0 3) (pa_cons (pe_op op_mod (pv 4) pe_int) pa_nil))))) pss_nil) (pss_one (ps_ret (pe_df (ok_left_around T) (hr.mono (by decide)) (pa_cons (pe_regX (C := C) T 0 3) (pa_cons (pe_op op_mod (pe_op op_sub (pe_gi rfl T.c_ONES18) (pv 4)) pe_int) pa_nil))))))), ?_⟩
    have hb := hM.wf.b j
    refine ⟨A, M, j, rfl, rfl, hM, hj, _, rfl, _, _, rfl, rfl, _, rfl, ?_⟩
    dsimp only
    with_reducible refine ite2 (fun c => ?_) (fun c => ?_)
    · have c := of_decide_eq_true c
      have q' := q H M (Ql50.byB false (M.x k) (M.b j)) hM Keep.refl (by rw [byB_f1 _ _ (by omega)]; exact right_lt _ _ (hM.wf.x k)) fun _ _ => rfl
      rw [byB_f1 _ _ (by omega)] at q'
      exact ⟨A, M, k, rfl, rfl, hM, hk, _, rfl, _, _, rfl, rfl, (by show (0 : Int) < 4096; decide), M.x k, M.b j % 4096, (by dsimp only; rw [show (M.b j : Int) % 4096 = ((M.b j % 4096 : Nat) : Int) by omega] <;> rfl), hM.wf.x k, q'⟩
    · have c := no_of c
      have q' := q H M (Ql50.byB false (M.x k) (M.b j)) hM Keep.refl (by rw [byB_f2 _ _ (by omega)]; exact left_lt _ _ (hM.wf.x k)) fun _ _ => rfl
      rw [byB_f2 _ _ (by omega)] at q'
      refine ⟨A, M, k, rfl, rfl, hM, hk, _, rfl, _, _, rfl, rfl, _, _, rfl, rfl, (by show (0 : Int) < 64; decide), M.x k, (262143 - M.b j) % 64, ?_, hM.wf.x k, q'⟩
      dsimp only
      rw [show ((262143 : Int) - (M.b j : Int)) % 64 = (((262143 - M.b j) % 64 : Nat) : Int) by omega] <;> rfl
theorem sc_normalize : FnScope ["m", "i", "j", "k"] ["m", "i", "j", "k"] (defScope s_normalize) := ⟨rfl, rfl, rfl, by decide +kernel, rfl, by decide +kernel, by decide +kernel⟩
theorem ok_normalize (T : Txt K mg C) : DF P w K mg base "normalize" 6 ["m", "i", "j", "k"] (spRes C 20) := by
  refine df_of T.f_normalize sc_normalize (fun vs H Q E h => ?_) (fun f cdv A outer s H vs Q E hr h => ?_)
  · obtain ⟨A, M, i, j, k, rfl, _⟩ := h; rfl
  · obtain ⟨A, M, i, j, k, rfl, hM, hi, hj, hk, q⟩ := h
    refine ⟨_, (pss_cons (ps_expr (pe_mt T.cl (ok_Machine_set_b T) (hr.mono (by decide)) (pv 0) (pa_cons (pv 2) (pa_cons (pe_df (ok_normalizing_shift T) (hr.mono (by decide)) (pa_cons (pe_regX (C := C) T 0 3) pa_nil)) pa_nil)))) (pss_one (ps_ret (pe_df (ok_normalized T) (hr.mono (by decide)) (pa_cons pe_bl (pa_cons (pe_regX (C := C) T 0 3) pa_nil)))))), ?_⟩
    have hn := normal_lt false _ (hM.wf.x k)
    have hn0 : (Ql50.normal false (M.x k)).2 = (Ql50.normal false (M.x k)).2 := (normal_snd false _).trans (normal_snd false _).symm
    refine ⟨_, rfl, A.p, A.dx, _, rfl, hM.ob, mf_no (by decide +kernel) (by decide +kernel) (by decide +kernel) (by decide +kernel) (by decide +kernel) (by decide +kernel), _, rfl, A, M, k, rfl, rfl, hM, hk, M.x k, rfl, hM.wf.x k, fun H1 s1 => ⟨A, M, j, _, rfl, hM.same s1, hj, by rw [hn0]; omega, fun H2 hM2 k2 => ?_⟩⟩
    rw [hn0] at hM2
    refine ⟨A, _, k, rfl, rfl, hM2, hk, false, M.x k, by show [V.bl false, V.int (((M.setB j (Ql50.normal false (M.x k)).2).x k : Nat) : Int)] = _; rw [setB_x], hM.wf.x k, fun H3 s3 => ?_⟩
    exact q H3 _ _ (hM2.same s3) (((Keep.of_same s1).trans k2).trans (Keep.of_same s3)) hn.1 fun _ _ => by rw [← setXB]; rfl
theorem sc_normalize_rounded : FnScope ["m", "i", "j", "k"] ["m", "i", "j", "k"] (defScope s_normalize_rounded) := ⟨rfl, rfl, rfl, by decide +kernel, rfl, by decide +kernel, by decide +kernel⟩
theorem ok_normalize_rounded (T : Txt K mg C) : DF P w K mg base "normalize_rounded" 6 ["m", "i", "j", "k"] (spRes C 21) := by
  refine df_of T.f_normalize_rounded sc_normalize_rounded (fun vs H Q E h => ?_) (fun f cdv A outer s H vs Q E hr h => ?_)
  · obtain ⟨A, M, i, j, k, rfl, _⟩ := h; rfl
  · obtain ⟨A, M, i, j, k, rfl, hM, hi, hj, hk, q⟩ := h
    refine ⟨_, (pss_cons (ps_expr (pe_mt T.cl (ok_Machine_set_b T) (hr.mono (by decide)) (pv 0) (pa_cons (pv 2) (pa_cons (pe_df (ok_normalizing_shift T) (hr.mono (by decide)) (pa_cons (pe_regX (C := C) T 0 3) pa_nil)) pa_nil)))) (pss_one (ps_ret (pe_df (ok_normalized T) (hr.mono (by decide)) (pa_cons pe_bl (pa_cons (pe_regX (C := C) T 0 3) pa_nil)))))), ?_⟩
    have hn := normal_lt true _ (hM.wf.x k)
    have hn0 : (Ql50.normal false (M.x k)).2 = (Ql50.normal true (M.x k)).2 := (normal_snd false _).trans (normal_snd true _).symm
    refine ⟨_, rfl, A.p, A.dx, _, rfl, hM.ob, mf_no (by decide +kernel) (by decide +kernel) (by decide +kernel) (by decide +kernel) (by decide +kernel) (by decide +kernel), _, rfl, A, M, k, rfl, rfl, hM, hk, M.x k, rfl, hM.wf.x k, fun H1 s1 => ⟨A, M, j, _, rfl, hM.same s1, hj, by rw [hn0]; omega, fun H2 hM2 k2 => ?_⟩⟩
    rw [hn0] at hM2
    refine ⟨A, _, k, rfl, rfl, hM2, hk, true, M.x k, by show [V.bl true, V.int (((M.setB j (Ql50.normal true (M.x k)).2).x k : Nat) : Int)] = _; rw [setB_x], hM.wf.x k, fun H3 s3 => ?_⟩
    exact q H3 _ _ (hM2.same s3) (((Keep.of_same s1).trans k2).trans (Keep.of_same s3)) hn.1 fun _ _ => by rw [← setXB]; rfl
theorem sc_unpack : FnScope ["m", "i", "j", "k", "word", "turned"] ["m", "i", "j", "k"] (defScope s_unpack) := ⟨rfl, rfl, rfl, by decide +kernel, rfl, by decide +kernel, by decide +kernel⟩
theorem ok_unpack (T : Txt K mg C) : DF P w K mg base "unpack" 6 ["m", "i", "j", "k"] (spRes C 22) := by
  refine df_of T.f_unpack sc_unpack (fun vs H Q E h => ?_) (fun f cdv A outer s H vs Q E hr h => ?_)
  · obtain ⟨A, M, i, j, k, rfl, _⟩ := h; rfl
  · obtain ⟨A, M, i, j, k, rfl, hM, hi, hj, hk, q⟩ := h
    refine ⟨_, (pss_cons (ps_set (i := 4) sc_unpack.nd rfl (Or.inl rfl) (pe_regX (C := C) T 0 3)) (pss_cons (ps_set (i := 5) sc_unpack.nd rfl (Or.inl rfl) (pe_op op_xor (pe_df (ok_exponent_field T) (hr.mono (by decide)) (pa_cons (pv 4) pa_nil)) pe_int)) (pss_cons (ps_expr (pe_mt T.cl (ok_Machine_set_b T) (hr.mono (by decide)) (pv 0) (pa_cons (pv 2) (pa_cons (pe_ifExp (pt_cmpR op_ge (pv 5) pe_int (nomark _)) (pe_op op_or (pv 5) pe_int) (pv 5)) pa_nil)))) (pss_one (ps_ret (pe_df (ok_with_sign T) (hr.mono (by decide)) (pa_cons (pe_df (ok_coefficient T) (hr.mono (by decide)) (pa_cons (pv 4) pa_nil)) (pa_cons (pe_df (ok_below_zero T) (hr.mono (by decide)) (pa_cons (pv 4) pa_nil)) pa_nil)))))))), ?_⟩
    have hx := hM.wf.x k
    have he := expo_lt _ hx
    have ht : Ql50.exponent (M.x k) ^^^ 1024 < 2048 := Nat.xor_lt_two_pow (n := 11) he (by decide)
    have ex : Builtin.bitXor (Ql50.exponent (M.x k) : Int) 1024 = ((Ql50.exponent (M.x k) ^^^ 1024 : Nat) : Int) := bXor _ 1024
    refine ⟨A, M, k, rfl, rfl, hM, hk, _, rfl, M.x k, rfl, hx, _, _, rfl, rfl, ?_⟩
    dsimp only
    rw [ex]
    refine ⟨_, rfl, A.p, A.dx, _, rfl, hM.ob, mf_no (by decide +kernel) (by decide +kernel) (by decide +kernel) (by decide +kernel) (by decide +kernel) (by decide +kernel), _, rfl, _, rfl, _, _, rfl, rfl, _, rfl, ?_⟩
    have fin : ∀ (H2 : Hp), Mach C H2 A (M.setB j (if Ql50.exponent (M.x k) < 1024 then Ql50.exponent (M.x k) + 1024 + (Ql50.M18 - 2047) else Ql50.exponent (M.x k) - 1024)) → Keep A H H2 → Q (.int (Ql50.signed (Ql50.negative Ql50.M60 (M.x k)) (coef (M.x k)) : Nat)) H2 := fun H2 hM2 k2 =>
      q H2 _ _ hM2 k2 (signed_lt _ _ (Nat.lt_trans (coef_lt48 _) (by decide))) fun _ _ => by rw [← setXB]; rfl
    have hxr := xor_bit10 _ he
    refine ite2 (fun c => ?_) (fun c => ?_)
    · have c := of_decide_eq_true c
      have hlt : Ql50.exponent (M.x k) < 1024 := by
        refine Nat.lt_of_not_le fun z => ?_
        rw [if_neg (by omega)] at hxr; omega
      rw [if_pos hlt] at hxr fin
      refine ⟨_, rfl, _, _, rfl, rfl, A, M, j, Ql50.exponent (M.x k) + 1024 + (Ql50.M18 - 2047), ?_, hM, hj, by rw [M18v]; omega, fun H2 hM2 k2 => ?_⟩
      · dsimp only
        rw [show (260096 : Int) = ((260096 : Nat) : Int) from rfl, bOr, or_774000 _ ht, hxr, M18v] <;> rfl
      · exact ⟨_, rfl, M.x k, rfl, hx, _, rfl, M.x k, rfl, coef (M.x k), _, rfl, Nat.lt_trans (coef_lt48 _) (by decide), fin H2 hM2 k2⟩
    · have c := no_of c
      have hlt : ¬ Ql50.exponent (M.x k) < 1024 := fun z => by
        rw [if_pos z] at hxr; omega
      rw [if_neg hlt] at hxr fin
      refine ⟨_, rfl, A, M, j, Ql50.exponent (M.x k) - 1024, ?_, hM, hj, by omega, fun H2 hM2 k2 => ?_⟩
      · rw [hxr]; rfl
      · exact ⟨_, rfl, M.x k, rfl, hx, _, rfl, M.x k, rfl, coef (M.x k), _, rfl, Nat.lt_trans (coef_lt48 _) (by decide), fin H2 hM2 k2⟩
theorem sc_pack : FnScope ["m", "i", "j", "k", "word", "field"] ["m", "i", "j", "k"] (defScope s_pack) := ⟨rfl, rfl, rfl, by decide +kernel, rfl, by decide +kernel, by decide +kernel⟩
theorem ok_pack (T : Txt K mg C) : DF P w K mg base "pack" 6 ["m", "i", "j", "k"] (spRes C 23) := by
  refine df_of T.f_pack sc_pack (fun vs H Q E h => ?_) (fun f cdv A outer s H vs Q E hr h => ?_)
  · obtain ⟨A, M, i, j, k, rfl, _⟩ := h; rfl
  · obtain ⟨A, M, i, j, k, rfl, hM, hi, hj, hk, q⟩ := h
    refine ⟨_, (pss_cons (ps_set (i := 4) sc_pack.nd rfl (Or.inl rfl) (pe_regX (C := C) T 0 3)) (pss_cons (ps_set (i := 5) sc_pack.nd rfl (Or.inl rfl) (pe_op op_xor (pe_op op_and (pe_regB (C := C) T 0 2) pe_int) pe_int)) (pss_one (ps_ret (pe_df (ok_with_sign T) (hr.mono (by decide)) (pa_cons (pe_op op_or (pe_op op_shlB (pv 5) pe_int) (pe_df (ok_coefficient T) (hr.mono (by decide)) (pa_cons (pv 4) pa_nil))) (pa_cons (pe_df (ok_below_zero T) (hr.mono (by decide)) (pa_cons (pv 4) pa_nil)) pa_nil))))))), ?_⟩
    have hx := hM.wf.x k
    have he : M.b j % 2048 < 2048 := Nat.mod_lt _ (by decide)
    have ex : Builtin.bitXor (Builtin.bitAnd (M.b j : Int) 2047) 1024 = ((if M.b j % 2048 < 1024 then M.b j % 2048 + 1024 else M.b j % 2048 - 1024 : Nat) : Int) := by
      rw [show (2047 : Int) = ((2 ^ 11 - 1 : Nat) : Int) from rfl, bAnd, and_mask, show (1024 : Int) = ((1024 : Nat) : Int) from rfl, bXor, show (2 : Nat) ^ 11 = 2048 from rfl, xor_bit10 _ he]
    refine ⟨A, M, k, rfl, rfl, hM, hk, A, M, j, rfl, rfl, hM, hj, _, _, rfl, rfl, _, _, rfl, rfl, ?_⟩
    dsimp only
    rw [ex]
    have hp := pack_lt (M.b j) (M.x k)
    have q' := q H M _ hM Keep.refl (signed_lt (Ql50.negative Ql50.M60 (M.x k)) _ hp) fun _ _ => rfl
    generalize (if M.b j % 2048 < 1024 then M.b j % 2048 + 1024 else M.b j % 2048 - 1024) = g at *
    refine ⟨_, rfl, _, _, rfl, rfl, ⟨by decide, by decide, by omega⟩, _, rfl, M.x k, rfl, hx, _, _, rfl, rfl, _, rfl, M.x k, rfl, g * 2 ^ 48 + coef (M.x k), _, ?_, hp, q'⟩
    dsimp only
    rw [show (48 : Int) = ((48 : Nat) : Int) from rfl, shlN, bOr, or_low _ _ _ (coef_lt48 _)] <;> rfl
theorem sc_upper_total : FnScope ["m", "i", "j", "k"] ["m", "i", "j", "k"] (defScope s_upper_total) := ⟨rfl, rfl, rfl, by decide +kernel, rfl, by decide +kernel, by decide +kernel⟩
theorem ok_upper_total (T : Txt K mg C) : DF P w K mg base "upper_total" 6 ["m", "i", "j", "k"] (spRes C 24) := by
  refine df_of T.f_upper_total sc_upper_total (fun vs H Q E h => ?_) (fun f cdv A outer s H vs Q E hr h => ?_)
  · obtain ⟨A, M, i, j, k, rfl, _⟩ := h; rfl
  · obtain ⟨A, M, i, j, k, rfl, hM, hi, hj, hk, q⟩ := h
    refine ⟨_, (pss_one (ps_ret (pe_df (ok_total T) (hr.mono (by decide)) (pa_cons (pe_gi rfl T.c_UPPER) (pa_cons (pe_regX (C := C) T 0 2) (pa_cons (pe_regX (C := C) T 0 3) pa_nil)))))), ?_⟩
    exact ⟨A, M, j, rfl, rfl, hM, hj, A, M, k, rfl, rfl, hM, hk, .upper, M.x j, M.x k, rfl, hM.wf.x j, hM.wf.x k, fun H1 s1 => q H1 M _ (hM.same s1) (Keep.of_same s1) (add_word_lt _ _ _) fun _ _ => rfl⟩
theorem sc_upper_difference : FnScope ["m", "i", "j", "k"] ["m", "i", "j", "k"] (defScope s_upper_difference) := ⟨rfl, rfl, rfl, by decide +kernel, rfl, by decide +kernel, by decide +kernel⟩
theorem ok_upper_difference (T : Txt K mg C) : DF P w K mg base "upper_difference" 6 ["m", "i", "j", "k"] (spRes C 25) := by
  refine df_of T.f_upper_difference sc_upper_difference (fun vs H Q E h => ?_) (fun f cdv A outer s H vs Q E hr h => ?_)
  · obtain ⟨A, M, i, j, k, rfl, _⟩ := h; rfl
  · obtain ⟨A, M, i, j, k, rfl, hM, hi, hj, hk, q⟩ := h
    refine ⟨_, (pss_one (ps_ret (pe_df (ok_total T) (hr.mono (by decide)) (pa_cons (pe_gi rfl T.c_UPPER) (pa_cons (pe_regX (C := C) T 0 2) (pa_cons (pe_op op_sub (pe_gi rfl T.c_ONES60) (pe_regX (C := C) T 0 3)) pa_nil)))))), ?_⟩
    refine ⟨A, M, j, rfl, rfl, hM, hj, A, M, k, rfl, rfl, hM, hk, _, _, rfl, rfl, .upper, M.x j, 1152921504606846975 - M.x k, (by dsimp only; rw [int_sub60 (hM.wf.x k)] <;> rfl), hM.wf.x j, by omega, fun H1 s1 => ?_⟩
    rw [num_compl _ (hM.wf.x k)]
    exact q H1 M _ (hM.same s1) (Keep.of_same s1) (addn_word_lt _ _ _ (hM.wf.x k)) fun _ _ => rfl
theorem sc_lower_total : FnScope ["m", "i", "j", "k"] ["m", "i", "j", "k"] (defScope s_lower_total) := ⟨rfl, rfl, rfl, by decide +kernel, rfl, by decide +kernel, by decide +kernel⟩
theorem ok_lower_total (T : Txt K mg C) : DF P w K mg base "lower_total" 6 ["m", "i", "j", "k"] (spRes C 26) := by
  refine df_of T.f_lower_total sc_lower_total (fun vs H Q E h => ?_) (fun f cdv A outer s H vs Q E hr h => ?_)
  · obtain ⟨A, M, i, j, k, rfl, _⟩ := h; rfl
  · obtain ⟨A, M, i, j, k, rfl, hM, hi, hj, hk, q⟩ := h
    refine ⟨_, (pss_one (ps_ret (pe_df (ok_total T) (hr.mono (by decide)) (pa_cons (pe_gi rfl T.c_LOWER) (pa_cons (pe_regX (C := C) T 0 2) (pa_cons (pe_regX (C := C) T 0 3) pa_nil)))))), ?_⟩
    exact ⟨A, M, j, rfl, rfl, hM, hj, A, M, k, rfl, rfl, hM, hk, .lower, M.x j, M.x k, rfl, hM.wf.x j, hM.wf.x k, fun H1 s1 => q H1 M _ (hM.same s1) (Keep.of_same s1) (add_word_lt _ _ _) fun _ _ => rfl⟩
theorem sc_lower_difference : FnScope ["m", "i", "j", "k"] ["m", "i", "j", "k"] (defScope s_lower_difference) := ⟨rfl, rfl, rfl, by decide +kernel, rfl, by decide +kernel, by decide +kernel⟩
theorem ok_lower_difference (T : Txt K mg C) : DF P w K mg base "lower_difference" 6 ["m", "i", "j", "k"] (spRes C 27) := by
  refine df_of T.f_lower_difference sc_lower_difference (fun vs H Q E h => ?_) (fun f cdv A outer s H vs Q E hr h => ?_)
  · obtain ⟨A, M, i, j, k, rfl, _⟩ := h; rfl
  · obtain ⟨A, M, i, j, k, rfl, hM, hi, hj, hk, q⟩ := h
    refine ⟨_, (pss_one (ps_ret (pe_df (ok_total T) (hr.mono (by decide)) (pa_cons (pe_gi rfl T.c_LOWER) (pa_cons (pe_regX (C := C) T 0 2) (pa_cons (pe_op op_sub (pe_gi rfl T.c_ONES60) (pe_regX (C := C) T 0 3)) pa_nil)))))), ?_⟩
    refine ⟨A, M, j, rfl, rfl, hM, hj, A, M, k, rfl, rfl, hM, hk, _, _, rfl, rfl, .lower, M.x j, 1152921504606846975 - M.x k, (by dsimp only; rw [int_sub60 (hM.wf.x k)] <;> rfl), hM.wf.x j, by omega, fun H1 s1 => ?_⟩
    rw [num_compl _ (hM.wf.x k)]
    exact q H1 M _ (hM.same s1) (Keep.of_same s1) (addn_word_lt _ _ _ (hM.wf.x k)) fun _ _ => rfl
theorem sc_rounded_total : FnScope ["m", "i", "j", "k"] ["m", "i", "j", "k"] (defScope s_rounded_total) := ⟨rfl, rfl, rfl, by decide +kernel, rfl, by decide +kernel, by decide +kernel⟩
theorem ok_rounded_total (T : Txt K mg C) : DF P w K mg base "rounded_total" 6 ["m", "i", "j", "k"] (spRes C 28) := by
  refine df_of T.f_rounded_total sc_rounded_total (fun vs H Q E h => ?_) (fun f cdv A outer s H vs Q E hr h => ?_)
  · obtain ⟨A, M, i, j, k, rfl, _⟩ := h; rfl
  · obtain ⟨A, M, i, j, k, rfl, hM, hi, hj, hk, q⟩ := h
    refine ⟨_, (pss_one (ps_ret (pe_df (ok_total T) (hr.mono (by decide)) (pa_cons (pe_gi rfl T.c_ROUNDED) (pa_cons (pe_regX (C := C) T 0 2) (pa_cons (pe_regX (C := C) T 0 3) pa_nil)))))), ?_⟩
    exact ⟨A, M, j, rfl, rfl, hM, hj, A, M, k, rfl, rfl, hM, hk, .rounded, M.x j, M.x k, rfl, hM.wf.x j, hM.wf.x k, fun H1 s1 => q H1 M _ (hM.same s1) (Keep.of_same s1) (add_word_lt _ _ _) fun _ _ => rfl⟩
theorem sc_rounded_difference : FnScope ["m", "i", "j", "k"] ["m", "i", "j", "k"] (defScope s_rounded_difference) := ⟨rfl, rfl, rfl, by decide +kernel, rfl, by decide +kernel, by decide +kernel⟩
theorem ok_rounded_difference (T : Txt K mg C) : DF P w K mg base "rounded_difference" 6 ["m", "i", "j", "k"] (spRes C 29) := by
  refine df_of T.f_rounded_difference sc_rounded_difference (fun vs H Q E h => ?_) (fun f cdv A outer s H vs Q E hr h => ?_)
  · obtain ⟨A, M, i, j, k, rfl, _⟩ := h; rfl
  · obtain ⟨A, M, i, j, k, rfl, hM, hi, hj, hk, q⟩ := h
    refine ⟨_, (pss_one (ps_ret (pe_df (ok_total T) (hr.mono (by decide)) (pa_cons (pe_gi rfl T.c_ROUNDED) (pa_cons (pe_regX (C := C) T 0 2) (pa_cons (pe_op op_sub (pe_gi rfl T.c_ONES60) (pe_regX (C := C) T 0 3)) pa_nil)))))), ?_⟩
    refine ⟨A, M, j, rfl, rfl, hM, hj, A, M, k, rfl, rfl, hM, hk, _, _, rfl, rfl, .rounded, M.x j, 1152921504606846975 - M.x k, (by dsimp only; rw [int_sub60 (hM.wf.x k)] <;> rfl), hM.wf.x j, by omega, fun H1 s1 => ?_⟩
    rw [num_compl _ (hM.wf.x k)]
    exact q H1 M _ (hM.same s1) (Keep.of_same s1) (addn_word_lt _ _ _ (hM.wf.x k)) fun _ _ => rfl
theorem sc_whole_total : FnScope ["m", "i", "j", "k"] ["m", "i", "j", "k"] (defScope s_whole_total) := ⟨rfl, rfl, rfl, by decide +kernel, rfl, by decide +kernel, by decide +kernel⟩
theorem ok_whole_total (T : Txt K mg C) : DF P w K mg base "whole_total" 6 ["m", "i", "j", "k"] (spRes C 30) := by
  refine df_of T.f_whole_total sc_whole_total (fun vs H Q E h => ?_) (fun f cdv A outer s H vs Q E hr h => ?_)
  · obtain ⟨A, M, i, j, k, rfl, _⟩ := h; rfl
  · obtain ⟨A, M, i, j, k, rfl, hM, hi, hj, hk, q⟩ := h
    refine ⟨_, (pss_one (ps_ret (pe_df (ok_plus T) (hr.mono (by decide)) (pa_cons (pe_regX (C := C) T 0 2) (pa_cons (pe_regX (C := C) T 0 3) (pa_cons (pe_gi rfl T.c_ONES60) pa_nil)))))), ?_⟩
    exact ⟨A, M, j, rfl, rfl, hM, hj, A, M, k, rfl, rfl, hM, hk, M.x j, M.x k, Ql50.M60, rfl, by rw [M60v]; have := hM.wf.x k; omega, q H M _ hM Keep.refl (plus60_lt _ _ (hM.wf.x j) (hM.wf.x k)) fun _ _ => rfl⟩
theorem sc_whole_difference : FnScope ["m", "i", "j", "k"] ["m", "i", "j", "k"] (defScope s_whole_difference) := ⟨rfl, rfl, rfl, by decide +kernel, rfl, by decide +kernel, by decide +kernel⟩
theorem ok_whole_difference (T : Txt K mg C) : DF P w K mg base "whole_difference" 6 ["m", "i", "j", "k"] (spRes C 31) := by
  refine df_of T.f_whole_difference sc_whole_difference (fun vs H Q E h => ?_) (fun f cdv A outer s H vs Q E hr h => ?_)
  · obtain ⟨A, M, i, j, k, rfl, _⟩ := h; rfl
  · obtain ⟨A, M, i, j, k, rfl, hM, hi, hj, hk, q⟩ := h
    refine ⟨_, (pss_one (ps_ret (pe_df (ok_minus T) (hr.mono (by decide)) (pa_cons (pe_regX (C := C) T 0 2) (pa_cons (pe_regX (C := C) T 0 3) (pa_cons (pe_gi rfl T.c_ONES60) pa_nil)))))), ?_⟩
    exact ⟨A, M, j, rfl, rfl, hM, hj, A, M, k, rfl, rfl, hM, hk, M.x j, M.x k, Ql50.M60, rfl, by rw [M60v]; have := hM.wf.x k; omega, q H M _ hM Keep.refl (minus60_lt _ _ (hM.wf.x j) (hM.wf.x k)) fun _ _ => rfl⟩
theorem sc_upper_product : FnScope ["m", "i", "j", "k"] ["m", "i", "j", "k"] (defScope s_upper_product) := ⟨rfl, rfl, rfl, by decide +kernel, rfl, by decide +kernel, by decide +kernel⟩
theorem ok_upper_product (T : Txt K mg C) : DF P w K mg base "upper_product" 6 ["m", "i", "j", "k"] (spRes C 32) := by
  refine df_of T.f_upper_product sc_upper_product (fun vs H Q E h => ?_) (fun f cdv A outer s H vs Q E hr h => ?_)
  · obtain ⟨A, M, i, j, k, rfl, _⟩ := h; rfl
  · obtain ⟨A, M, i, j, k, rfl, hM, hi, hj, hk, q⟩ := h
    refine ⟨_, (pss_one (ps_ret (pe_df (ok_product T) (hr.mono (by decide)) (pa_cons (pe_gi rfl T.c_UPPER) (pa_cons (pe_regX (C := C) T 0 2) (pa_cons (pe_regX (C := C) T 0 3) pa_nil)))))), ?_⟩
    exact ⟨A, M, j, rfl, rfl, hM, hj, A, M, k, rfl, rfl, hM, hk, .upper, M.x j, M.x k, rfl, hM.wf.x j, hM.wf.x k, fun H1 s1 => q H1 M _ (hM.same s1) (Keep.of_same s1) (mul_word_lt _ _ _) fun _ _ => rfl⟩
theorem sc_rounded_product : FnScope ["m", "i", "j", "k"] ["m", "i", "j", "k"] (defScope s_rounded_product) := ⟨rfl, rfl, rfl, by decide +kernel, rfl, by decide +kernel, by decide +kernel⟩
theorem ok_rounded_product (T : Txt K mg C) : DF P w K mg base "rounded_product" 6 ["m", "i", "j", "k"] (spRes C 33) := by
  refine df_of T.f_rounded_product sc_rounded_product (fun vs H Q E h => ?_) (fun f cdv A outer s H vs Q E hr h => ?_)
  · obtain ⟨A, M, i, j, k, rfl, _⟩ := h; rfl
  · obtain ⟨A, M, i, j, k, rfl, hM, hi, hj, hk, q⟩ := h
    refine ⟨_, (pss_one (ps_ret (pe_df (ok_product T) (hr.mono (by decide)) (pa_cons (pe_gi rfl T.c_ROUNDED) (pa_cons (pe_regX (C := C) T 0 2) (pa_cons (pe_regX (C := C) T 0 3) pa_nil)))))), ?_⟩
    exact ⟨A, M, j, rfl, rfl, hM, hj, A, M, k, rfl, rfl, hM, hk, .rounded, M.x j, M.x k, rfl, hM.wf.x j, hM.wf.x k, fun H1 s1 => q H1 M _ (hM.same s1) (Keep.of_same s1) (mul_word_lt _ _ _) fun _ _ => rfl⟩
theorem sc_lower_product : FnScope ["m", "i", "j", "k"] ["m", "i", "j", "k"] (defScope s_lower_product) := ⟨rfl, rfl, rfl, by decide +kernel, rfl, by decide +kernel, by decide +kernel⟩
theorem ok_lower_product (T : Txt K mg C) : DF P w K mg base "lower_product" 6 ["m", "i", "j", "k"] (spRes C 34) := by
  refine df_of T.f_lower_product sc_lower_product (fun vs H Q E h => ?_) (fun f cdv A outer s H vs Q E hr h => ?_)
  · obtain ⟨A, M, i, j, k, rfl, _⟩ := h; rfl
  · obtain ⟨A, M, i, j, k, rfl, hM, hi, hj, hk, q⟩ := h
    refine ⟨_, (pss_one (ps_ret (pe_df (ok_product T) (hr.mono (by decide)) (pa_cons (pe_gi rfl T.c_LOWER) (pa_cons (pe_regX (C := C) T 0 2) (pa_cons (pe_regX (C := C) T 0 3) pa_nil)))))), ?_⟩
    exact ⟨A, M, j, rfl, rfl, hM, hj, A, M, k, rfl, rfl, hM, hk, .lower, M.x j, M.x k, rfl, hM.wf.x j, hM.wf.x k, fun H1 s1 => q H1 M _ (hM.same s1) (Keep.of_same s1) (mul_word_lt _ _ _) fun _ _ => rfl⟩
theorem sc_mask : FnScope ["m", "i", "j", "k"] ["m", "i", "j", "k"] (defScope s_mask) := ⟨rfl, rfl, rfl, by decide +kernel, rfl, by decide +kernel, by decide +kernel⟩
theorem ok_mask (T : Txt K mg C) : DF P w K mg base "mask" 6 ["m", "i", "j", "k"] (spRes C 35) := by
  refine df_of T.f_mask sc_mask (fun vs H Q E h => ?_) (fun f cdv A outer s H vs Q E hr h => ?_)
  · obtain ⟨A, M, i, j, k, rfl, _⟩ := h; rfl
  · obtain ⟨A, M, i, j, k, rfl, hM, hi, hj, hk, q⟩ := h
    refine ⟨_, (pss_one (ps_ret (pe_df (ok_upper_ones T) (hr.mono (by decide)) (pa_cons (pe_op op_add (pe_op op_mul pe_int (pv 2)) (pv 3)) pa_nil)))), ?_⟩
    exact ⟨_, rfl, _, _, rfl, rfl, .inl ⟨by decide, by decide⟩, _, rfl, _, _, rfl, rfl, 8 * j + k, rfl, q H M _ hM Keep.refl (c60_lt _) fun _ _ => rfl⟩
theorem sc_plain_quotient : FnScope ["m", "i", "j", "k"] ["m", "i", "j", "k"] (defScope s_plain_quotient) := ⟨rfl, rfl, rfl, by decide +kernel, rfl, by decide +kernel, by decide +kernel⟩
theorem ok_plain_quotient (T : Txt K mg C) : DF P w K mg base "plain_quotient" 6 ["m", "i", "j", "k"] (spRes C 36) := by
  refine df_of T.f_plain_quotient sc_plain_quotient (fun vs H Q E h => ?_) (fun f cdv A outer s H vs Q E hr h => ?_)
  · obtain ⟨A, M, i, j, k, rfl, _⟩ := h; rfl
  · obtain ⟨A, M, i, j, k, rfl, hM, hi, hj, hk, q⟩ := h
    refine ⟨_, (pss_one (ps_ret (pe_df (ok_quotient T) (hr.mono (by decide)) (pa_cons pe_bl (pa_cons (pe_regX (C := C) T 0 2) (pa_cons (pe_regX (C := C) T 0 3) pa_nil)))))), ?_⟩
    exact ⟨A, M, j, rfl, rfl, hM, hj, A, M, k, rfl, rfl, hM, hk, false, M.x j, M.x k, rfl, hM.wf.x j, hM.wf.x k, fun H1 s1 => q H1 M _ (hM.same s1) (Keep.of_same s1) (div_word_lt _ _ _) fun _ _ => rfl⟩
theorem sc_rounded_quotient : FnScope ["m", "i", "j", "k"] ["m", "i", "j", "k"] (defScope s_rounded_quotient) := ⟨rfl, rfl, rfl, by decide +kernel, rfl, by decide +kernel, by decide +kernel⟩
theorem ok_rounded_quotient (T : Txt K mg C) : DF P w K mg base "rounded_quotient" 6 ["m", "i", "j", "k"] (spRes C 37) := by
  refine df_of T.f_rounded_quotient sc_rounded_quotient (fun vs H Q E h => ?_) (fun f cdv A outer s H vs Q E hr h => ?_)
  · obtain ⟨A, M, i, j, k, rfl, _⟩ := h; rfl
  · obtain ⟨A, M, i, j, k, rfl, hM, hi, hj, hk, q⟩ := h
    refine ⟨_, (pss_one (ps_ret (pe_df (ok_quotient T) (hr.mono (by decide)) (pa_cons pe_bl (pa_cons (pe_regX (C := C) T 0 2) (pa_cons (pe_regX (C := C) T 0 3) pa_nil)))))), ?_⟩
    exact ⟨A, M, j, rfl, rfl, hM, hj, A, M, k, rfl, rfl, hM, hk, true, M.x j, M.x k, rfl, hM.wf.x j, hM.wf.x k, fun H1 s1 => q H1 M _ (hM.same s1) (Keep.of_same s1) (div_word_lt _ _ _) fun _ _ => rfl⟩
theorem sc_unchanged : FnScope ["m", "i", "j", "k"] ["m", "i", "j", "k"] (defScope s_unchanged) := ⟨rfl, rfl, rfl, by decide +kernel, rfl, by decide +kernel, by decide +kernel⟩
theorem ok_unchanged (T : Txt K mg C) : DF P w K mg base "unchanged" 6 ["m", "i", "j", "k"] (spRes C 38) := by
  refine df_of T.f_unchanged sc_unchanged (fun vs H Q E h => ?_) (fun f cdv A outer s H vs Q E hr h => ?_)
  · obtain ⟨A, M, i, j, k, rfl, _⟩ := h; rfl
  · obtain ⟨A, M, i, j, k, rfl, hM, hi, hj, hk, q⟩ := h
    refine ⟨_, (pss_one (ps_ret (pe_regX (C := C) T 0 1))), ?_⟩
    exact ⟨A, M, i, rfl, rfl, hM, hi, q H M _ hM Keep.refl (hM.wf.x i) fun _ _ => by rw [setX_self]; rfl⟩
theorem sc_count_of_ones : FnScope ["m", "i", "j", "k"] ["m", "i", "j", "k"] (defScope s_count_of_ones) := ⟨rfl, rfl, rfl, by decide +kernel, rfl, by decide +kernel, by decide +kernel⟩
theorem ok_count_of_ones (T : Txt K mg C) : DF P w K mg base "count_of_ones" 6 ["m", "i", "j", "k"] (spRes C 39) := by
  refine df_of T.f_count_of_ones sc_count_of_ones (fun vs H Q E h => ?_) (fun f cdv A outer s H vs Q E hr h => ?_)
  · obtain ⟨A, M, i, j, k, rfl, _⟩ := h; rfl
  · obtain ⟨A, M, i, j, k, rfl, hM, hi, hj, hk, q⟩ := h
    refine ⟨_, (pss_one (ps_ret (pe_df (ok_ones_in T) (hr.mono (by decide)) (pa_cons (pe_regX (C := C) T 0 3) pa_nil)))), ?_⟩
    exact ⟨A, M, k, rfl, rfl, hM, hk, M.x k, rfl, hM.wf.x k, q H M _ hM Keep.refl (by have := ones_le 60 (M.x k); omega) fun _ _ => rfl⟩
end
end Sx
set_option Elab.async false
set_option linter.all false
set_option maxRecDepth 100000
set_option maxHeartbeats 4000000
namespace Sx
open PySem L2
def spHolds : Sp := fun vs H Q _ => ∃ a i : Nat, vs = [.int a, .int i] ∧ a < 2 ^ 60 ∧ i < 8 ∧ Q (.bl (Ql50.test i a)) H
/-- an address or number by the last digit d -/
def spSum (C : Addr) (d : Nat) : Sp := fun vs H Q _ => ∃ (A : Ads) (M : Ql50.St) (j k : Nat), vs = [.ref A.p, .int j, .int k] ∧ Mach C H A M ∧ j < 8 ∧ k ≤ 262143 ∧ (2 < d → k < 8) ∧ Q (.int (M.sum d j k k : Nat)) H
def spSetA (C : Addr) : Sp := fun vs H Q _ => ∃ (A : Ads) (M : Ql50.St) (i v : Nat), vs = [.ref A.p, .int i, .int v] ∧ Mach C H A M ∧ i < 8 ∧ v ≤ 262143 ∧
  (∀ H' t, M.setA i v = some t → Mach C H' A t → Keep A H H' → Q (.int 0) H') ∧ (M.setA i v = none → Q (.int 2) H)
def spJump (C : Addr) (f : Nat) : Sp := fun vs H Q _ => ∃ (A : Ads) (M : Ql50.St) (here i j n : Nat), vs = [.ref A.p, .int i, .int j, .int n] ∧ Mach C H A M ∧ i < 8 ∧ j < 8 ∧ n ≤ 262143 ∧ here < 65536 ∧ 4 * here < 4 * M.p + M.q ∧ 4 * M.p + M.q ≤ 4 * here + 4 ∧
  (∀ H' M', Mach C H' A M' → Keep A H H' → (∀ k, M.act here f i j k n = .ok M') → Q (.int 0) H') ∧ (∀ e : Nat, (∀ k, M.act here f i j k n = .error e) → Q (.int e) H)
theorem shr2 (a : Nat) : (a : Int) / 2 ^ (2 : Int).toNat = ((a / 4 : Nat) : Int) := shrN a 2
theorem and3 (a : Nat) : Builtin.bitAnd (a : Int) 3 = ((a % 4 : Nat) : Int) := by
  rw [show (3 : Int) = ((2 ^ 2 - 1 : Nat) : Int) from rfl, bAnd, and_mask]
theorem hold_eq {E : Bool} {i a : Nat} (h0 : i % 2 = 0 → Ql50.test i a = E) (h1 : i % 2 = 1 → Ql50.test i a = !E) : decide (V.bl E = V.bl (decide (V.int ((i : Int) % 2) = V.int 0))) = Ql50.test i a := by
  rcases Nat.mod_two_eq_zero_or_one i with h | h
  · rw [h0 h, show (i : Int) % 2 = 0 by omega, decide_eq_true (show V.int 0 = V.int 0 from rfl)]
    cases E <;> decide
  · rw [h1 h, show (i : Int) % 2 = 1 by omega, decide_eq_false (show ¬ V.int 1 = V.int 0 from fun z => by have := V.int.inj z; omega)]
    cases E <;> decide
section
variable {P : Program} {w : World} {K : PySem.W.Frag} {mg : Str → Option Value} {base : Heap} {C : Addr}
theorem sc_a_plus_number : FnScope ["m", "j", "k"] ["m", "j", "k"] (defScope s_a_plus_number) := ⟨rfl, rfl, rfl, by decide +kernel, rfl, by decide +kernel, by decide +kernel⟩
theorem ok_a_plus_number (T : Txt K mg C) : DF P w K mg base "a_plus_number" 2 ["m", "j", "k"] (spSum C 0) := by
  refine df_of T.f_a_plus_number sc_a_plus_number (fun vs H Q E h => ?_) (fun f cdv A outer s H vs Q E hr h => ?_)
  · obtain ⟨A, M, j, k, rfl, _⟩ := h; rfl
  · obtain ⟨A, M, j, k, rfl, hM, hj, hk, hk8, q⟩ := h
    refine ⟨_, (pss_one (ps_ret (pe_df (ok_plus T) (hr.mono (by decide)) (pa_cons (pe_regA (C := C) T 0 1) (pa_cons (pv 2) (pa_cons (pe_gi rfl T.c_ONES18) pa_nil)))))), ?_⟩
    exact ⟨A, M, j, rfl, rfl, hM, hj, _, rfl, M.a j, k, 262143, rfl, hk, q⟩
theorem sc_b_plus_number : FnScope ["m", "j", "k"] ["m", "j", "k"] (defScope s_b_plus_number) := ⟨rfl, rfl, rfl, by decide +kernel, rfl, by decide +kernel, by decide +kernel⟩
theorem ok_b_plus_number (T : Txt K mg C) : DF P w K mg base "b_plus_number" 2 ["m", "j", "k"] (spSum C 1) := by
  refine df_of T.f_b_plus_number sc_b_plus_number (fun vs H Q E h => ?_) (fun f cdv A outer s H vs Q E hr h => ?_)
  · obtain ⟨A, M, j, k, rfl, _⟩ := h; rfl
  · obtain ⟨A, M, j, k, rfl, hM, hj, hk, hk8, q⟩ := h
    refine ⟨_, (pss_one (ps_ret (pe_df (ok_plus T) (hr.mono (by decide)) (pa_cons (pe_regB (C := C) T 0 1) (pa_cons (pv 2) (pa_cons (pe_gi rfl T.c_ONES18) pa_nil)))))), ?_⟩
    exact ⟨A, M, j, rfl, rfl, hM, hj, _, rfl, M.b j, k, 262143, rfl, hk, q⟩
theorem sc_x_plus_number : FnScope ["m", "j", "k"] ["m", "j", "k"] (defScope s_x_plus_number) := ⟨rfl, rfl, rfl, by decide +kernel, rfl, by decide +kernel, by decide +kernel⟩
theorem ok_x_plus_number (T : Txt K mg C) : DF P w K mg base "x_plus_number" 2 ["m", "j", "k"] (spSum C 2) := by
  refine df_of T.f_x_plus_number sc_x_plus_number (fun vs H Q E h => ?_) (fun f cdv A outer s H vs Q E hr h => ?_)
  · obtain ⟨A, M, j, k, rfl, _⟩ := h; rfl
  · obtain ⟨A, M, j, k, rfl, hM, hj, hk, hk8, q⟩ := h
    refine ⟨_, (pss_one (ps_ret (pe_df (ok_plus T) (hr.mono (by decide)) (pa_cons (pe_op op_and (pe_regX (C := C) T 0 1) (pe_gi rfl T.c_ONES18)) (pa_cons (pv 2) (pa_cons (pe_gi rfl T.c_ONES18) pa_nil)))))), ?_⟩
    have el : Builtin.bitAnd (M.x j : Int) 262143 = ((Ql50.low18 (M.x j) : Nat) : Int) := by
      rw [show (262143 : Int) = ((2 ^ 18 - 1 : Nat) : Int) from rfl, bAnd, and_mask]; rfl
    exact ⟨A, M, j, rfl, rfl, hM, hj, _, _, rfl, rfl, _, rfl, Ql50.low18 (M.x j), k, 262143, (by dsimp only; rw [el] <;> rfl), hk, q⟩
theorem sc_x_plus_b : FnScope ["m", "j", "k"] ["m", "j", "k"] (defScope s_x_plus_b) := ⟨rfl, rfl, rfl, by decide +kernel, rfl, by decide +kernel, by decide +kernel⟩
theorem ok_x_plus_b (T : Txt K mg C) : DF P w K mg base "x_plus_b" 2 ["m", "j", "k"] (spSum C 3) := by
  refine df_of T.f_x_plus_b sc_x_plus_b (fun vs H Q E h => ?_) (fun f cdv A outer s H vs Q E hr h => ?_)
  · obtain ⟨A, M, j, k, rfl, _⟩ := h; rfl
  · obtain ⟨A, M, j, k, rfl, hM, hj, hk, hk8, q⟩ := h
    refine ⟨_, (pss_one (ps_ret (pe_df (ok_plus T) (hr.mono (by decide)) (pa_cons (pe_op op_and (pe_regX (C := C) T 0 1) (pe_gi rfl T.c_ONES18)) (pa_cons (pe_regB (C := C) T 0 2) (pa_cons (pe_gi rfl T.c_ONES18) pa_nil)))))), ?_⟩
    have el : Builtin.bitAnd (M.x j : Int) 262143 = ((Ql50.low18 (M.x j) : Nat) : Int) := by
      rw [show (262143 : Int) = ((2 ^ 18 - 1 : Nat) : Int) from rfl, bAnd, and_mask]; rfl
    exact ⟨A, M, j, rfl, rfl, hM, hj, _, _, rfl, rfl, A, M, k, rfl, rfl, hM, hk8 (by decide), Ql50.low18 (M.x j), M.b k, 262143, (by dsimp only; rw [el] <;> rfl), hM.wf.b k, q⟩
theorem sc_a_plus_b : FnScope ["m", "j", "k"] ["m", "j", "k"] (defScope s_a_plus_b) := ⟨rfl, rfl, rfl, by decide +kernel, rfl, by decide +kernel, by decide +kernel⟩
theorem ok_a_plus_b (T : Txt K mg C) : DF P w K mg base "a_plus_b" 2 ["m", "j", "k"] (spSum C 4) := by
  refine df_of T.f_a_plus_b sc_a_plus_b (fun vs H Q E h => ?_) (fun f cdv A outer s H vs Q E hr h => ?_)
  · obtain ⟨A, M, j, k, rfl, _⟩ := h; rfl
  · obtain ⟨A, M, j, k, rfl, hM, hj, hk, hk8, q⟩ := h
    refine ⟨_, (pss_one (ps_ret (pe_df (ok_plus T) (hr.mono (by decide)) (pa_cons (pe_regA (C := C) T 0 1) (pa_cons (pe_regB (C := C) T 0 2) (pa_cons (pe_gi rfl T.c_ONES18) pa_nil)))))), ?_⟩
    exact ⟨A, M, j, rfl, rfl, hM, hj, A, M, k, rfl, rfl, hM, hk8 (by decide), M.a j, M.b k, 262143, rfl, hM.wf.b k, q⟩
theorem sc_a_minus_b : FnScope ["m", "j", "k"] ["m", "j", "k"] (defScope s_a_minus_b) := ⟨rfl, rfl, rfl, by decide +kernel, rfl, by decide +kernel, by decide +kernel⟩
theorem ok_a_minus_b (T : Txt K mg C) : DF P w K mg base "a_minus_b" 2 ["m", "j", "k"] (spSum C 5) := by
  refine df_of T.f_a_minus_b sc_a_minus_b (fun vs H Q E h => ?_) (fun f cdv A outer s H vs Q E hr h => ?_)
  · obtain ⟨A, M, j, k, rfl, _⟩ := h; rfl
  · obtain ⟨A, M, j, k, rfl, hM, hj, hk, hk8, q⟩ := h
    refine ⟨_, (pss_one (ps_ret (pe_df (ok_minus T) (hr.mono (by decide)) (pa_cons (pe_regA (C := C) T 0 1) (pa_cons (pe_regB (C := C) T 0 2) (pa_cons (pe_gi rfl T.c_ONES18) pa_nil)))))), ?_⟩
    exact ⟨A, M, j, rfl, rfl, hM, hj, A, M, k, rfl, rfl, hM, hk8 (by decide), M.a j, M.b k, 262143, rfl, hM.wf.b k, q⟩
theorem sc_b_plus_b : FnScope ["m", "j", "k"] ["m", "j", "k"] (defScope s_b_plus_b) := ⟨rfl, rfl, rfl, by decide +kernel, rfl, by decide +kernel, by decide +kernel⟩
theorem ok_b_plus_b (T : Txt K mg C) : DF P w K mg base "b_plus_b" 2 ["m", "j", "k"] (spSum C 6) := by
  refine df_of T.f_b_plus_b sc_b_plus_b (fun vs H Q E h => ?_) (fun f cdv A outer s H vs Q E hr h => ?_)
  · obtain ⟨A, M, j, k, rfl, _⟩ := h; rfl
  · obtain ⟨A, M, j, k, rfl, hM, hj, hk, hk8, q⟩ := h
    refine ⟨_, (pss_one (ps_ret (pe_df (ok_plus T) (hr.mono (by decide)) (pa_cons (pe_regB (C := C) T 0 1) (pa_cons (pe_regB (C := C) T 0 2) (pa_cons (pe_gi rfl T.c_ONES18) pa_nil)))))), ?_⟩
    exact ⟨A, M, j, rfl, rfl, hM, hj, A, M, k, rfl, rfl, hM, hk8 (by decide), M.b j, M.b k, 262143, rfl, hM.wf.b k, q⟩
theorem sc_b_minus_b : FnScope ["m", "j", "k"] ["m", "j", "k"] (defScope s_b_minus_b) := ⟨rfl, rfl, rfl, by decide +kernel, rfl, by decide +kernel, by decide +kernel⟩
theorem ok_b_minus_b (T : Txt K mg C) : DF P w K mg base "b_minus_b" 2 ["m", "j", "k"] (spSum C 7) := by
  refine df_of T.f_b_minus_b sc_b_minus_b (fun vs H Q E h => ?_) (fun f cdv A outer s H vs Q E hr h => ?_)
  · obtain ⟨A, M, j, k, rfl, _⟩ := h; rfl
  · obtain ⟨A, M, j, k, rfl, hM, hj, hk, hk8, q⟩ := h
    refine ⟨_, (pss_one (ps_ret (pe_df (ok_minus T) (hr.mono (by decide)) (pa_cons (pe_regB (C := C) T 0 1) (pa_cons (pe_regB (C := C) T 0 2) (pa_cons (pe_gi rfl T.c_ONES18) pa_nil)))))), ?_⟩
    exact ⟨A, M, j, rfl, rfl, hM, hj, A, M, k, rfl, rfl, hM, hk8 (by decide), M.b j, M.b k, 262143, rfl, hM.wf.b k, q⟩
theorem sc_set_a : FnScope ["m", "i", "address"] ["m", "i", "address"] (defScope s_set_a) := ⟨rfl, rfl, rfl, by decide +kernel, rfl, by decide +kernel, by decide +kernel⟩
theorem ok_set_a (T : Txt K mg C) : DF P w K mg base "set_a" 1 ["m", "i", "address"] (spSetA C) := by
  refine df_of T.f_set_a sc_set_a (fun vs H Q E h => ?_) (fun f cdv A outer s H vs Q E hr h => ?_)
  · obtain ⟨A, M, i, v, rfl, _⟩ := h; rfl
  · obtain ⟨A, M, i, v, rfl, hM, hi, hv, q1, q2⟩ := h
    refine ⟨_, (pss_cons (ps_if (PW.pt (pw_and (pt_cmpR op_ne (pv 1) pe_int (nomark _)) (pw_and1 (pt_cmpR op_ge (pv 2) (pe_gi rfl T.c_MEMORY_WORDS) (nomark _))))) (pss_one (ps_ret (pe_gi rfl T.c_NO_WORD))) pss_nil) (pss_cons (ps_asg (pv 2) (pg_sub (pe_fld (pv 0) rfl) (pv 1) set_list)) (pss_cons (ps_if (pt_cmpR op_ge (pv 1) pe_int (nomark _)) (pss_one (ps_asg (pe_regX (C := C) T 0 1) (pg_sub (pe_fld (pv 0) rfl) (pv 2) set_list))) (pss_one (ps_if (pt_cmpR op_ge (pv 1) pe_int (nomark _)) (pss_one (ps_asg (pe_ix ix_list (pe_fld (pv 0) rfl) (pv 2) (fun _ _ => rfl)) (pg_sub (pe_fld (pv 0) rfl) (pv 1) set_list))) pss_nil))) (pss_one (ps_ret (pe_gi rfl T.c_DONE)))))), ?_⟩
    refine ⟨_, rfl, rfl, _, rfl, ?_⟩
    refine ite2 (fun c => ?_) (fun c => ?_)
    · have c := nz_of c
      have i0 : i ≠ 0 := by omega
      refine ⟨_, rfl, _, _, rfl, rfl, _, rfl, ?_⟩
      refine ite2 (fun c2 => ?_) (fun c2 => ?_)
      · have c2 := of_decide_eq_true c2
        exact q2 (by unfold Ql50.St.setA Ql50.SIZE; rw [if_neg i0, if_pos (by omega)])
      · have c2 := no_of c2
        have hv2 : v < 65536 := by omega
        refine ⟨_, rfl, _, rfl, A.p, C, A.dx, _, _, rfl, hM.ob, T.cl, T.nA, mf_a, _, rfl, A.la, _, _, i, rfl, rfl, hM.a, by rw [regs_len]; exact ix_nat hi, ?_⟩
        have hA := hM.putA i hv
        have kA : Keep A H (upd H A.la (.lst ((regs 8 M.a).set i (.int (v : Nat))))) := Mach.keepA
        generalize upd H A.la (.lst ((regs 8 M.a).set i (.int (v : Nat)))) = H1 at *
        refine ⟨_, rfl, _, _, rfl, rfl, _, rfl, ?_⟩
        refine ite2 (fun c3 => ?_) (fun c3 => ?_)
        · have c3 := of_decide_eq_true c3
          refine ⟨A, _, i, rfl, rfl, hA, hi, _, rfl, A.p, C, A.dx, _, _, rfl, hA.ob, T.cl, T.nM, mf_memory, _, rfl, A.lm, _, _, v, rfl, rfl, hA.m, by rw [regs_len]; exact ix_nat hv2, ?_⟩
          refine q1 _ _ ?_ (hA.putM v (hM.wf.x i)) (kA.trans Mach.keepM)
          unfold Ql50.St.setA Ql50.SIZE
          rw [if_neg i0, if_neg (by omega), if_neg (by omega)]
        · have c3 := no_of c3
          refine ⟨_, rfl, _, _, rfl, rfl, _, rfl, ?_⟩
          refine ite2 (fun c4 => ?_) (fun c4 => ?_)
          · refine ⟨_, rfl, A.p, C, A.dx, _, _, rfl, hA.ob, T.cl, T.nM, mf_memory, _, rfl, A.lm, _, _, _, rfl, rfl, SqL.of hA.m, atI_nat (regs_get hv2), _, rfl, A.p, C, A.dx, _, _, rfl, hA.ob, T.cl, T.nX, mf_x, _, rfl, A.lx, _, _, i, rfl, rfl, hA.x, by rw [regs_len]; exact ix_nat hi, ?_⟩
            refine q1 _ _ ?_ (hA.setX i (hM.wf.mem v)) (kA.trans Mach.keepX)
            unfold Ql50.St.setA Ql50.SIZE
            rw [if_neg i0, if_neg (by omega), if_pos (by omega)]; rfl
          · have c4 := no_of c4
            omega
    · have c := z_of c
      have i0 : i = 0 := by omega
      subst i0
      refine iteF ?_
      refine ⟨_, rfl, _, rfl, A.p, C, A.dx, _, _, rfl, hM.ob, T.cl, T.nA, mf_a, _, rfl, A.la, _, _, 0, rfl, rfl, hM.a, by rw [regs_len]; exact ix_nat hi, ?_⟩
      have hA := hM.putA 0 hv
      have kA : Keep A H (upd H A.la (.lst ((regs 8 M.a).set 0 (.int (v : Nat))))) := Mach.keepA
      generalize upd H A.la (.lst ((regs 8 M.a).set 0 (.int (v : Nat)))) = H1 at *
      refine ⟨_, rfl, _, _, rfl, rfl, _, rfl, iteF ⟨_, rfl, _, _, rfl, rfl, _, rfl, iteF ?_⟩⟩
      exact q1 _ _ (by unfold Ql50.St.setA; rw [if_pos rfl]) hA kA
theorem sc_word_holds : FnScope ["word", "i", "even"] ["word", "i"] (defScope s_word_holds) := ⟨rfl, rfl, rfl, by decide +kernel, rfl, by decide +kernel, by decide +kernel⟩
theorem ok_word_holds (T : Txt K mg C) : DF P w K mg base "word_holds" 3 ["word", "i"] spHolds := by
  refine df_of T.f_word_holds sc_word_holds (fun vs H Q E h => ?_) (fun f cdv A outer s H vs Q E hr h => ?_)
  · obtain ⟨a, i, rfl, _⟩ := h; rfl
  · obtain ⟨a, i, rfl, ha, hi, q⟩ := h
    refine ⟨_, (pss_cons (ps_if (pt_cmpR op_lt (pv 1) pe_int (nomark _)) (pss_one (ps_set (i := 2) sc_word_holds.nd rfl (Or.inl rfl) (pe_or (pe_cmpR op_eq (pv 0) pe_int (nomark _)) (pe_one (pe_cmpR op_eq (pv 0) (pe_gi rfl T.c_ONES60) (nomark _)))))) (pss_one (ps_if (pt_cmpR op_lt (pv 1) pe_int (nomark _)) (pss_one (ps_set (i := 2) sc_word_holds.nd rfl (Or.inl rfl) (pe_not (pe_df (ok_below_zero T) (hr.mono (by decide)) (pa_cons (pv 0) pa_nil))))) (pss_one (ps_if (pt_cmpR op_lt (pv 1) pe_int (nomark _)) (pss_one (ps_set (i := 2) sc_word_holds.nd rfl (Or.inl rfl) (pe_cmpR op_ne (pe_df (ok_exponent_field T) (hr.mono (by decide)) (pa_cons (pv 0) pa_nil)) (pe_gi rfl T.c_INFINITE) (nomark _)))) (pss_one (ps_set (i := 2) sc_word_holds.nd rfl (Or.inl rfl) (pe_cmpR op_ne (pe_df (ok_exponent_field T) (hr.mono (by decide)) (pa_cons (pv 0) pa_nil)) (pe_gi rfl T.c_INDEFINITE) (nomark _))))))))) (pss_one (ps_ret (pe_cmpR op_eq (pv 2) (pe_cmpR op_eq (pe_op op_mod (pv 1) pe_int) pe_int (nomark _)) (nomark _))))), ?_⟩
    have ret : ∀ (E : Bool), (i % 2 = 0 → Ql50.test i a = E) → (i % 2 = 1 → Ql50.test i a = !E) → Q (.bl (decide (V.bl E = V.bl (decide (V.int ((i : Int) % 2) = V.int 0))))) H := fun E h0 h1 => qbl q (hold_eq h0 h1)
    refine ⟨_, rfl, _, _, rfl, rfl, _, rfl, ?_⟩
    refine ite2 (fun c => ?_) (fun c => ?_)
    · have c := of_decide_eq_true c
      have hv : (i = 0 ∧ Ql50.test i a = (a == 0 || a == Ql50.M60)) ∨ (i = 1 ∧ Ql50.test i a = !(a == 0 || a == Ql50.M60)) := by
        rcases (show i = 0 ∨ i = 1 by omega) with rfl | rfl
        · exact .inl ⟨rfl, rfl⟩
        · exact .inr ⟨rfl, rfl⟩
      refine ⟨_, rfl, rfl, _, rfl, ?_⟩
      refine ite2 (fun c0 => ?_) (fun c0 => ?_)
      · have c0 := eq_of c0
        have a0 : a = 0 := by omega
        refine ⟨_, rfl, _, rfl, _, _, rfl, rfl, (by show (0 : Int) < 2; decide), rfl, rfl, ret true (fun h => ?_) (fun h => ?_)⟩
        · rcases hv with ⟨_, z⟩ | ⟨z, _⟩
          · rw [z, a0]; rfl
          · omega
        · rcases hv with ⟨z, _⟩ | ⟨_, z⟩
          · omega
          · rw [z, a0]; rfl
      · have c0 := ne_of' c0
        have a0 : a ≠ 0 := by omega
        have eb : decide (V.int (a : Int) = V.int 1152921504606846975) = (a == 0 || a == Ql50.M60) := by
          rw [M60v]
          by_cases z : a = 1152921504606846975
          · subst z; rfl
          · rw [decide_eq_false (fun q => z (by have := V.int.inj q; omega)), beq_false_of_ne a0, beq_false_of_ne z]; rfl
        refine ⟨_, rfl, rfl, _, rfl, _, rfl, _, _, rfl, rfl, (by show (0 : Int) < 2; decide), rfl, rfl, ret _ (fun h => ?_) (fun h => ?_)⟩
        · rw [eb]
          rcases hv with ⟨_, z⟩ | ⟨z, _⟩
          · exact z
          · omega
        · rw [eb]
          rcases hv with ⟨z, _⟩ | ⟨_, z⟩
          · omega
          · exact z
    · have c := no_of c
      refine ⟨_, rfl, _, _, rfl, rfl, _, rfl, ?_⟩
      refine ite2 (fun c2 => ?_) (fun c2 => ?_)
      · have c2 := of_decide_eq_true c2
        refine ⟨_, rfl, a, rfl, _, rfl, _, rfl, _, rfl, _, _, rfl, rfl, (by show (0 : Int) < 2; decide), rfl, rfl, ret _ (fun h => ?_) (fun h => ?_)⟩
        · have i2 : i = 2 := by omega
          subst i2; rfl
        · have i2 : i = 3 := by omega
          subst i2
          show Ql50.negative Ql50.M60 a = !!Ql50.negative Ql50.M60 a
          rw [Bool.not_not]
      · have c2 := no_of c2
        refine ⟨_, rfl, _, _, rfl, rfl, _, rfl, ?_⟩
        refine ite2 (fun c3 => ?_) (fun c3 => ?_)
        · have c3 := of_decide_eq_true c3
          have eb : (!decide (V.int (Ql50.exponent a : Int) = V.int 2047)) = (Ql50.exponent a != 2047) := by
            by_cases z : Ql50.exponent a = 2047
            · rw [z]; rfl
            · rw [decide_eq_false (fun q => z (by have := V.int.inj q; omega)), bne_iff_ne.mpr z]; rfl
          refine ⟨_, rfl, a, rfl, ha, rfl, _, rfl, _, rfl, _, _, rfl, rfl, (by show (0 : Int) < 2; decide), rfl, rfl, ret _ (fun h => ?_) (fun h => ?_)⟩
          · have i2 : i = 4 := by omega
            subst i2; exact eb.symm
          · have i2 : i = 5 := by omega
            subst i2
            rw [eb]
            show (Ql50.exponent a == 2047) = !(!(Ql50.exponent a == 2047))
            rw [Bool.not_not]
        · have c3 := no_of c3
          have eb : (!decide (V.int (Ql50.exponent a : Int) = V.int 1023)) = (Ql50.exponent a != 1023) := by
            by_cases z : Ql50.exponent a = 1023
            · rw [z]; rfl
            · rw [decide_eq_false (fun q => z (by have := V.int.inj q; omega)), bne_iff_ne.mpr z]; rfl
          refine ⟨_, rfl, a, rfl, ha, rfl, _, rfl, _, rfl, _, _, rfl, rfl, (by show (0 : Int) < 2; decide), rfl, rfl, ret _ (fun h => ?_) (fun h => ?_)⟩
          · have i2 : i = 6 := by omega
            subst i2; exact eb.symm
          · have i2 : i = 7 := by omega
            subst i2
            rw [eb]
            show (Ql50.exponent a == 1023) = !(!(Ql50.exponent a == 1023))
            rw [Bool.not_not]
theorem sc_stop : FnScope ["m", "i", "j", "k"] ["m", "i", "j", "k"] (defScope s_stop) := ⟨rfl, rfl, rfl, by decide +kernel, rfl, by decide +kernel, by decide +kernel⟩
theorem ok_stop (T : Txt K mg C) : DF P w K mg base "stop" 1 ["m", "i", "j", "k"] (spJump C 0) := by
  refine df_of T.f_stop sc_stop (fun vs H Q E h => ?_) (fun f cdv A outer s H vs Q E hr h => ?_)
  · obtain ⟨A, M, here, i, j, n, rfl, _⟩ := h; rfl
  · obtain ⟨A, M, here, i, j, n, rfl, hM, hi, hj, hn, hh, ha1, ha2, q1, q2⟩ := h
    refine ⟨_, (pss_one (ps_ret (pe_gi rfl T.c_STOPPED))), ?_⟩
    exact q2 1 fun _ => rfl
theorem sc_leave_way_back : FnScope ["m", "i", "j", "k", "behind"] ["m", "i", "j", "k"] (defScope s_leave_way_back) := ⟨rfl, rfl, rfl, by decide +kernel, rfl, by decide +kernel, by decide +kernel⟩
theorem ok_leave_way_back (T : Txt K mg C) : DF P w K mg base "leave_way_back" 1 ["m", "i", "j", "k"] (spJump C 1) := by
  refine df_of T.f_leave_way_back sc_leave_way_back (fun vs H Q E h => ?_) (fun f cdv A outer s H vs Q E hr h => ?_)
  · obtain ⟨A, M, here, i, j, n, rfl, _⟩ := h; rfl
  · obtain ⟨A, M, here, i, j, n, rfl, hM, hi, hj, hn, hh, ha1, ha2, q1, q2⟩ := h
    refine ⟨_, (pss_cons (ps_if (pt_cmpR op_ne (pv 1) pe_int (nomark _)) (pss_one (ps_ret (pe_gi rfl T.c_NO_INSTRUCTION))) pss_nil) (pss_cons (ps_if (pt_cmpR op_ge (pv 3) (pe_gi rfl T.c_MEMORY_WORDS) (nomark _)) (pss_one (ps_ret (pe_gi rfl T.c_NO_WORD))) pss_nil) (pss_cons (ps_set (i := 4) sc_leave_way_back.nd rfl (Or.inl rfl) (pe_op op_add (pe_op op_shr (pe_op op_sub (pe_fld (pv 0) rfl) pe_int) pe_int) pe_int)) (pss_cons (ps_asg (pe_op op_shlB (pe_op op_or (pe_op op_shlB pe_int pe_int) (pv 4)) pe_int) (pg_sub (pe_fld (pv 0) rfl) (pv 3) set_list)) (pss_cons (ps_fld (pv 0) (pe_op op_mul (pe_op op_add (pv 3) pe_int) pe_int) rfl) (pss_one (ps_ret (pe_gi rfl T.c_DONE)))))))), ?_⟩
    refine ⟨_, rfl, rfl, _, rfl, ?_⟩
    refine ite2 (fun c => ?_) (fun c => ?_)
    · have c := nz_of c
      exact q2 4 fun _ => by show (if i ≠ 0 then _ else _) = _; rw [if_pos (by omega)]
    · have c := z_of c
      have i0 : i = 0 := by omega
      refine ⟨_, rfl, _, _, rfl, rfl, _, rfl, ?_⟩
      refine ite2 (fun c2 => ?_) (fun c2 => ?_)
      · have c2 := of_decide_eq_true c2
        exact q2 2 fun _ => by show (if i ≠ 0 then _ else if Ql50.SIZE ≤ n then _ else _) = _; unfold Ql50.SIZE; rw [if_neg (by omega), if_pos (by omega)]
      · have c2 := no_of c2
        have hn2 : n < 65536 := by omega
        refine ⟨_, rfl, A.p, C, A.dx, _, _, rfl, hM.ob, T.cl, T.nAt, mf_at_get, _, _, rfl, rfl, _, _, rfl, rfl, (by show (0 : Int) ≤ 2; decide), _, _, rfl, rfl, ?_⟩
        have eb : (((4 * M.p + M.q : Nat) : Int) - 1) / 2 ^ (2 : Int).toNat + 1 = ((here + 1 : Nat) : Int) := by
          rw [show ((4 * M.p + M.q : Nat) : Int) - 1 = ((4 * M.p + M.q - 1 : Nat) : Int) by omega, shr2]
          omega
        dsimp only
        rw [eb]
        have ev : Builtin.bitOr (4 * 2 ^ (24 : Int).toNat) ((here + 1 : Nat) : Int) = ((4 * 2 ^ 24 + (here + 1) : Nat) : Int) := by
          rw [show (4 : Int) = ((4 : Nat) : Int) from rfl, show (24 : Int) = ((24 : Nat) : Int) from rfl, shlN, bOr, or_low _ _ _ (by omega)]
        refine ⟨_, _, rfl, rfl, ⟨by decide, by decide, by decide⟩, _, rfl, _, _, rfl, rfl, _, _, rfl, rfl, ⟨by decide, by decide, by rw [ev]; omega⟩, _, rfl, A.p, C, A.dx, _, _, rfl, hM.ob, T.cl, T.nM, mf_memory, _, rfl, A.lm, _, _, n, rfl, rfl, hM.m, by rw [regs_len]; exact ix_nat hn2, ?_⟩
        have ew : Builtin.bitOr (4 * 2 ^ (24 : Int).toNat) ((here + 1 : Nat) : Int) * 2 ^ (30 : Int).toNat = (((4 * 2 ^ 24 + (here + 1)) * 2 ^ 30 : Nat) : Int) := by
          rw [ev, show (30 : Int) = ((30 : Nat) : Int) from rfl, shlN]
        dsimp only
        rw [ew]
        have hA := hM.putM n (v := (4 * 2 ^ 24 + (here + 1)) * 2 ^ 30) (by omega)
        have kA : Keep A H (upd H A.lm (.lst ((regs 65536 M.mem).set n (.int ((4 * 2 ^ 24 + (here + 1)) * 2 ^ 30 : Nat))))) := Mach.keepM
        generalize upd H A.lm (.lst ((regs 65536 M.mem).set n (.int ((4 * 2 ^ 24 + (here + 1)) * 2 ^ 30 : Nat)))) = H1 at *
        refine ⟨_, rfl, _, _, rfl, rfl, _, _, rfl, rfl, .inr ⟨by decide, by decide⟩, _, rfl, A.p, C, A.dx, _, rfl, hA.ob, T.cl, T.nAt, (by show 6 < 1000; decide), ?_⟩
        refine q1 _ _ (hA.putAt (p := n + 1) (q := 0) (by omega) (by omega) (by omega)) (kA.trans Mach.keepP) fun _ => ?_
        show (if i ≠ 0 then _ else if Ql50.SIZE ≤ n then _ else _) = _
        unfold Ql50.SIZE
        rw [if_neg (by omega), if_neg (by omega)]; rfl
theorem sc_go_on_from_b : FnScope ["m", "i", "j", "k"] ["m", "i", "j", "k"] (defScope s_go_on_from_b) := ⟨rfl, rfl, rfl, by decide +kernel, rfl, by decide +kernel, by decide +kernel⟩
theorem ok_go_on_from_b (T : Txt K mg C) : DF P w K mg base "go_on_from_b" 2 ["m", "i", "j", "k"] (spJump C 2) := by
  refine df_of T.f_go_on_from_b sc_go_on_from_b (fun vs H Q E h => ?_) (fun f cdv A outer s H vs Q E hr h => ?_)
  · obtain ⟨A, M, here, i, j, n, rfl, _⟩ := h; rfl
  · obtain ⟨A, M, here, i, j, n, rfl, hM, hi, hj, hn, hh, ha1, ha2, q1, q2⟩ := h
    refine ⟨_, (pss_cons (ps_fld (pv 0) (pe_op op_mul (pe_df (ok_plus T) (hr.mono (by decide)) (pa_cons (pe_regB (C := C) T 0 1) (pa_cons (pv 3) (pa_cons (pe_gi rfl T.c_ONES18) pa_nil)))) pe_int) rfl) (pss_one (ps_ret (pe_gi rfl T.c_DONE)))), ?_⟩
    refine ⟨A, M, i, rfl, rfl, hM, hi, _, rfl, M.b i, n, 262143, rfl, hn, _, _, rfl, rfl, .inr ⟨by decide, by decide⟩, _, rfl, A.p, C, A.dx, _, rfl, hM.ob, T.cl, T.nAt, (by show 6 < 1000; decide), ?_⟩
    have hp := plus_le 262143 (M.b i) n (hM.wf.b i) hn
    exact q1 _ _ (hM.putAt (p := Ql50.plus 262143 (M.b i) n) (q := 0) (by omega) hp (by omega)) Mach.keepP fun _ => rfl
theorem sc_go_on_by_x : FnScope ["m", "i", "j", "k"] ["m", "i", "j", "k"] (defScope s_go_on_by_x) := ⟨rfl, rfl, rfl, by decide +kernel, rfl, by decide +kernel, by decide +kernel⟩
theorem ok_go_on_by_x (T : Txt K mg C) : DF P w K mg base "go_on_by_x" 4 ["m", "i", "j", "k"] (spJump C 3) := by
  refine df_of T.f_go_on_by_x sc_go_on_by_x (fun vs H Q E h => ?_) (fun f cdv A outer s H vs Q E hr h => ?_)
  · obtain ⟨A, M, here, i, j, n, rfl, _⟩ := h; rfl
  · obtain ⟨A, M, here, i, j, n, rfl, hM, hi, hj, hn, hh, ha1, ha2, q1, q2⟩ := h
    refine ⟨_, (pss_cons (ps_if (pt_val (pe_df (ok_word_holds T) (hr.mono (by decide)) (pa_cons (pe_regX (C := C) T 0 2) (pa_cons (pv 1) pa_nil)))) (pss_one (ps_fld (pv 0) (pe_op op_mul (pv 3) pe_int) rfl)) pss_nil) (pss_one (ps_ret (pe_gi rfl T.c_DONE)))), ?_⟩
    refine ⟨A, M, j, rfl, rfl, hM, hj, _, rfl, M.x j, i, rfl, hM.wf.x j, hi, _, rfl, ?_⟩
    refine ite2 (fun c => ?_) (fun c => ?_)
    · refine ⟨_, rfl, _, _, rfl, rfl, .inr ⟨by decide, by decide⟩, _, rfl, A.p, C, A.dx, _, rfl, hM.ob, T.cl, T.nAt, (by show 6 < 1000; decide), ?_⟩
      exact q1 _ _ (hM.putAt (p := n) (q := 0) (by omega) hn (by omega)) Mach.keepP fun _ => by show Except.ok (if _ then _ else _) = _; rw [if_pos c]; rfl
    · exact q1 _ _ hM Keep.refl fun _ => by show Except.ok (if _ then _ else _) = _; rw [if_neg c]
theorem sc_go_on_if_same : FnScope ["m", "i", "j", "k"] ["m", "i", "j", "k"] (defScope s_go_on_if_same) := ⟨rfl, rfl, rfl, by decide +kernel, rfl, by decide +kernel, by decide +kernel⟩
theorem ok_go_on_if_same (T : Txt K mg C) : DF P w K mg base "go_on_if_same" 2 ["m", "i", "j", "k"] (spJump C 4) := by
  refine df_of T.f_go_on_if_same sc_go_on_if_same (fun vs H Q E h => ?_) (fun f cdv A outer s H vs Q E hr h => ?_)
  · obtain ⟨A, M, here, i, j, n, rfl, _⟩ := h; rfl
  · obtain ⟨A, M, here, i, j, n, rfl, hM, hi, hj, hn, hh, ha1, ha2, q1, q2⟩ := h
    refine ⟨_, (pss_cons (ps_if (pt_cmpR op_in_seq (pe_df (ok_minus T) (hr.mono (by decide)) (pa_cons (pe_regB (C := C) T 0 1) (pa_cons (pe_regB (C := C) T 0 2) (pa_cons (pe_gi rfl T.c_ONES18) pa_nil)))) (pe_tup (pa_cons pe_int (pa_cons (pe_gi rfl T.c_ONES18) pa_nil))) (by with_unfolding_all rfl)) (pss_one (ps_fld (pv 0) (pe_op op_mul (pv 3) pe_int) rfl)) pss_nil) (pss_one (ps_ret (pe_gi rfl T.c_DONE)))), ?_⟩
    have hd := minus_le 262143 (M.b i) (M.b j) (hM.wf.b i) (hM.wf.b j)
    have hs : Ql50.size Ql50.M18 (Ql50.minus 262143 (M.b i) (M.b j)) = 0 ↔ (Ql50.minus 262143 (M.b i) (M.b j) = 0 ∨ Ql50.minus 262143 (M.b i) (M.b j) = 262143) := by
      rw [size18]; split <;> omega
    refine ⟨A, M, i, rfl, rfl, hM, hi, A, M, j, rfl, rfl, hM, hj, M.b i, M.b j, 262143, rfl, hM.wf.b j, (by show 2 ≤ sizeLine; decide), fun p hp => ⟨p, _, rfl, .inr (SqT.of upd_same), rfl, rfl, _, rfl, ?_⟩⟩
    have hM0 := hM
    have hM := hM.same (same_tup (xs := [.int 0, .int 262143]) hp)
    have k0 : Keep A H _ := Keep.of_same (same_tup (xs := [.int 0, .int 262143]) hp)
    generalize upd H p _ = H1 at *
    refine ite2 (fun c => ?_) (fun c => ?_)
    · have c := in_of c
      refine ⟨_, rfl, _, _, rfl, rfl, .inr ⟨by decide, by decide⟩, _, rfl, A.p, C, A.dx, _, rfl, hM.ob, T.cl, T.nAt, (by show 6 < 1000; decide), ?_⟩
      exact q1 _ _ (hM.putAt (p := n) (q := 0) (by omega) hn (by omega)) (k0.trans Mach.keepP) fun _ => by show Except.ok (if Ql50.size Ql50.M18 (Ql50.minus 262143 (M.b i) (M.b j)) = 0 then _ else _) = _; rw [if_pos (hs.mpr (by omega))]; rfl
    · have c := nin_of c
      exact q1 _ _ hM k0 fun _ => by show Except.ok (if Ql50.size Ql50.M18 (Ql50.minus 262143 (M.b i) (M.b j)) = 0 then _ else _) = _; rw [if_neg (fun z => by have := hs.mp z; omega)]
theorem sc_go_on_unless_same : FnScope ["m", "i", "j", "k"] ["m", "i", "j", "k"] (defScope s_go_on_unless_same) := ⟨rfl, rfl, rfl, by decide +kernel, rfl, by decide +kernel, by decide +kernel⟩
theorem ok_go_on_unless_same (T : Txt K mg C) : DF P w K mg base "go_on_unless_same" 2 ["m", "i", "j", "k"] (spJump C 5) := by
  refine df_of T.f_go_on_unless_same sc_go_on_unless_same (fun vs H Q E h => ?_) (fun f cdv A outer s H vs Q E hr h => ?_)
  · obtain ⟨A, M, here, i, j, n, rfl, _⟩ := h; rfl
  · obtain ⟨A, M, here, i, j, n, rfl, hM, hi, hj, hn, hh, ha1, ha2, q1, q2⟩ := h
    refine ⟨_, (pss_cons (ps_if (pt_cmpR op_notIn_seq (pe_df (ok_minus T) (hr.mono (by decide)) (pa_cons (pe_regB (C := C) T 0 1) (pa_cons (pe_regB (C := C) T 0 2) (pa_cons (pe_gi rfl T.c_ONES18) pa_nil)))) (pe_tup (pa_cons pe_int (pa_cons (pe_gi rfl T.c_ONES18) pa_nil))) (by with_unfolding_all rfl)) (pss_one (ps_fld (pv 0) (pe_op op_mul (pv 3) pe_int) rfl)) pss_nil) (pss_one (ps_ret (pe_gi rfl T.c_DONE)))), ?_⟩
    have hd := minus_le 262143 (M.b i) (M.b j) (hM.wf.b i) (hM.wf.b j)
    have hs : Ql50.size Ql50.M18 (Ql50.minus 262143 (M.b i) (M.b j)) = 0 ↔ (Ql50.minus 262143 (M.b i) (M.b j) = 0 ∨ Ql50.minus 262143 (M.b i) (M.b j) = 262143) := by
      rw [size18]; split <;> omega
    refine ⟨A, M, i, rfl, rfl, hM, hi, A, M, j, rfl, rfl, hM, hj, M.b i, M.b j, 262143, rfl, hM.wf.b j, (by show 2 ≤ sizeLine; decide), fun p hp => ⟨p, _, rfl, .inr (SqT.of upd_same), rfl, rfl, _, rfl, ?_⟩⟩
    have hM0 := hM
    have hM := hM.same (same_tup (xs := [.int 0, .int 262143]) hp)
    have k0 : Keep A H _ := Keep.of_same (same_tup (xs := [.int 0, .int 262143]) hp)
    generalize upd H p _ = H1 at *
    rw [notin_eq]
    refine ite2 (fun c => ?_) (fun c => ?_)
    · have c := of_decide_eq_true c
      refine ⟨_, rfl, _, _, rfl, rfl, .inr ⟨by decide, by decide⟩, _, rfl, A.p, C, A.dx, _, rfl, hM.ob, T.cl, T.nAt, (by show 6 < 1000; decide), ?_⟩
      exact q1 _ _ (hM.putAt (p := n) (q := 0) (by omega) hn (by omega)) (k0.trans Mach.keepP) fun _ => by show Except.ok (if Ql50.size Ql50.M18 (Ql50.minus 262143 (M.b i) (M.b j)) = 0 then _ else _) = _; rw [if_neg (fun z => by have := hs.mp z; omega)]; rfl
    · have c := no_of c
      exact q1 _ _ hM k0 fun _ => by show Except.ok (if Ql50.size Ql50.M18 (Ql50.minus 262143 (M.b i) (M.b j)) = 0 then _ else _) = _; rw [if_pos (hs.mpr (by omega))]
theorem sc_go_on_unless_less : FnScope ["m", "i", "j", "k"] ["m", "i", "j", "k"] (defScope s_go_on_unless_less) := ⟨rfl, rfl, rfl, by decide +kernel, rfl, by decide +kernel, by decide +kernel⟩
theorem ok_go_on_unless_less (T : Txt K mg C) : DF P w K mg base "go_on_unless_less" 2 ["m", "i", "j", "k"] (spJump C 6) := by
  refine df_of T.f_go_on_unless_less sc_go_on_unless_less (fun vs H Q E h => ?_) (fun f cdv A outer s H vs Q E hr h => ?_)
  · obtain ⟨A, M, here, i, j, n, rfl, _⟩ := h; rfl
  · obtain ⟨A, M, here, i, j, n, rfl, hM, hi, hj, hn, hh, ha1, ha2, q1, q2⟩ := h
    refine ⟨_, (pss_cons (ps_if (pt_cmpR op_lt (pe_df (ok_minus T) (hr.mono (by decide)) (pa_cons (pe_regB (C := C) T 0 1) (pa_cons (pe_regB (C := C) T 0 2) (pa_cons (pe_gi rfl T.c_ONES18) pa_nil)))) (pe_gi rfl T.c_SIGN18) (nomark _)) (pss_one (ps_fld (pv 0) (pe_op op_mul (pv 3) pe_int) rfl)) pss_nil) (pss_one (ps_ret (pe_gi rfl T.c_DONE)))), ?_⟩
    refine ⟨A, M, i, rfl, rfl, hM, hi, A, M, j, rfl, rfl, hM, hj, M.b i, M.b j, 262143, rfl, hM.wf.b j, _, _, rfl, rfl, _, rfl, ?_⟩
    dsimp only
    with_reducible refine ite2 (fun c => ?_) (fun c => ?_)
    · have c := of_decide_eq_true c
      refine ⟨_, rfl, _, _, rfl, rfl, .inr ⟨by decide, by decide⟩, _, rfl, A.p, C, A.dx, _, rfl, hM.ob, T.cl, T.nAt, (by show 6 < 1000; decide), ?_⟩
      exact q1 _ _ (hM.putAt (p := n) (q := 0) (by omega) hn (by omega)) Mach.keepP fun _ => by show Except.ok (if Ql50.negative Ql50.M18 (Ql50.minus 262143 (M.b i) (M.b j)) = true then _ else _) = _; rw [neg18, if_neg (by rw [decide_eq_true_iff]; omega)]; rfl
    · have c := no_of c
      exact q1 _ _ hM Keep.refl fun _ => by show Except.ok (if Ql50.negative Ql50.M18 (Ql50.minus 262143 (M.b i) (M.b j)) = true then _ else _) = _; rw [neg18, if_pos (decide_eq_true (by omega))]
theorem sc_go_on_if_less : FnScope ["m", "i", "j", "k"] ["m", "i", "j", "k"] (defScope s_go_on_if_less) := ⟨rfl, rfl, rfl, by decide +kernel, rfl, by decide +kernel, by decide +kernel⟩
theorem ok_go_on_if_less (T : Txt K mg C) : DF P w K mg base "go_on_if_less" 2 ["m", "i", "j", "k"] (spJump C 7) := by
  refine df_of T.f_go_on_if_less sc_go_on_if_less (fun vs H Q E h => ?_) (fun f cdv A outer s H vs Q E hr h => ?_)
  · obtain ⟨A, M, here, i, j, n, rfl, _⟩ := h; rfl
  · obtain ⟨A, M, here, i, j, n, rfl, hM, hi, hj, hn, hh, ha1, ha2, q1, q2⟩ := h
    refine ⟨_, (pss_cons (ps_if (pt_cmpR op_ge (pe_df (ok_minus T) (hr.mono (by decide)) (pa_cons (pe_regB (C := C) T 0 1) (pa_cons (pe_regB (C := C) T 0 2) (pa_cons (pe_gi rfl T.c_ONES18) pa_nil)))) (pe_gi rfl T.c_SIGN18) (nomark _)) (pss_one (ps_fld (pv 0) (pe_op op_mul (pv 3) pe_int) rfl)) pss_nil) (pss_one (ps_ret (pe_gi rfl T.c_DONE)))), ?_⟩
    refine ⟨A, M, i, rfl, rfl, hM, hi, A, M, j, rfl, rfl, hM, hj, M.b i, M.b j, 262143, rfl, hM.wf.b j, _, _, rfl, rfl, _, rfl, ?_⟩
    dsimp only
    with_reducible refine ite2 (fun c => ?_) (fun c => ?_)
    · have c := of_decide_eq_true c
      refine ⟨_, rfl, _, _, rfl, rfl, .inr ⟨by decide, by decide⟩, _, rfl, A.p, C, A.dx, _, rfl, hM.ob, T.cl, T.nAt, (by show 6 < 1000; decide), ?_⟩
      exact q1 _ _ (hM.putAt (p := n) (q := 0) (by omega) hn (by omega)) Mach.keepP fun _ => by show Except.ok (if Ql50.negative Ql50.M18 (Ql50.minus 262143 (M.b i) (M.b j)) = true then _ else _) = _; rw [neg18, if_pos (decide_eq_true (by omega))]; rfl
    · have c := no_of c
      exact q1 _ _ hM Keep.refl fun _ => by show Except.ok (if Ql50.negative Ql50.M18 (Ql50.minus 262143 (M.b i) (M.b j)) = true then _ else _) = _; rw [neg18, if_neg (by rw [decide_eq_true_iff]; omega)]
end
end Sx
set_option Elab.async false
set_option linter.all false
set_option maxRecDepth 100000
set_option maxHeartbeats 4000000
namespace Sx
open PySem L2
theorem paired_get {α β : Type} {R : α → β → Prop} : ∀ {l : List α} {m : List β} {i : Nat} {x : α}, Paired R l m → l[i]? = some x → ∃ y, m[i]? = some y ∧ R x y
  | _, _, _, _, .nil, e => by simp at e
  | _, _, 0, _, .cons r _, e => by simp at e; subst e; exact ⟨_, rfl, r⟩
  | _, _, i + 1, x, .cons _ t, e => by
    obtain ⟨u, h1, h2⟩ := paired_get (i := i) (x := x) t (by simpa using e)
    exact ⟨u, by simpa using h1, h2⟩
theorem paired_get' {α β : Type} {R : α → β → Prop} : ∀ {l : List α} {m : List β} {i : Nat} {y : β}, Paired R l m → m[i]? = some y → ∃ x, l[i]? = some x ∧ R x y
  | _, _, _, _, .nil, e => by simp at e
  | _, _, 0, _, .cons r _, e => by simp at e; subst e; exact ⟨_, rfl, r⟩
  | _, _, i + 1, y, .cons _ t, e => by
    obtain ⟨u, h1, h2⟩ := paired_get' (i := i) (y := y) t (by simpa using e)
    exact ⟨u, by simpa using h1, h2⟩
section
variable {P : Program} {w : World} {K : PySem.W.Frag} {mg : Str → Option Value} {base : Heap}
theorem DF.mono {name : Str} {j k : Nat} {ps : List Str} {sp : Sp} (D : DF P w K mg base name j ps sp) (h : j ≤ k) : DF P w K mg base name k ps sp :=
  ⟨let ⟨f, fd, a, b, c, d⟩ := D.ex; ⟨f, fd, a, b, c, d.mono h⟩⟩
theorem tab_at {ns : List Str} {fs : List Addr} {ds : List Nat} {k : Nat} {ps : List Str} {sp : Nat → Sp} (h : Paired (fun n f => mg n = some (.ref f)) ns fs) (g : Paired (fun (n : Str) (d : Nat) => DF P w K mg base n k ps (sp d)) ns ds)
    {i d : Nat} (e : ds[i]? = some d) : ∃ f, (fs.map V.ref)[i]? = some (V.ref f) ∧ PySem.W.keepIn K (.ref f) = true ∧ ∃ fd, Binds K fd ps [] ∧ FnOk P w K mg base CX0 k f fd ps (sp d) := by
  obtain ⟨n, hn, D⟩ := paired_get' g e
  obtain ⟨f, hf, hm⟩ := paired_get h hn
  obtain ⟨f', fd, hm', hk, hb, F⟩ := D.ex
  rw [hm] at hm'
  cases hm'
  exact ⟨f, by rw [List.getElem?_map, hf]; rfl, hk, fd, hb, F⟩
end
def spPerform (C : Addr) : Sp := fun vs H Q _ => ∃ (A : Ads) (M : Ql50.St) (here f i j k n kk : Nat), vs = [.ref A.p, .int f, .int i, .int j, .int kk] ∧ Mach C H A M ∧ f < 64 ∧ i < 8 ∧ j < 8 ∧ kk ≤ 262143 ∧ n ≤ 262143 ∧ here < 65536 ∧ 4 * here < 4 * M.p + M.q ∧ 4 * M.p + M.q ≤ 4 * here + 4 ∧
  (Ql50.long f = 2 → n = kk) ∧ (Ql50.long f ≠ 2 → k = kk ∧ kk < 8) ∧
  (∀ H' M', Mach C H' A M' → Keep A H H' → M.act here f i j k n = .ok M' → Q (.int 0) H') ∧ (∀ e : Nat, M.act here f i j k n = .error e → Q (.int e) H)
def spStep (C : Addr) : Sp := fun vs H Q _ => ∃ (A : Ads) (M : Ql50.St), vs = [.ref A.p] ∧ Mach C H A M ∧
  (∀ H' M', M.step = .ok M' → Mach C H' A M' → Keep A H H' → Q (.int 0) H') ∧ (∀ (H' : Hp) (e : Nat), e ≠ 0 → M.step = .error e → Mach C H' A M → Keep A H H' → Q (.int e) H')
def spRun (C : Addr) : Sp := fun vs H Q _ => ∃ (A : Ads) (M : Ql50.St) (n : Nat), vs = [.ref A.p, .int n] ∧ Mach C H A M ∧ ∀ H', Mach C H' A (Ql50.steps n M).1 → Keep A H H' → Q (.int ((Ql50.steps n M).2 : Nat)) H'
section
variable {P : Program} {w : World} {K : PySem.W.Frag} {mg : Str → Option Value} {base : Heap} {C : Addr}
theorem jumps_ok (T : Txt K mg C) : Paired (fun (n : Str) (d : Nat) => DF P w K mg base n 6 ["m", "i", "j", "k"] (spJump C d)) ["stop", "leave_way_back", "go_on_from_b", "go_on_by_x", "go_on_if_same", "go_on_unless_same", "go_on_unless_less", "go_on_if_less"] [0, 1, 2, 3, 4, 5, 6, 7] :=
  .cons ((ok_stop T).mono (by decide)) (.cons ((ok_leave_way_back T).mono (by decide)) (.cons ((ok_go_on_from_b T).mono (by decide)) (.cons ((ok_go_on_by_x T).mono (by decide)) (.cons ((ok_go_on_if_same T).mono (by decide)) (.cons ((ok_go_on_unless_same T).mono (by decide)) (.cons ((ok_go_on_unless_less T).mono (by decide)) (.cons ((ok_go_on_if_less T).mono (by decide)) .nil)))))))

theorem results_ok (T : Txt K mg C) : Paired (fun (n : Str) (d : Nat) => DF P w K mg base n 6 ["m", "i", "j", "k"] (spRes C d)) ["copied", "both", "either", "one_alone", "complement", "both_complement", "either_complement", "one_alone_complement", "left_by_jk", "right_by_jk", "left_by_b", "right_by_b", "normalize", "normalize_rounded", "unpack", "pack", "upper_total", "upper_difference", "lower_total", "lower_difference", "rounded_total", "rounded_difference", "whole_total", "whole_difference", "upper_product", "rounded_product", "lower_product", "mask", "plain_quotient", "rounded_quotient", "unchanged", "count_of_ones"] [8, 9, 10, 11, 12, 13, 14, 15, 16, 17, 18, 19, 20, 21, 22, 23, 24, 25, 26, 27, 28, 29, 30, 31, 32, 33, 34, 35, 36, 37, 38, 39] :=
  .cons ((ok_copied T).mono (by decide)) (.cons ((ok_both T).mono (by decide)) (.cons ((ok_either T).mono (by decide)) (.cons ((ok_one_alone T).mono (by decide)) (.cons ((ok_complement T).mono (by decide)) (.cons ((ok_both_complement T).mono (by decide)) (.cons ((ok_either_complement T).mono (by decide)) (.cons ((ok_one_alone_complement T).mono (by decide)) (.cons ((ok_left_by_jk T).mono (by decide)) (.cons ((ok_right_by_jk T).mono (by decide)) (.cons ((ok_left_by_b T).mono (by decide)) (.cons ((ok_right_by_b T).mono (by decide)) (.cons ((ok_normalize T).mono (by decide)) (.cons ((ok_normalize_rounded T).mono (by decide)) (.cons ((ok_unpack T).mono (by decide)) (.cons ((ok_pack T).mono (by decide)) (.cons ((ok_upper_total T).mono (by decide)) (.cons ((ok_upper_difference T).mono (by decide)) (.cons ((ok_lower_total T).mono (by decide)) (.cons ((ok_lower_difference T).mono (by decide)) (.cons ((ok_rounded_total T).mono (by decide)) (.cons ((ok_rounded_difference T).mono (by decide)) (.cons ((ok_whole_total T).mono (by decide)) (.cons ((ok_whole_difference T).mono (by decide)) (.cons ((ok_upper_product T).mono (by decide)) (.cons ((ok_rounded_product T).mono (by decide)) (.cons ((ok_lower_product T).mono (by decide)) (.cons ((ok_mask T).mono (by decide)) (.cons ((ok_plain_quotient T).mono (by decide)) (.cons ((ok_rounded_quotient T).mono (by decide)) (.cons ((ok_unchanged T).mono (by decide)) (.cons ((ok_count_of_ones T).mono (by decide)) .nil)))))))))))))))))))))))))))))))

theorem sums_ok (T : Txt K mg C) : Paired (fun (n : Str) (d : Nat) => DF P w K mg base n 6 ["m", "j", "k"] (spSum C d)) ["a_plus_number", "b_plus_number", "x_plus_number", "x_plus_b", "a_plus_b", "a_minus_b", "b_plus_b", "b_minus_b"] [0, 1, 2, 3, 4, 5, 6, 7] :=
  .cons ((ok_a_plus_number T).mono (by decide)) (.cons ((ok_b_plus_number T).mono (by decide)) (.cons ((ok_x_plus_number T).mono (by decide)) (.cons ((ok_x_plus_b T).mono (by decide)) (.cons ((ok_a_plus_b T).mono (by decide)) (.cons ((ok_a_minus_b T).mono (by decide)) (.cons ((ok_b_plus_b T).mono (by decide)) (.cons ((ok_b_minus_b T).mono (by decide)) .nil)))))))

theorem sc_perform : FnScope ["m", "fm", "i", "j", "k", "number"] ["m", "fm", "i", "j", "k"] (defScope s_perform) := ⟨rfl, rfl, rfl, by decide +kernel, rfl, by decide +kernel, by decide +kernel⟩
theorem ok_perform (T : Txt K mg C) : DF P w K mg base "perform" 7 ["m", "fm", "i", "j", "k"] (spPerform C) := by
  refine df_of T.f_perform sc_perform (fun vs H Q E h => ?_) (fun f cdv A outer s H vs Q E hr h => ?_)
  · obtain ⟨A, M, here, f, i, j, k, n, kk, rfl, _⟩ := h; rfl
  · obtain ⟨A, M, here, f, i, j, k, n, kk, rfl, hM, hf, hi, hj, hkk, hn, hh, ha1, ha2, hL, hS, q1, q2⟩ := h
    refine ⟨_, (pss_cons (ps_if (pt_cmpR op_lt (pv 1) pe_int (nomark _)) (pss_one (ps_ret (pe_dfV (k := 6) (hr.mono (by decide)) (pe_ix ix_tup (pe_gr rfl T.t_JUMPS) (pv 1) (fun _ _ => rfl)) (pa_cons (pv 0) (pa_cons (pv 2) (pa_cons (pv 3) (pa_cons (pv 4) pa_nil))))))) pss_nil) (pss_cons (ps_if (pt_cmpR op_lt (pv 1) pe_int (nomark _)) (pss_cons (ps_asg (pe_dfV (k := 6) (hr.mono (by decide)) (pe_ix ix_tup (pe_gr rfl T.t_RESULTS) (pe_op op_sub (pv 1) pe_int) (fun _ _ => rfl)) (pa_cons (pv 0) (pa_cons (pv 2) (pa_cons (pv 3) (pa_cons (pv 4) pa_nil))))) (pg_sub (pe_fld (pv 0) rfl) (pv 2) set_list)) (pss_one (ps_ret (pe_gi rfl T.c_DONE)))) pss_nil) (pss_cons (ps_set (i := 5) sc_perform.nd rfl (Or.inl rfl) (pe_dfV (k := 6) (hr.mono (by decide)) (pe_ix ix_tup (pe_gr rfl T.t_SUMS) (pe_op op_and (pv 1) pe_int) (fun _ _ => rfl)) (pa_cons (pv 0) (pa_cons (pv 3) (pa_cons (pv 4) pa_nil))))) (pss_cons (ps_if (pt_cmpR op_lt (pv 1) pe_int (nomark _)) (pss_one (ps_ret (pe_df (ok_set_a T) (hr.mono (by decide)) (pa_cons (pv 0) (pa_cons (pv 2) (pa_cons (pv 5) pa_nil)))))) pss_nil) (pss_cons (ps_if (pt_cmpR op_lt (pv 1) pe_int (nomark _)) (pss_one (ps_expr (pe_mt T.cl (ok_Machine_set_b T) (hr.mono (by decide)) (pv 0) (pa_cons (pv 2) (pa_cons (pv 5) pa_nil))))) (pss_one (ps_asg (pe_df (ok_in_60_bits T) (hr.mono (by decide)) (pa_cons (pv 5) pa_nil)) (pg_sub (pe_fld (pv 0) rfl) (pv 2) set_list)))) (pss_one (ps_ret (pe_gi rfl T.c_DONE)))))))), ?_⟩
    refine ⟨_, rfl, _, _, rfl, rfl, _, rfl, ?_⟩
    refine ite2 (fun c => ?_) (fun c => ?_)
    · have c := of_decide_eq_true c
      have hf8 : f < 8 := by omega
      have hix : ([0, 1, 2, 3, 4, 5, 6, 7] : List Nat)[f]? = some f := by
        have : ∀ x : Fin 8, ([0, 1, 2, 3, 4, 5, 6, 7] : List Nat)[x.val]? = some x.val := by decide
        exact this ⟨f, hf8⟩
      have hl : f ≠ 0 → n = kk := fun z => hL (by unfold Ql50.long; rw [if_neg (by omega)])
      intro a fs hT hP
      obtain ⟨g, hg, hk, fd, hb, F⟩ := tab_at (P := P) (w := w) (base := base) hP (jumps_ok T) hix
      refine ⟨_, rfl, a, _, _, .ref g, rfl, rfl, hT _, atI_nat hg, g, rfl, hk, _, rfl, _, rfl, _, rfl, _, rfl, fd, _, _, hb, F, A, M, here, i, j, kk, rfl, hM, hi, hj, hkk, hh, ha1, ha2, fun H' M' hM' kp e => ?_, fun e he => ?_⟩
      · exact q1 H' M' hM' kp ((act_jump hl).trans (e k))
      · exact q2 e ((act_jump hl).trans (he k))
    · have c := no_of c
      refine ⟨_, rfl, _, _, rfl, rfl, _, rfl, ?_⟩
      refine ite2 (fun c2 => ?_) (fun c2 => ?_)
      · have c2 := of_decide_eq_true c2
        obtain ⟨rfl, hk8⟩ := hS (by unfold Ql50.long; rw [if_pos (by omega)]; decide)
        have hix : ([8, 9, 10, 11, 12, 13, 14, 15, 16, 17, 18, 19, 20, 21, 22, 23, 24, 25, 26, 27, 28, 29, 30, 31, 32, 33, 34, 35, 36, 37, 38, 39] : List Nat)[f - 8]? = some f := by
          have : ∀ x : Fin 32, ([8, 9, 10, 11, 12, 13, 14, 15, 16, 17, 18, 19, 20, 21, 22, 23, 24, 25, 26, 27, 28, 29, 30, 31, 32, 33, 34, 35, 36, 37, 38, 39] : List Nat)[x.val]? = some (x.val + 8) := by decide
          rw [this ⟨f - 8, by omega⟩]
          show some (f - 8 + 8) = _
          rw [Nat.sub_add_cancel (by omega)]
        intro a fs hT hP
        obtain ⟨g, hg, hk, fd, hb, F⟩ := tab_at (P := P) (w := w) (base := base) hP (results_ok T) hix
        refine ⟨_, rfl, _, _, rfl, rfl, a, _, _, .ref g, rfl, rfl, hT _, at_of (j := f - 8) (by omega) hg, g, rfl, hk, _, rfl, _, rfl, _, rfl, _, rfl, fd, _, _, hb, F, A, M, i, j, k, rfl, hM, hi, hj, hk8, fun H' M' v hM' kp hv e => ?_⟩
        refine ⟨_, rfl, A.p, C, A.dx, _, _, rfl, hM'.ob, T.cl, T.nX, mf_x, _, rfl, A.lx, _, _, i, rfl, rfl, hM'.x, by rw [regs_len]; exact ix_nat hi, ?_⟩
        exact q1 _ _ (hM'.setX i hv) (kp.trans Mach.keepX) (e here n)
      · have c2 := no_of c2
        have hf40 : 40 ≤ f := by omega
        have e7 : Builtin.bitAnd (f : Int) 7 = ((f % 8 : Nat) : Int) := by
          rw [show (7 : Int) = ((2 ^ 3 - 1 : Nat) : Int) from rfl, bAnd, and_mask]
        have h8 : f % 8 < 8 := Nat.mod_lt _ (by decide)
        have hix : ([0, 1, 2, 3, 4, 5, 6, 7] : List Nat)[f % 8]? = some (f % 8) := by
          have : ∀ x : Fin 8, ([0, 1, 2, 3, 4, 5, 6, 7] : List Nat)[x.val]? = some x.val := by decide
          exact this ⟨f % 8, h8⟩
        intro a fs hT hP
        obtain ⟨g, hg, hk, fd, hb, F⟩ := tab_at (P := P) (w := w) (base := base) hP (sums_ok T) hix
        have hab := act_big (m := M) (here := here) (i := i) (j := j) (k := k) (n := n) hf40
        have hs := sum_digit (m := M) (j := j) hf40 hL fun z => (hS z).1
        have hv := sum_le hM.wf f j k n hn
        refine ⟨_, rfl, _, _, rfl, rfl, a, _, _, .ref g, rfl, rfl, hT _, at_of (j := f % 8) e7 hg, g, rfl, hk, _, rfl, _, rfl, _, rfl, fd, _, _, hb, F, A, M, j, kk, rfl, hM, hj, hkk, fun z => ?_, ?_⟩
        · exact (hS (by unfold Ql50.long; rw [if_pos (by omega)]; decide)).2
        rw [hs]
        generalize M.sum f j k n = v at *
        refine ⟨_, rfl, _, _, rfl, rfl, _, rfl, ?_⟩
        refine ite2 (fun c3 => ?_) (fun c3 => ?_)
        · have c3 := of_decide_eq_true c3
          rw [if_pos (by omega)] at hab
          refine ⟨_, rfl, _, rfl, _, rfl, A, M, i, v, rfl, hM, hi, hv, fun H' t e hM' kp => q1 H' t hM' kp ?_, fun e => q2 2 ?_⟩
          · rw [hab, e]
          · rw [hab, e]
        · have c3 := no_of c3
          rw [if_neg (by omega)] at hab
          refine ⟨_, rfl, _, _, rfl, rfl, _, rfl, ?_⟩
          refine ite2 (fun c4 => ?_) (fun c4 => ?_)
          · have c4 := of_decide_eq_true c4
            rw [if_pos (by omega)] at hab
            exact ⟨_, rfl, A.p, A.dx, _, rfl, hM.ob, mf_no (by decide +kernel) (by decide +kernel) (by decide +kernel) (by decide +kernel) (by decide +kernel) (by decide +kernel), _, rfl, _, rfl, A, M, i, v, rfl, hM, hi, hv, fun H' hM' kp => q1 H' _ hM' kp hab⟩
          · have c4 := no_of c4
            rw [if_neg (by omega)] at hab
            refine ⟨_, rfl, v, rfl, _, rfl, A.p, C, A.dx, _, _, rfl, hM.ob, T.cl, T.nX, mf_x, _, rfl, A.lx, _, _, i, rfl, rfl, hM.x, by rw [regs_len]; exact ix_nat hi, ?_⟩
            exact q1 _ _ (hM.setX i (wide_lt _ hv)) Mach.keepX hab
theorem sc_step : FnScope ["m", "at", "place", "word", "part", "fm", "k", "why"] ["m"] (defScope s_step) := ⟨rfl, rfl, rfl, by decide +kernel, rfl, by decide +kernel, by decide +kernel⟩
theorem ok_step (T : Txt K mg C) : DF P w K mg base "step" 8 ["m"] (spStep C) := by
  refine df_of T.f_step sc_step (fun vs H Q E h => ?_) (fun f cdv A outer s H vs Q E hr h => ?_)
  · obtain ⟨A, M, rfl, _⟩ := h; rfl
  · obtain ⟨A, M, rfl, hM, q1, q2⟩ := h
    have hq3 := hM.wf.q
    refine ⟨_, (pss_cons (ps_set (i := 1) sc_step.nd rfl (Or.inl rfl) (pe_fld (pv 0) rfl)) (pss_cons (ps_if (pt_cmpR op_ge (pv 1) (pe_gi rfl T.c_MEMORY_PARTS) (nomark _)) (pss_one (ps_ret (pe_gi rfl T.c_NO_WORD))) pss_nil) (pss_cons (ps_set (i := 2) sc_step.nd rfl (Or.inl rfl) (pe_op op_and (pv 1) pe_int)) (pss_cons (ps_set (i := 3) sc_step.nd rfl (Or.inl rfl) (pe_ix ix_list (pe_fld (pv 0) rfl) (pe_op op_shr (pv 1) pe_int) (fun _ _ => rfl))) (pss_cons (ps_set (i := 4) sc_step.nd rfl (Or.inl rfl) (pe_op op_and (pe_op op_shr (pv 3) (pe_op op_sub pe_int (pe_op op_mul pe_int (pv 2)))) pe_int)) (pss_cons (ps_set (i := 5) sc_step.nd rfl (Or.inl rfl) (pe_op op_shr (pv 4) pe_int)) (pss_cons (ps_set (i := 6) sc_step.nd rfl (Or.inl rfl) (pe_op op_and (pv 4) pe_int)) (pss_cons (ps_if (pt_cmpR op_eq (pe_ix ix_tup (pe_gti rfl T.t_PARTS) (pv 5) (fun _ _ => rfl)) pe_int (nomark _)) (pss_cons (ps_if (pt_cmpR op_eq (pv 2) pe_int (nomark _)) (pss_one (ps_ret (pe_gi rfl T.c_CUT_OFF))) pss_nil) (pss_one (ps_set (i := 6) sc_step.nd rfl (Or.inl rfl) (pe_op op_and (pe_op op_shr (pv 3) (pe_op op_sub pe_int (pe_op op_mul pe_int (pv 2)))) pe_int)))) pss_nil) (pss_cons (ps_fld (pv 0) (pe_op op_add (pv 1) (pe_ix ix_tup (pe_gti rfl T.t_PARTS) (pv 5) (fun _ _ => rfl))) rfl) (pss_cons (ps_set (i := 7) sc_step.nd rfl (Or.inl rfl) (pe_df (ok_perform T) (hr.mono (by decide)) (pa_cons (pv 0) (pa_cons (pv 5) (pa_cons (pe_op op_and (pe_op op_shr (pv 4) pe_int) pe_int) (pa_cons (pe_op op_and (pe_op op_shr (pv 4) pe_int) pe_int) (pa_cons (pv 6) pa_nil))))))) (pss_cons (ps_if (pt_cmpR op_ne (pv 7) (pe_gi rfl T.c_DONE) (nomark _)) (pss_one (ps_fld (pv 0) (pv 1) rfl)) pss_nil) (pss_one (ps_ret (pv 7)))))))))))))), ?_⟩
    refine ⟨_, rfl, A.p, C, A.dx, _, _, rfl, hM.ob, T.cl, T.nAt, mf_at_get, _, rfl, _, _, rfl, rfl, _, rfl, ?_⟩
    refine ite2 (fun c => ?_) (fun c => ?_)
    · have c := of_decide_eq_true c
      exact q2 H 2 (by decide) (step_out (by omega)) hM Keep.refl
    · have c := no_of c
      have hp : M.p < 65536 := by omega
      have e3 : Builtin.bitAnd ((4 * M.p + M.q : Nat) : Int) 3 = (M.q : Int) := by
        rw [and3]; omega
      have e2 : ((4 * M.p + M.q : Nat) : Int) / 2 ^ (2 : Int).toNat = (M.p : Int) := by
        rw [shr2]; omega
      refine ⟨_, rfl, _, _, rfl, rfl, _, rfl, A.p, C, A.dx, _, _, rfl, hM.ob, T.cl, T.nM, mf_memory, _, rfl, _, _, rfl, rfl, (by show (0 : Int) ≤ 2; decide), A.lm, _, _, _, rfl, rfl, SqL.of hM.m, at_of (j := M.p) e2 (regs_get hp), ?_⟩
      dsimp only
      rw [e3]
      have eS : (45 : Int) - 15 * (M.q : Int) = ((45 - 15 * M.q : Nat) : Int) := by omega
      have eP : Builtin.bitAnd ((M.mem M.p : Int) / 2 ^ ((45 : Int) - 15 * (M.q : Int)).toNat) 32767 = ((Ql50.part (M.mem M.p) M.q : Nat) : Int) := by
        rw [eS, shrN, show (32767 : Int) = ((2 ^ 15 - 1 : Nat) : Int) from rfl, bAnd, and_mask]; rfl
      refine ⟨_, rfl, _, rfl, _, _, rfl, rfl, .inl ⟨by decide, by decide⟩, _, _, rfl, rfl, _, _, rfl, rfl, (by show (0 : Int) ≤ 45 - 15 * (M.q : Int); omega), _, _, rfl, rfl, ?_⟩
      dsimp only
      rw [eP]
      have hpl := part_lt (M.mem M.p) M.q
      have sOut := fun (hl : Ql50.long (Ql50.part (M.mem M.p) M.q / 512) = 2) (hq : M.q = 3) => step_cut hp hl hq
      have sIn := fun (p' q' n : Nat) => step_in (m := M) (p' := p') (q' := q') (n := n) hp hq3
      have hK := k18 (M.mem M.p) M.q
      generalize Ql50.part (M.mem M.p) M.q = h at *
      have e9 : (h : Int) / 2 ^ (9 : Int).toNat = ((h / 512 : Nat) : Int) := shrN h 9
      have ek : Builtin.bitAnd (h : Int) 7 = ((h % 8 : Nat) : Int) := by
        rw [show (7 : Int) = ((2 ^ 3 - 1 : Nat) : Int) from rfl, bAnd, and_mask]
      have e6 : Builtin.bitAnd ((h : Int) / 2 ^ (6 : Int).toNat) 7 = ((h / 64 % 8 : Nat) : Int) := by
        rw [show (h : Int) / 2 ^ (6 : Int).toNat = ((h / 64 : Nat) : Int) from shrN h 6, show (7 : Int) = ((2 ^ 3 - 1 : Nat) : Int) from rfl, bAnd, and_mask]
      have e33 : Builtin.bitAnd ((h : Int) / 2 ^ (3 : Int).toNat) 7 = ((h / 8 % 8 : Nat) : Int) := by
        rw [show (h : Int) / 2 ^ (3 : Int).toNat = ((h / 8 : Nat) : Int) from shrN h 3, show (7 : Int) = ((2 ^ 3 - 1 : Nat) : Int) from rfl, bAnd, and_mask]
      refine ⟨_, rfl, _, _, rfl, rfl, (by show (0 : Int) ≤ 9; decide), _, rfl, _, _, rfl, rfl, ?_⟩
      dsimp only
      rw [e9, ek]
      have hf64 : h / 512 < 64 := by omega
      have hpg : atI (parts64.map V.int) ((h / 512 : Nat) : Int) = some (V.int ((Ql50.long (h / 512) : Nat) : Int)) := atI_nat (by rw [List.getElem?_map, parts_get hf64]; rfl)
      have hlc := long_cases (h / 512)
      -- what follows, whatever k has become
      intro ta tT
      refine ⟨_, rfl, ta, _, _, _, rfl, rfl, tT _, hpg, rfl, _, rfl, ?_⟩
      refine ite2 (fun c2 => ?kLong) (fun c2 => ?kShort)
      case' kLong =>
        have c2 := eq_of c2
        have hl : Ql50.long (h / 512) = 2 := by omega
        refine ⟨_, rfl, rfl, _, rfl, ?_⟩
        refine ite2 (fun c3 => ?kCut) (fun c3 => ?kIn)
        case kCut =>
          have c3 := eq_of c3
          exact q2 H 3 (by decide) (sOut hl (by omega)) hM Keep.refl
        case' kIn =>
          have c3 := ne_of' c3
          have hq2 : M.q ≤ 2 := by omega
          have hno : ¬ (Ql50.long (h / 512) = 2 ∧ M.q = 3) := fun z => by omega
          have eT : (30 : Int) - 15 * (M.q : Int) = ((30 - 15 * M.q : Nat) : Int) := by omega
          have eN : Builtin.bitAnd ((M.mem M.p : Int) / 2 ^ ((30 : Int) - 15 * (M.q : Int)).toNat) 262143 = ((h % 8 * 32768 + Ql50.part (M.mem M.p) (M.q + 1) : Nat) : Int) := by
            rw [eT, shrN, show (262143 : Int) = ((2 ^ 18 - 1 : Nat) : Int) from rfl, bAnd, and_mask, ← hK hq2]
          have hnn : h % 8 * 32768 + Ql50.part (M.mem M.p) (M.q + 1) ≤ 262143 := by
            have := part_lt (M.mem M.p) (M.q + 1)
            omega
          refine ⟨_, rfl, _, rfl, _, _, rfl, rfl, .inl ⟨by decide, by decide⟩, _, _, rfl, rfl, _, _, rfl, rfl, (by show (0 : Int) ≤ 30 - 15 * (M.q : Int); omega), _, _, rfl, rfl, ?_⟩
          dsimp only
          rw [eN]
          obtain ⟨n0, k0, hk0, hnI, hnn, hkk, hS1, hS2⟩ : ∃ n0 k0 : Nat, h % 8 * 32768 + Ql50.part (M.mem M.p) (M.q + 1) = k0 ∧ (n0 = if Ql50.long (h / 512) = 2 then h % 8 * 32768 + Ql50.part (M.mem M.p) (M.q + 1) else 0) ∧ n0 ≤ 262143 ∧ k0 ≤ 262143 ∧ (Ql50.long (h / 512) = 2 → n0 = k0) ∧ (Ql50.long (h / 512) ≠ 2 → h % 8 = k0 ∧ k0 < 8) :=
            ⟨_, _, rfl, (if_pos hl).symm, hnn, hnn, fun _ => rfl, fun z => absurd hl z⟩
          rw [hk0]
      case' kShort =>
        have c2 := ne_of' c2
        have hl : Ql50.long (h / 512) ≠ 2 := by omega
        have hno : ¬ (Ql50.long (h / 512) = 2 ∧ M.q = 3) := fun z => hl z.1
        obtain ⟨n0, k0, hk0, hnI, hnn, hkk, hS1, hS2⟩ : ∃ n0 k0 : Nat, h % 8 = k0 ∧ (n0 = if Ql50.long (h / 512) = 2 then h % 8 * 32768 + Ql50.part (M.mem M.p) (M.q + 1) else 0) ∧ n0 ≤ 262143 ∧ k0 ≤ 262143 ∧ (Ql50.long (h / 512) = 2 → n0 = k0) ∧ (Ql50.long (h / 512) ≠ 2 → h % 8 = k0 ∧ k0 < 8) :=
          ⟨0, h % 8, rfl, (if_neg hl).symm, by omega, by omega, fun z => absurd z hl, fun _ => ⟨rfl, Nat.mod_lt _ (by decide)⟩⟩
        rw [hk0]
      all_goals
        obtain ⟨p', q', hpq, hp', hq', hqq⟩ : ∃ p' q' : Nat, 4 * p' + q' = 4 * M.p + M.q + Ql50.long (h / 512) ∧ p' ≤ 262143 ∧ q' ≤ 3 ∧ True := ⟨(4 * M.p + M.q + Ql50.long (h / 512)) / 4, (4 * M.p + M.q + Ql50.long (h / 512)) % 4, by omega, by omega, by omega, trivial⟩
        have sM := sIn p' q' n0 hno hpq hq' hnI
        refine ⟨_, rfl, fun tb tU => ⟨_, rfl, tb, _, _, _, rfl, rfl, tU _, hpg, _, _, rfl, rfl, _, rfl, A.p, C, A.dx, _, rfl, hM.ob, T.cl, T.nAt, (by show 6 < 1000; decide), ?_⟩⟩
        have hM1 := hM.putAt (p := p') (q := q') (z := ((4 * M.p + M.q : Nat) : Int) + ((Ql50.long (h / 512) : Nat) : Int)) (by omega) hp' hq'
        have k1 : Keep A H (upd H A.p (.ins C A.dx (putF "at" (.int (((4 * M.p + M.q : Nat) : Int) + ((Ql50.long (h / 512) : Nat) : Int))) (mf A ((4 * M.p + M.q : Nat) : Int) (M.why : Nat))))) := Mach.keepP
        generalize upd H A.p (.ins C A.dx (putF "at" (.int (((4 * M.p + M.q : Nat) : Int) + ((Ql50.long (h / 512) : Nat) : Int))) (mf A ((4 * M.p + M.q : Nat) : Int) (M.why : Nat)))) = H1 at *
        refine ⟨_, rfl, _, rfl, _, rfl, _, _, rfl, rfl, (by show (0 : Int) ≤ 6; decide), _, _, rfl, rfl, _, rfl, _, _, rfl, rfl, (by show (0 : Int) ≤ 3; decide), _, _, rfl, rfl, _, rfl, A, _, M.p, h / 512, h / 64 % 8, h / 8 % 8, h % 8, n0, k0, ?_, hM1, hf64, Nat.mod_lt _ (by decide), Nat.mod_lt _ (by decide), hkk, hnn, hp, ?_, ?_, hS1, hS2, fun H' M' hM' kp e => ?_, fun e he => ?_⟩
        · dsimp only
          rw [e6, e33]; rfl
        · show 4 * M.p < 4 * p' + q'
          omega
        · show 4 * p' + q' ≤ 4 * M.p + 4
          omega
        · refine ⟨_, rfl, rfl, _, rfl, iteF ⟨_, rfl, ?_⟩⟩
          exact q1 H' M' (sM.trans e) hM' (k1.trans kp)
        · have e0 := act_err he
          refine ⟨_, rfl, rfl, _, rfl, ?_⟩
          refine ite2 (fun c4 => ?_) (fun c4 => ?_)
          · refine ⟨_, rfl, _, rfl, A.p, C, A.dx, _, rfl, hM1.ob, T.cl, T.nAt, (by show 6 < 1000; decide), _, rfl, ?_⟩
            refine q2 _ e e0 (sM.trans he) ?_ (k1.trans Mach.keepP)
            exact hM1.putAt (p := M.p) (q := M.q) rfl hM.wf.p hq3
          · have c4 := z_of c4
            omega
/-- between two steps -/
def RunW (C : Addr) (A : Ads) (M : Ql50.St) (H : Hp) (n : Nat) : Nat → L2.St → Hp → Prop := fun m σ H' => ∃ (d y : Nat) (M' : Ql50.St), σ = [some (.ref A.p), some (.int n), some (.int d), some (.int y)] ∧ Mach C H' A M' ∧ Keep A H H' ∧ d ≤ n ∧
  ((y = 0 ∧ m = 1 + (n - d) ∧ (Ql50.steps n M).1 = (Ql50.steps (n - d) M').1 ∧ (Ql50.steps n M).2 = (Ql50.steps (n - d) M').2 + d) ∨ (y ≠ 0 ∧ m = 0 ∧ Ql50.steps n M = ({ M' with why := y }, d)))
theorem sc_run : FnScope ["m", "n", "done", "why"] ["m", "n"] (defScope s_run) := ⟨rfl, rfl, rfl, by decide +kernel, rfl, by decide +kernel, by decide +kernel⟩
theorem ok_run (T : Txt K mg C) : DF P w K mg base "run" 9 ["m", "n"] (spRun C) := by
  refine df_of T.f_run sc_run (fun vs H Q E h => ?_) (fun f cdv A outer s H vs Q E hr h => ?_)
  · obtain ⟨A, M, n, rfl, _⟩ := h; rfl
  · obtain ⟨A, M, n, rfl, hM, q⟩ := h
    refine ⟨_, (pss_cons (ps_set (i := 2) sc_run.nd rfl (Or.inl rfl) pe_int) (pss_cons (ps_set (i := 3) sc_run.nd rfl (Or.inl rfl) (pe_gi rfl T.c_DONE)) (pss_cons (ps_while PassesOwn.never (PW.pt (pw_and (pt_cmpR op_lt (pv 2) (pv 1) (nomark _)) (pw_and1 (pt_cmpR op_eq (pv 3) (pe_gi rfl T.c_DONE) (nomark _))))) (pss_cons (ps_set (i := 3) sc_run.nd rfl (Or.inl rfl) (pe_df (ok_step T) (hr.mono (by decide)) (pa_cons (pv 0) pa_nil))) (pss_one (ps_if (pt_cmpR op_eq (pv 3) (pe_gi rfl T.c_DONE) (nomark _)) (pss_one (ps_set (i := 2) sc_run.nd rfl (Or.inl rfl) (pe_op op_add (pv 2) pe_int))) pss_nil)))) (pss_cons (ps_fld (pv 0) (pv 3) rfl) (pss_one (ps_ret (pv 2))))))), ?_⟩
    refine ⟨RunW C A M H n, ⟨1 + n, 0, 0, M, rfl, hM, Keep.refl, Nat.zero_le _, .inl ⟨rfl, rfl, rfl, rfl⟩⟩, ?_⟩
    rintro m σ H' ⟨d, y, M', rfl, hM', kp, hd, hw⟩
    -- behind the loop
    have fin : Ql50.steps n M = ({ M' with why := y }, d) → Q (.int (d : Nat)) (upd H' A.p (.ins C A.dx (putF "why" (.int (y : Nat)) (mf A ((4 * M'.p + M'.q : Nat) : Int) (M'.why : Nat))))) := fun e => by
      have := q _ (by rw [e]; exact hM'.putWhy) (kp.trans Mach.keepP)
      rw [e] at this
      exact this
    refine ⟨_, rfl, _, rfl, _, _, rfl, rfl, _, rfl, ?_⟩
    refine ite2 (fun c => ?_) (fun c => ?_)
    · have c := of_decide_eq_true c
      have hdn : d < n := by omega
      refine ⟨_, rfl, rfl, _, rfl, ?_⟩
      refine ite2 (fun c2 => ?_) (fun c2 => ?_)
      · have c2 := eq_of c2
        have hy : y = 0 := by omega
        obtain ⟨k, hk⟩ : ∃ k, n - d = k + 1 := ⟨n - d - 1, by omega⟩
        obtain ⟨_, hm, h1, h2⟩ := hw.resolve_right fun z => z.1 hy
        rw [hk] at h1 h2
        refine ⟨fun σ' H2 => ∃ m', m' < m ∧ RunW C A M H n m' σ' H2, fun σ' H2 z => z, ?_⟩
        refine ⟨_, rfl, A, M', rfl, hM', fun H2 M2 e hM2 kp2 => ?_, fun H2 e e0 he hM2 kp2 => ?_⟩
        · refine ⟨_, rfl, rfl, _, rfl, ?_⟩
          refine iteT ?_
          refine ⟨_, rfl, _, _, rfl, rfl, ?_⟩
          rw [steps_ok e] at h1 h2
          refine ⟨1 + (n - (d + 1)), by omega, d + 1, 0, M2, rfl, hM2, kp.trans kp2, by omega, .inl ⟨rfl, rfl, ?_, ?_⟩⟩
          · rw [show n - (d + 1) = k by omega]; exact h1
          · rw [show n - (d + 1) = k by omega]; omega
        · refine ⟨_, rfl, rfl, _, rfl, ?_⟩
          rw [steps_err he] at h1 h2
          refine ite2 (fun c3 => ?_) (fun c3 => ?_)
          · have c3 := eq_of c3
            omega
          · refine ⟨0, by omega, d, e, M', rfl, hM2, kp.trans kp2, by omega, .inr ⟨e0, rfl, ?_⟩⟩
            exact Prod.ext h1 (by rw [h2]; omega)
      · have c2 := ne_of' c2
        refine ⟨_, rfl, _, rfl, A.p, C, A.dx, _, rfl, hM'.ob, T.cl, T.nWhy, (by show 6 < 1000; decide), _, rfl, ?_⟩
        exact fin (hw.resolve_left fun z => c2 (by rw [z.1]; rfl)).2.2
    · have c := no_of c
      refine iteF ?_
      refine ⟨_, rfl, _, rfl, A.p, C, A.dx, _, rfl, hM'.ob, T.cl, T.nWhy, (by show 6 < 1000; decide), _, rfl, ?_⟩
      refine fin ?_
      rcases hw with ⟨hy, _, h1, h2⟩ | ⟨_, _, h⟩
      · rw [show n - d = 0 by omega] at h1 h2
        subst hy
        exact Prod.ext h1 (by rw [h2]; show 0 + d = d; omega)
      · exact h
end
end Sx
set_option Elab.async false
set_option linter.all false
set_option maxRecDepth 100000
set_option maxHeartbeats 4000000
namespace Sx
open PySem L2
def spTell (C : Addr) : Sp := fun vs H Q _ => ∃ (A : Ads) (M : Ql50.St) (k v : Nat), vs = [.ref A.p, .int k] ∧ Mach C H A M ∧ k ≤ 25 ∧ M.tell k = some v ∧ Q (.int (v : Nat)) H
def spPut (C : Addr) : Sp := fun vs H Q _ => ∃ (A : Ads) (M : Ql50.St) (k v : Nat), vs = [.ref A.p, .int k, .int v] ∧ Mach C H A M ∧ k ≤ 24 ∧ ∀ H' t, M.put k v = some t → Mach C H' A t → Keep A H H' → Q .non H'
theorem qtl {Q : VK} {H : Hp} {i : Int} {v : Nat} {o : Option Nat} {n : Nat} (q : Q (.int (v : Nat)) H) (h : o = some v) (e : o = some n) (e2 : i = (n : Int)) : Q (.int i) H := by
  rw [h] at e
  cases e
  rw [e2]; exact q
section
variable {P : Program} {w : World} {K : PySem.W.Frag} {mg : Str → Option Value} {base : Heap} {C : Addr}
theorem sc_number_in : FnScope ["m", "which"] ["m", "which"] (defScope s_number_in) := ⟨rfl, rfl, rfl, by decide +kernel, rfl, by decide +kernel, by decide +kernel⟩
theorem ok_number_in (T : Txt K mg C) : DF P w K mg base "number_in" 1 ["m", "which"] (spTell C) := by
  refine df_of T.f_number_in sc_number_in (fun vs H Q E h => ?_) (fun f cdv A outer s H vs Q E hr h => ?_)
  · obtain ⟨A, M, k, v, rfl, _⟩ := h; rfl
  · obtain ⟨A, M, k, v, rfl, hM, hk, hv, q⟩ := h
    have hq3 := hM.wf.q
    refine ⟨_, (pss_cons (ps_if (pt_cmpR op_lt (pv 1) (pe_gi rfl T.c_FIRST_B) (nomark _)) (pss_one (ps_ret (pe_regA (C := C) T 0 1))) pss_nil) (pss_cons (ps_if (pt_cmpR op_lt (pv 1) (pe_gi rfl T.c_FIRST_X) (nomark _)) (pss_one (ps_ret (pe_ix ix_list (pe_fld (pv 0) rfl) (pe_op op_sub (pv 1) (pe_gi rfl T.c_FIRST_B)) (fun _ _ => rfl)))) pss_nil) (pss_cons (ps_if (pt_cmpR op_lt (pv 1) (pe_gi rfl T.c_NEXT_WORD) (nomark _)) (pss_one (ps_ret (pe_ix ix_list (pe_fld (pv 0) rfl) (pe_op op_sub (pv 1) (pe_gi rfl T.c_FIRST_X)) (fun _ _ => rfl)))) pss_nil) (pss_cons (ps_if (pt_cmpR op_eq (pv 1) (pe_gi rfl T.c_NEXT_WORD) (nomark _)) (pss_one (ps_ret (pe_op op_shr (pe_fld (pv 0) rfl) pe_int))) pss_nil) (pss_one (ps_ret (pe_op op_and (pe_fld (pv 0) rfl) pe_int))))))), ?_⟩
    refine ⟨_, rfl, _, _, rfl, rfl, _, rfl, ?_⟩
    refine ite2 (fun c => ?_) (fun c => ?_)
    · have c := of_decide_eq_true c
      have h8 : k < 8 := by omega
      refine ⟨A, M, k, rfl, rfl, hM, h8, qtl q hv (n := M.a k) ?_ rfl⟩
      unfold Ql50.St.tell; rw [if_pos h8]
    · have c := no_of c
      refine ⟨_, rfl, _, _, rfl, rfl, _, rfl, ?_⟩
      refine ite2 (fun c2 => ?_) (fun c2 => ?_)
      · have c2 := of_decide_eq_true c2
        refine ⟨_, rfl, A.p, C, A.dx, _, _, rfl, hM.ob, T.cl, T.nB, mf_b, _, rfl, _, _, rfl, rfl, A.lb, _, _, _, rfl, rfl, SqL.of hM.b, at_of (j := k - 8) (by omega) (regs_get (by omega)), qtl q hv (n := M.b (k - 8)) ?_ rfl⟩
        unfold Ql50.St.tell; rw [if_neg (by omega), if_pos (by omega)]
      · have c2 := no_of c2
        refine ⟨_, rfl, _, _, rfl, rfl, _, rfl, ?_⟩
        refine ite2 (fun c3 => ?_) (fun c3 => ?_)
        · have c3 := of_decide_eq_true c3
          refine ⟨_, rfl, A.p, C, A.dx, _, _, rfl, hM.ob, T.cl, T.nX, mf_x, _, rfl, _, _, rfl, rfl, A.lx, _, _, _, rfl, rfl, SqL.of hM.x, at_of (j := k - 16) (by omega) (regs_get (by omega)), qtl q hv (n := M.x (k - 16)) ?_ rfl⟩
          unfold Ql50.St.tell; rw [if_neg (by omega), if_neg (by omega), if_pos (by omega)]
        · have c3 := no_of c3
          refine ⟨_, rfl, rfl, _, rfl, ?_⟩
          refine ite2 (fun c4 => ?_) (fun c4 => ?_)
          · have c4 := eq_of c4
            refine ⟨_, rfl, A.p, C, A.dx, _, _, rfl, hM.ob, T.cl, T.nAt, mf_at_get, _, _, rfl, rfl, (by show (0 : Int) ≤ 2; decide), qtl q hv (n := M.p) ?_ ?_⟩
            · unfold Ql50.St.tell; rw [if_neg (by omega), if_neg (by omega), if_neg (by omega), if_pos (by omega)]
            · rw [shr2]; omega
          · have c4 := ne_of' c4
            refine ⟨_, rfl, A.p, C, A.dx, _, _, rfl, hM.ob, T.cl, T.nAt, mf_at_get, _, _, rfl, rfl, qtl q hv (n := M.q) ?_ ?_⟩
            · unfold Ql50.St.tell; rw [if_neg (by omega), if_neg (by omega), if_neg (by omega), if_neg (by omega), if_pos (by omega)]
            · rw [and3]; omega
theorem sc_put_number : FnScope ["m", "which", "value"] ["m", "which", "value"] (defScope s_put_number) := ⟨rfl, rfl, rfl, by decide +kernel, rfl, by decide +kernel, by decide +kernel⟩
theorem ok_put_number (T : Txt K mg C) : DF P w K mg base "put_number" 2 ["m", "which", "value"] (spPut C) := by
  refine df_of T.f_put_number sc_put_number (fun vs H Q E h => ?_) (fun f cdv A outer s H vs Q E hr h => ?_)
  · obtain ⟨A, M, k, v, rfl, _⟩ := h; rfl
  · obtain ⟨A, M, k, v, rfl, hM, hk, q⟩ := h
    have e18 : Builtin.bitAnd (v : Int) 262143 = ((v % 262144 : Nat) : Int) := by
      rw [show (262143 : Int) = ((2 ^ 18 - 1 : Nat) : Int) from rfl, bAnd, and_mask]
    have e60 : Builtin.bitAnd (v : Int) 1152921504606846975 = ((v % 2 ^ 60 : Nat) : Int) := by
      rw [show (1152921504606846975 : Int) = ((2 ^ 60 - 1 : Nat) : Int) from rfl, bAnd, and_mask]
    have h18 : v % 262144 ≤ 262143 := by omega
    refine ⟨_, (pss_one (ps_if (pt_cmpR op_lt (pv 1) (pe_gi rfl T.c_FIRST_B) (nomark _)) (pss_one (ps_asg (pe_op op_and (pv 2) (pe_gi rfl T.c_ONES18)) (pg_sub (pe_fld (pv 0) rfl) (pv 1) set_list))) (pss_one (ps_if (pt_cmpR op_lt (pv 1) (pe_gi rfl T.c_FIRST_X) (nomark _)) (pss_one (ps_expr (pe_mt T.cl (ok_Machine_set_b T) (hr.mono (by decide)) (pv 0) (pa_cons (pe_op op_sub (pv 1) (pe_gi rfl T.c_FIRST_B)) (pa_cons (pe_op op_and (pv 2) (pe_gi rfl T.c_ONES18)) pa_nil))))) (pss_one (ps_if (pt_cmpR op_lt (pv 1) (pe_gi rfl T.c_NEXT_WORD) (nomark _)) (pss_one (ps_asg (pe_op op_and (pv 2) (pe_gi rfl T.c_ONES60)) (pg_sub (pe_fld (pv 0) rfl) (pe_op op_sub (pv 1) (pe_gi rfl T.c_FIRST_X)) set_list))) (pss_one (ps_fld (pv 0) (pe_op op_mul (pe_op op_and (pv 2) (pe_gi rfl T.c_ONES18)) pe_int) rfl)))))))), ?_⟩
    refine ⟨_, rfl, _, _, rfl, rfl, _, rfl, ?_⟩
    refine ite2 (fun c => ?_) (fun c => ?_)
    · have c := of_decide_eq_true c
      have h8 : k < 8 := by omega
      refine ⟨_, rfl, _, _, rfl, rfl, ?_⟩
      dsimp only
      rw [e18]
      refine ⟨_, rfl, A.p, C, A.dx, _, _, rfl, hM.ob, T.cl, T.nA, mf_a, _, rfl, A.la, _, _, k, rfl, rfl, hM.a, by rw [regs_len]; exact ix_nat h8, ?_⟩
      refine q _ _ ?_ (hM.putA k h18) Mach.keepA
      unfold Ql50.St.put; rw [if_pos h8]
    · have c := no_of c
      refine ⟨_, rfl, _, _, rfl, rfl, _, rfl, ?_⟩
      refine ite2 (fun c2 => ?_) (fun c2 => ?_)
      · have c2 := of_decide_eq_true c2
        refine ⟨_, rfl, A.p, A.dx, _, rfl, hM.ob, mf_no (by decide +kernel) (by decide +kernel) (by decide +kernel) (by decide +kernel) (by decide +kernel) (by decide +kernel), _, rfl, _, _, rfl, rfl, _, rfl, _, _, rfl, rfl, A, M, k - 8, v % 262144, ?_, hM, by omega, h18, fun H' hM' kp => q H' _ ?_ hM' kp⟩
        · dsimp only
          rw [e18, show (k : Int) - 8 = ((k - 8 : Nat) : Int) by omega]; rfl
        · unfold Ql50.St.put; rw [if_neg (by omega), if_pos (by omega)]
      · have c2 := no_of c2
        refine ⟨_, rfl, _, _, rfl, rfl, _, rfl, ?_⟩
        refine ite2 (fun c3 => ?_) (fun c3 => ?_)
        · have c3 := of_decide_eq_true c3
          refine ⟨_, rfl, _, _, rfl, rfl, ?_⟩
          dsimp only
          rw [e60]
          refine ⟨_, rfl, A.p, C, A.dx, _, _, rfl, hM.ob, T.cl, T.nX, mf_x, _, rfl, _, _, rfl, rfl, A.lx, _, _, k - 16, rfl, rfl, hM.x, by rw [regs_len, show (k : Int) - 16 = ((k - 16 : Nat) : Int) by omega]; exact ix_nat (by omega), ?_⟩
          refine q _ _ ?_ (hM.setX (k - 16) (Nat.mod_lt _ (by decide))) Mach.keepX
          unfold Ql50.St.put; rw [if_neg (by omega), if_neg (by omega), if_pos (by omega)]
        · have c3 := no_of c3
          refine ⟨_, rfl, _, _, rfl, rfl, ?_⟩
          dsimp only
          rw [e18]
          refine ⟨_, _, rfl, rfl, .inr ⟨by decide, by decide⟩, _, rfl, A.p, C, A.dx, _, rfl, hM.ob, T.cl, T.nAt, (by show 6 < 1000; decide), ?_⟩
          refine q _ _ ?_ (hM.putAt (p := v % 262144) (q := 0) (by omega) h18 (by omega)) Mach.keepP
          unfold Ql50.St.put; rw [if_neg (by omega), if_neg (by omega), if_neg (by omega), if_pos (by omega)]; rfl
end
end Sx
set_option Elab.async false
set_option linter.all false
set_option maxRecDepth 100000
set_option maxHeartbeats 4000000
namespace Sx
open PySem L2
/-- none of the machine's own -/
def Out (A : Ads) (b : Addr) : Prop := b ≠ A.p ∧ b ≠ A.lx ∧ b ≠ A.la ∧ b ≠ A.lb ∧ b ≠ A.lm
/-- all else stays, also where the machine's lists are new -/
structure Keep2 (A A' : Ads) (H H' : Hp) : Prop where
  p : A'.p = A.p
  kp : ∀ b o, H b = some o → Out A b → H' b = some o ∧ Out A' b
theorem Keep.two {A : Ads} {H H' : Hp} (k : Keep A H H') : Keep2 A A H H' := ⟨rfl, fun b o e h => ⟨k b o e h.1 h.2.1 h.2.2.1 h.2.2.2.1 h.2.2.2.2, h⟩⟩
/-- behind a call: the list l is new -/
structure Aft (A A' : Ads) (H H' : Hp) (l : Addr) : Prop where
  p : A'.p = A.p
  kp : ∀ b o, H b = some o → Out A b → H' b = some o ∧ Out A' b ∧ b ≠ l
theorem same_new {H : Hp} {p : Addr} {o : HO} (h : H p = none) : Same H (upd H p o) := fun b u e => by
  rw [upd_ne (ne_of_none e h)]; exact e
theorem Keep2.aft {A A' : Ads} {H H' : Hp} {l : Addr} {o : HO} (k : Keep2 A A' H H') (h : H' l = none) : Aft A A' H (upd H' l o) l := ⟨k.p, fun b u e hb => by
  obtain ⟨h1, h2⟩ := k.kp b u e hb
  exact ⟨by rw [upd_ne (ne_of_none h1 h)]; exact h1, h2, ne_of_none h1 h⟩⟩
theorem Keep2.same {A A' : Ads} {H H1 H2 : Hp} (k : Keep2 A A' H H1) (s : Same H1 H2) : Keep2 A A' H H2 := ⟨k.p, fun b u e hb => ⟨s _ _ (k.kp b u e hb).1, (k.kp b u e hb).2⟩⟩
theorem Mach.out {C : Addr} {H : Hp} {A : Ads} {M : Ql50.St} (h : Mach C H A M) {t : Addr} {o : HO} (ht : Out A t) : Mach C (upd H t o) A M :=
  ⟨by rw [upd_ne ht.1.symm]; exact h.ob, by rw [upd_ne ht.2.1.symm]; exact h.x, by rw [upd_ne ht.2.2.1.symm]; exact h.a, by rw [upd_ne ht.2.2.2.1.symm]; exact h.b, by rw [upd_ne ht.2.2.2.2.symm]; exact h.m, h.xa, h.xb, h.xm, h.ab, h.am, h.bm, h.wf⟩
theorem Mach.new {C : Addr} {H : Hp} {A : Ads} {M : Ql50.St} (h : Mach C H A M) {t : Addr} (ht : H t = none) : Out A t :=
  ⟨(ne_of_none h.ob ht).symm, (ne_of_none h.x ht).symm, (ne_of_none h.a ht).symm, (ne_of_none h.b ht).symm, (ne_of_none h.m ht).symm⟩
theorem zeros (n : Nat) : (List.replicate n [V.int 0]).flatten = regs n (fun _ => 0) := by
  unfold regs
  rw [List.flatten_replicate_singleton, List.map_const', List.length_range]
  rfl
/-- a field set to a new list -/
theorem fld_new {H : Hp} {p l q : Addr} {o v z o' : HO} (hp : H p = some o) (hl : H l = none) (hq : upd H l v q = none) :
    (upd (upd (upd H l v) q z) p o') p = some o' ∧ (upd (upd (upd H l v) q z) p o') q = some z ∧ (∀ b u, H b = some u → b ≠ p → (upd (upd (upd H l v) q z) p o') b = some u ∧ b ≠ q) ∧ (upd (upd H l v) q z) p = some o := by
  have npl : p ≠ l := ne_of_none hp hl
  have e1 : upd H l v p = some o := by rw [upd_ne npl]; exact hp
  have npq : p ≠ q := ne_of_none e1 hq
  refine ⟨upd_same, by rw [upd_ne npq.symm]; exact upd_same, fun b u e hb => ?_, by rw [upd_ne npq]; exact e1⟩
  have nbl : b ≠ l := ne_of_none e hl
  have e2 : upd H l v b = some u := by rw [upd_ne nbl]; exact e
  have nbq : b ≠ q := ne_of_none e2 hq
  exact ⟨by rw [upd_ne hb, upd_ne nbq]; exact e2, nbq⟩
theorem len_putF_le (f : Str) (v : V) (fs : List (Str × V)) : (putF f v fs).length ≤ fs.length + 1 := length_putF f v fs
def spBegin (C : Addr) : Sp := fun vs H Q _ => ∃ (p dx : Addr) (fl : List (Str × V)), vs = [.ref p] ∧ H p = some (.ins C dx fl) ∧ (fl = [] ∨ ∃ B z y, fl = mf B z y) ∧
  ∀ (A' : Ads) (H' : Hp), A'.p = p → Mach C H' A' Ql50.blank → (∀ b o, H b = some o → b ≠ p → H' b = some o ∧ Out A' b) → Q .non H'
def spInit (C : Addr) : Sp := fun vs H Q _ => ∃ (p dx : Addr), vs = [.ref p] ∧ H p = some (.ins C dx []) ∧
  ∀ (A' : Ads) (H' : Hp), A'.p = p → Mach C H' A' Ql50.blank → (∀ b o, H b = some o → b ≠ p → H' b = some o ∧ Out A' b) → Q .non H'
/-- the class's __init__ -/
structure DI (P : Program) (w : World) (K : PySem.W.Frag) (mg : Str → Option Value) (base : Heap) (C : Addr) (k : Nat) (sp : Sp) : Prop where
  ex : ∃ f fd, Mk K C f ∧ Binds K fd ["self"] [] ∧ FnOk P w K mg base CX0 k f fd ["self"] sp
theorem pe_new {X : Cx} {p pos : Pos} {C : Addr} {k : Nat} {sp : Sp} (D : DI X.prog X.w X.K X.mg X.base C k sp) (hr : Room (k + 1) X.A) (hm : X.mg "Machine" = some (.ref C)) (hg : Gl X "Machine" := by rfl) : PE X (.Call (.Name "Machine" p) [] [] pos) (tMake C sp [] E0 tNil) := by
  obtain ⟨f, fd, M, hb, F⟩ := D.ex
  exact pe_make0 M F hr hg hm hb .nil pass0
def spCall (K : PySem.W.Frag) (C : Addr) (num : Nat) : Sp := fun vs H Q _ => ∃ (A : Ads) (M : Ql50.St) (c : Addr) (ns : List Nat) (q : Ql50.Call), vs = [.ref A.p, .ref c] ∧ Mach C H A M ∧ SqL K H c ((nm ns).map V.int) ∧ CallOf num ns q ∧
  ∀ (A' : Ads) (H' : Hp) (l : Addr), Mach C H' A' (Ql50.spec M q).1 → Aft A A' H H' l → H' l = some (.lst ((ansI (Ql50.spec M q).2).map V.int)) → Q (.ref l) H'
def spLen (K : PySem.W.Frag) : Sp := fun vs H Q _ => ∃ (a : Addr) (l : List Nat) (i num L : Nat), vs = [.ref a, .int i] ∧ SqL K H a ((nm l).map V.int) ∧ l[i]? = some num ∧ num < 7 ∧ (num = 1 → ∃ m, l[i + 2]? = some m ∧ L = 3 + m) ∧ (num ≠ 1 → L = lens.getD num 0) ∧ Q (.int (L : Nat)) H
theorem nm_get {l : List Nat} {i x : Nat} (h : l[i]? = some x) : ((nm l).map V.int)[i]? = some (V.int (x : Nat)) := by
  unfold nm
  rw [List.getElem?_map, List.getElem?_map, h]; rfl
/-- over enumerate of a list that the body leaves as it is -/
theorem for_enum {K : PySem.W.Frag} {a : Addr} {xs : List V} {g : TG} {tb : TS} {D : Ends} {σ : L2.St} {H : Hp} (Pv : Nat → L2.St → Hp → Prop) (h0 : Pv 0 σ H) (hl : ∀ i σ H, i ≤ xs.length → Pv i σ H → SqL K H a xs)
    (hs : ∀ i x σ H t, xs[i]? = some x → Pv i σ H → H t = none → g (.ref t) σ (upd H t (.tup [.int (i : Nat), x])) fun σ2 H2 => tb { D with nx := Pv (i + 1), ct := Pv (i + 1), bk := D.nx } σ2 H2) (hd : ∀ σ H, Pv xs.length σ H → D.nx σ H) :
    ∃ W : Nat → Nat → L2.St → Hp → Prop, (∃ m, W 0 m σ H) ∧ ∀ i m σ H, W i m σ H →
      ((Ite K a).stop i H ∧ D.nx σ H) ∨ ((Ite K a).go i H ∧ ∃ N : L2.St → Hp → Prop, (∀ σ' H', N σ' H' → ∃ m', m' < m ∧ W (i + 1) m' σ' H') ∧ ∀ x H', (Ite K a).yld i H x H' → g x σ H' fun σ2 H2 => tb { D with nx := N, ct := N, bk := D.nx } σ2 H2) := by
  refine ⟨fun i m σ H => m = xs.length - i ∧ i ≤ xs.length ∧ Pv i σ H, ⟨xs.length, by simp, Nat.zero_le _, h0⟩, ?_⟩
  rintro i m σ H ⟨rfl, hi, p⟩
  have q := hl i σ H hi p
  by_cases hlt : i < xs.length
  · refine .inr ⟨⟨xs, xs[i], q, by simp [hlt]⟩, Pv (i + 1), fun σ' H' p' => ⟨xs.length - (i + 1), by omega, rfl, hlt, p'⟩, fun x H' y => ?_⟩
    obtain ⟨t, z, rfl, ht, rfl, y⟩ := y
    exact hs i z σ _ t (y xs q) p ht
  · have e : i = xs.length := by omega
    subst e
    exact .inl ⟨⟨xs, q, Nat.le_refl _⟩, hd σ H p⟩
theorem spec_load (M : Ql50.St) (a : Nat) (l : List Nat) (h : a + l.length ≤ 65536) : Ql50.spec M (.load a l l.length) = ({ M with mem := fun j => if a ≤ j ∧ j < a + l.length then (l.getD (j - a) 0) % 2 ^ 60 else M.mem j }, Ql50.only 0) := by
  show (if Ql50.room a l.length = false then _ else _) = _
  have : Ql50.room a l.length = true := decide_eq_true h
  rw [this, if_neg (by decide)]
theorem spec_load_no (M : Ql50.St) (a : Nat) (l : List Nat) (h : ¬ a + l.length ≤ 65536) : Ql50.spec M (.load a l l.length) = (M, Ql50.only (-1)) := by
  show (if Ql50.room a l.length = false then _ else _) = _
  have : Ql50.room a l.length = false := decide_eq_false h
  rw [this, if_pos rfl]
theorem spec_look (M : Ql50.St) (a n : Nat) (h : a + n ≤ 65536) : Ql50.spec M (.look a n) = (M, ⟨0, (List.range n).map fun i => M.mem (a + i)⟩) := by
  show (if Ql50.room a n = false then _ else _) = _
  have : Ql50.room a n = true := decide_eq_true h
  rw [this, if_neg (by decide)]
theorem spec_look_no (M : Ql50.St) (a n : Nat) (h : ¬ a + n ≤ 65536) : Ql50.spec M (.look a n) = (M, Ql50.only (-1)) := by
  show (if Ql50.room a n = false then _ else _) = _
  have : Ql50.room a n = false := decide_eq_false h
  rw [this, if_pos rfl]
theorem spec_run (M : Ql50.St) (n : Nat) (h : n ≤ 10000000) : Ql50.spec M (.run n) = ((Ql50.steps n M).1, Ql50.only ((Ql50.steps n M).2 : Nat)) := by
  show (if Ql50.RUN < n then _ else _) = _
  unfold Ql50.RUN
  rw [if_neg (by omega)]
theorem spec_run_no (M : Ql50.St) (n : Nat) (h : ¬ n ≤ 10000000) : Ql50.spec M (.run n) = (M, Ql50.only (-1)) := by
  show (if Ql50.RUN < n then _ else _) = _
  unfold Ql50.RUN
  rw [if_pos (by omega)]
theorem spec_get {M : Ql50.St} {k v : Nat} (h : M.tell k = some v) : Ql50.spec M (.get k) = (M, ⟨0, [v]⟩) := by
  show (match M.tell k with | some v => (M, (⟨0, [v]⟩ : Ql50.Ans)) | none => (M, Ql50.only (-1))) = _
  rw [h]
theorem spec_get_no {M : Ql50.St} {k : Nat} (h : M.tell k = none) : Ql50.spec M (.get k) = (M, Ql50.only (-1)) := by
  show (match M.tell k with | some v => (M, (⟨0, [v]⟩ : Ql50.Ans)) | none => (M, Ql50.only (-1))) = _
  rw [h]
theorem spec_set {M t : Ql50.St} {k v : Nat} (h : M.put k v = some t) : Ql50.spec M (.set k v) = (t, Ql50.only 0) := by
  show (match M.put k v with | some t => (t, Ql50.only 0) | none => (M, Ql50.only (-1))) = _
  rw [h]
theorem spec_set_no {M : Ql50.St} {k v : Nat} (h : M.put k v = none) : Ql50.spec M (.set k v) = (M, Ql50.only (-1)) := by
  show (match M.put k v with | some t => (t, Ql50.only 0) | none => (M, Ql50.only (-1))) = _
  rw [h]
theorem tell_some (M : Ql50.St) (k : Nat) (h : k ≤ 25) : ∃ v, M.tell k = some v := by
  unfold Ql50.St.tell
  by_cases h1 : k < 8
  · exact ⟨_, if_pos h1⟩
  by_cases h2 : k < 16
  · exact ⟨_, by rw [if_neg h1, if_pos h2]⟩
  by_cases h3 : k < 24
  · exact ⟨_, by rw [if_neg h1, if_neg h2, if_pos h3]⟩
  by_cases h4 : k = 24
  · exact ⟨_, by rw [if_neg h1, if_neg h2, if_neg h3, if_pos h4]⟩
  · exact ⟨_, by rw [if_neg h1, if_neg h2, if_neg h3, if_neg h4, if_pos (by omega)]⟩
theorem tell_none (M : Ql50.St) (k : Nat) (h : ¬ k ≤ 25) : M.tell k = none := by
  unfold Ql50.St.tell
  rw [if_neg (by omega), if_neg (by omega), if_neg (by omega), if_neg (by omega), if_neg (by omega)]
theorem put_none (M : Ql50.St) (k v : Nat) (h : ¬ k ≤ 24) : M.put k v = none := by
  unfold Ql50.St.put
  rw [if_neg (by omega), if_neg (by omega), if_neg (by omega), if_neg (by omega)]
/-- the words from the third on -/
theorem cut3 (x y z : Nat) (ws : List Nat) : cutV ((nm (x :: y :: z :: ws)).map V.int) (some 3) none = (nm ws).map V.int := by
  unfold cutV
  rw [show (3 : Int) = ((3 : Nat) : Int) from rfl, HT.sIx_nat, HT.sIx_none]
  have hl : ((nm (x :: y :: z :: ws)).map V.int).length = ws.length + 3 := by rw [List.length_map, nm_len]; rfl
  rw [hl, Nat.min_eq_left (by omega)]
  show List.take _ ((nm ws).map V.int) = _
  apply List.take_of_length_le
  rw [List.length_map, nm_len]; omega
theorem cut_regs (f : Nat → Nat) (a n N : Nat) (h : a + n ≤ N) : cutV (regs N f) (some (a : Int)) (some ((a : Int) + (n : Int))) = ((List.range n).map fun i => V.int (f (a + i) : Nat)) := by
  unfold cutV
  rw [show (a : Int) + (n : Int) = ((a + n : Nat) : Int) by omega, HT.sIx_nat, HT.sIx_nat, regs_len, Nat.min_eq_left (show a ≤ N by omega), Nat.min_eq_left h]
  apply List.ext_getElem?
  intro i
  rw [List.getElem?_take]
  by_cases hi : i < n
  · rw [if_pos (by omega), List.getElem?_drop, regs_get (by omega), List.getElem?_map, List.getElem?_range hi]; rfl
  · rw [if_neg (by omega), List.getElem?_eq_none (by rw [List.length_map, List.length_range]; omega)]
section
variable {P : Program} {w : World} {K : PySem.W.Frag} {mg : Str → Option Value} {base : Heap} {C : Addr}
theorem sc_Machine_begin : FnScope ["self"] ["self"] (defScope s_Machine_begin) := ⟨rfl, rfl, rfl, by decide +kernel, rfl, by decide +kernel, by decide +kernel⟩
theorem ok_Machine_begin (T : Txt K mg C) : DM P w K mg base C "begin" 1 ["self"] (spBegin C) := by
  refine dm_of T.m_begin sc_Machine_begin (fun vs H Q E h => ?_) (fun f cdv A outer s H vs Q E hr h => ?_)
  · obtain ⟨p, dx, fl, rfl, _⟩ := h; rfl
  · obtain ⟨p, dx, fl, rfl, hp, hfl, q⟩ := h
    have hlen : fl.length ≤ 6 := by
      rcases hfl with rfl | ⟨B, z, y, rfl⟩
      · exact Nat.zero_le _
      · exact Nat.le_refl _
    refine ⟨_, (pss_cons (ps_fld (pv 0) (pe_op op_rep (pe_lst (pa_cons pe_int pa_nil)) pe_int) rfl) (pss_cons (ps_fld (pv 0) (pe_op op_rep (pe_lst (pa_cons pe_int pa_nil)) pe_int) rfl) (pss_cons (ps_fld (pv 0) (pe_op op_rep (pe_lst (pa_cons pe_int pa_nil)) pe_int) rfl) (pss_cons (ps_fld (pv 0) (pe_op op_rep (pe_lst (pa_cons pe_int pa_nil)) (pe_gi rfl T.c_MEMORY_WORDS)) rfl) (pss_cons (ps_fld (pv 0) pe_int rfl) (pss_one (ps_fld (pv 0) (pe_gi rfl T.c_DONE) rfl))))))), ?_⟩
    -- x
    refine ⟨(by show 1 ≤ sizeLine; decide), fun l1 hl1 => ⟨l1, _, _, rfl, rfl, upd_same, by decide, by decide, (by show 1 * 8 ≤ sizeLine; decide), fun q1 hq1 => ?_⟩⟩
    obtain ⟨g1, g2, g3, g4⟩ := fld_new (z := .lst (List.replicate (8 : Int).toNat [V.int 0]).flatten) (o' := .ins C dx (putF "x" (.ref q1) fl)) hp hl1 hq1
    refine ⟨_, rfl, p, C, dx, _, rfl, g4, T.cl, T.nX, (by omega), ?_⟩
    rw [show (8 : Int).toNat = 8 from rfl, zeros] at g1 g2 g3 ⊢
    have n1 : q1 ≠ p := fun z => by subst z; rw [g1] at g2; cases g2
    have hb1 := length_putF "x" (V.ref q1) fl
    generalize upd (upd (upd H l1 (.lst [V.int 0])) q1 (.lst (regs 8 fun _ => 0))) p (.ins C dx (putF "x" (.ref q1) fl)) = H1 at *
    clear g4
    -- a
    refine ⟨(by show 1 ≤ sizeLine; decide), fun l2 hl2 => ⟨l2, _, _, rfl, rfl, upd_same, by decide, by decide, (by show 1 * 8 ≤ sizeLine; decide), fun q2 hq2 => ?_⟩⟩
    obtain ⟨f1, f2, f3, f4⟩ := fld_new (z := .lst (List.replicate (8 : Int).toNat [V.int 0]).flatten) (o' := .ins C dx (putF "a" (.ref q2) (putF "x" (.ref q1) fl))) g1 hl2 hq2
    refine ⟨_, rfl, p, C, dx, _, rfl, f4, T.cl, T.nA, (by omega), ?_⟩
    rw [show (8 : Int).toNat = 8 from rfl, zeros] at f1 f2 f3 ⊢
    have n2 : q2 ≠ p := fun z => by subst z; rw [f1] at f2; cases f2
    have hb2 := length_putF "a" (V.ref q2) (putF "x" (.ref q1) fl)
    obtain ⟨x2, n12⟩ := f3 q1 _ g2 n1
    have k2 : ∀ b u, H b = some u → b ≠ p → _ = some u ∧ (b ≠ q1 ∧ b ≠ q2) := fun b u e hb => ⟨(f3 b u (g3 b u e hb).1 hb).1, (g3 b u e hb).2, (f3 b u (g3 b u e hb).1 hb).2⟩
    generalize upd (upd (upd H1 l2 (.lst [V.int 0])) q2 (.lst (regs 8 fun _ => 0))) p (.ins C dx (putF "a" (.ref q2) (putF "x" (.ref q1) fl))) = H2 at *
    clear f4 g1 g2 g3 f3 hl1 hq1 hl2 hq2
    -- b
    refine ⟨(by show 1 ≤ sizeLine; decide), fun l3 hl3 => ⟨l3, _, _, rfl, rfl, upd_same, by decide, by decide, (by show 1 * 8 ≤ sizeLine; decide), fun q3 hq3 => ?_⟩⟩
    obtain ⟨g1, g2, g3, g4⟩ := fld_new (z := .lst (List.replicate (8 : Int).toNat [V.int 0]).flatten) (o' := .ins C dx (putF "b" (.ref q3) (putF "a" (.ref q2) (putF "x" (.ref q1) fl)))) f1 hl3 hq3
    refine ⟨_, rfl, p, C, dx, _, rfl, g4, T.cl, T.nB, (by omega), ?_⟩
    rw [show (8 : Int).toNat = 8 from rfl, zeros] at g1 g2 g3 ⊢
    have n3 : q3 ≠ p := fun z => by subst z; rw [g1] at g2; cases g2
    have hb3 := length_putF "b" (V.ref q3) (putF "a" (.ref q2) (putF "x" (.ref q1) fl))
    obtain ⟨x3, n13⟩ := g3 q1 _ x2 n1
    obtain ⟨a3, n23⟩ := g3 q2 _ f2 n2
    have k3 : ∀ b u, H b = some u → b ≠ p → _ = some u ∧ (b ≠ q1 ∧ b ≠ q2 ∧ b ≠ q3) := fun b u e hb => ⟨(g3 b u (k2 b u e hb).1 hb).1, (k2 b u e hb).2.1, (k2 b u e hb).2.2, (g3 b u (k2 b u e hb).1 hb).2⟩
    generalize upd (upd (upd H2 l3 (.lst [V.int 0])) q3 (.lst (regs 8 fun _ => 0))) p (.ins C dx (putF "b" (.ref q3) (putF "a" (.ref q2) (putF "x" (.ref q1) fl)))) = H3 at *
    clear g4 f1 f2 g3 x2 k2 hl3 hq3
    -- memory
    refine ⟨(by show 1 ≤ sizeLine; decide), fun l4 hl4 => ⟨l4, _, _, rfl, rfl, upd_same, by decide, by decide, (by show 1 * 65536 ≤ sizeLine; decide), fun q4 hq4 => ?_⟩⟩
    obtain ⟨f1, f2, f3, f4⟩ := fld_new (z := .lst (List.replicate (65536 : Int).toNat [V.int 0]).flatten) (o' := .ins C dx (putF "memory" (.ref q4) (putF "b" (.ref q3) (putF "a" (.ref q2) (putF "x" (.ref q1) fl))))) g1 hl4 hq4
    refine ⟨_, rfl, p, C, dx, _, rfl, f4, T.cl, T.nM, (by omega), ?_⟩
    rw [show (65536 : Int).toNat = 65536 from rfl, zeros] at f1 f2 f3 ⊢
    have n4 : q4 ≠ p := fun z => by subst z; rw [f1] at f2; cases f2
    have hb4 := length_putF "memory" (V.ref q4) (putF "b" (.ref q3) (putF "a" (.ref q2) (putF "x" (.ref q1) fl)))
    obtain ⟨x4, n14⟩ := f3 q1 _ x3 n1
    obtain ⟨a4, n24⟩ := f3 q2 _ a3 n2
    obtain ⟨b4, n34⟩ := f3 q3 _ g2 n3
    have k4 : ∀ b u, H b = some u → b ≠ p → _ = some u ∧ (b ≠ q1 ∧ b ≠ q2 ∧ b ≠ q3 ∧ b ≠ q4) := fun b u e hb => ⟨(f3 b u (k3 b u e hb).1 hb).1, (k3 b u e hb).2.1, (k3 b u e hb).2.2.1, (k3 b u e hb).2.2.2, (f3 b u (k3 b u e hb).1 hb).2⟩
    generalize upd (upd (upd H3 l4 (.lst [V.int 0])) q4 (.lst (regs 65536 fun _ => 0))) p (.ins C dx (putF "memory" (.ref q4) (putF "b" (.ref q3) (putF "a" (.ref q2) (putF "x" (.ref q1) fl))))) = H4 at *
    clear f4 g1 g2 f3 x3 a3 k3 hl4 hq4
    -- at, why
    have hb5 := length_putF "at" (V.int 0) (putF "memory" (.ref q4) (putF "b" (.ref q3) (putF "a" (.ref q2) (putF "x" (.ref q1) fl))))
    refine ⟨_, rfl, p, C, dx, _, rfl, f1, T.cl, T.nAt, (by omega), _, rfl, p, C, dx, _, rfl, upd_same, T.cl, T.nWhy, (by omega), ?_⟩
    have e : putF "why" (.int 0) (putF "at" (.int 0) (putF "memory" (.ref q4) (putF "b" (.ref q3) (putF "a" (.ref q2) (putF "x" (.ref q1) fl))))) = mf ⟨p, dx, q1, q2, q3, q4⟩ 0 0 := by
      rcases hfl with rfl | ⟨B, z, y, rfl⟩
      · exact mf_new (A := ⟨p, dx, q1, q2, q3, q4⟩)
      · exact mf_anew (A := ⟨p, dx, q1, q2, q3, q4⟩)
    rw [e, upd_upd]
    refine q ⟨p, dx, q1, q2, q3, q4⟩ _ rfl ⟨upd_same, ?_, ?_, ?_, ?_, n12, n13, n14, n23, n24, n34, blank_wf⟩ fun b u eb hb => ?_
    · show upd H4 p _ q1 = _
      rw [upd_ne n1]; exact x4
    · show upd H4 p _ q2 = _
      rw [upd_ne n2]; exact a4
    · show upd H4 p _ q3 = _
      rw [upd_ne n3]; exact b4
    · show upd H4 p _ q4 = _
      rw [upd_ne n4]; exact f2
    · obtain ⟨h1, h2, h3, h4, h5⟩ := k4 b u eb hb
      exact ⟨by rw [upd_ne hb]; exact h1, hb, h2, h3, h4, h5⟩
theorem sc_Machine_init : FnScope ["self"] ["self"] (defScope s_Machine_init) := ⟨rfl, rfl, rfl, by decide +kernel, rfl, by decide +kernel, by decide +kernel⟩
theorem ok_Machine_init (T : Txt K mg C) : DI P w K mg base C 2 (spInit C) := by
  obtain ⟨f, fd, M, F, hb⟩ := T.m_init
  refine ⟨f, fd, M, hb, F.ok sc_Machine_init (fun vs H Q E h => ?_) (fun cdv A outer s H vs Q E hr h => ?_)⟩
  · obtain ⟨p, dx, rfl, _⟩ := h; rfl
  · obtain ⟨p, dx, rfl, hp, q⟩ := h
    refine ⟨_, (pss_one (ps_expr (pe_mt0 T.cl (ok_Machine_begin T) (hr.mono (by decide)) (pv 0)))), ?_⟩
    exact ⟨_, rfl, p, dx, [], rfl, hp, rfl, p, dx, [], rfl, hp, .inl rfl, q⟩
theorem sc_begin_anew : FnScope ["m", "call"] ["m", "call"] (defScope s_begin_anew) := ⟨rfl, rfl, rfl, by decide +kernel, rfl, by decide +kernel, by decide +kernel⟩
theorem ok_begin_anew (T : Txt K mg C) : DF P w K mg base "begin_anew" 2 ["m", "call"] (spCall K C 0) := by
  refine df_of T.f_begin_anew sc_begin_anew (fun vs H Q E h => ?_) (fun f cdv A outer s H vs Q E hr h => ?_)
  · obtain ⟨A, M, c, ns, q, rfl, _⟩ := h; rfl
  · obtain ⟨A, M, c, ns, cq, rfl, hM, hc, ⟨rfl, rfl⟩, q⟩ := h
    refine ⟨_, (pss_cons (ps_expr (pe_mt0 T.cl (ok_Machine_begin T) (hr.mono (by decide)) (pv 0))) (pss_one (ps_ret (pe_lst (pa_cons pe_int pa_nil))))), ?_⟩
    refine ⟨_, rfl, A.p, A.dx, _, rfl, hM.ob, mf_no (by decide +kernel) (by decide +kernel) (by decide +kernel) (by decide +kernel) (by decide +kernel) (by decide +kernel), A.p, A.dx, _, rfl, hM.ob, .inr ⟨A, _, _, rfl⟩, fun A' H' hp hM' kp => ?_⟩
    refine ⟨(by show 1 ≤ sizeLine; decide), fun l hl => ?_⟩
    exact q A' _ l (hM'.same (same_new hl)) (Keep2.aft ⟨hp, fun b o e hb => kp b o e hb.1⟩ hl) upd_same
theorem sc_load : FnScope ["m", "call", "at", "words", "k", "word"] ["m", "call"] (defScope s_load) := ⟨rfl, rfl, rfl, by decide +kernel, rfl, by decide +kernel, by decide +kernel⟩
theorem ok_load (T : Txt K mg C) : DF P w K mg base "load" 2 ["m", "call"] (spCall K C 1) := by
  refine df_of T.f_load sc_load (fun vs H Q E h => ?_) (fun f cdv A outer s H vs Q E hr h => ?_)
  · obtain ⟨A, M, c, ns, q, rfl, _⟩ := h; rfl
  · obtain ⟨A, M, c, ns, cq, rfl, hM, hc, ⟨a, ws, rfl, rfl⟩, q⟩ := h
    refine ⟨_, (pss_cons (ps_set (i := 2) sc_load.nd rfl (Or.inl rfl) (pe_ix ix_list (pv 1) pe_int (fun _ _ => rfl))) (pss_cons (ps_set (i := 3) sc_load.nd rfl (Or.inl rfl) (pe_slice sl_list (pv 1) (po_some pe_int) po_none)) (pss_cons (ps_if (pt_cmpR op_gt (pe_op op_add (pv 2) (pe_callB call_len_seq (by rfl) T.b_len PySem.boot_len (pa_cons (pv 3) pa_nil))) (pe_gi rfl T.c_MEMORY_WORDS) (nomark _)) (pss_one (ps_ret (pe_lst (pa_cons (pe_un un_neg pe_int) pa_nil)))) pss_nil) (pss_cons (ps_for PassesOwn.never rfl (pi_enum (by rfl) T.b_enumerate (pa_cons (pv 3) pa_nil)) (pg_tup rfl (pgs_cons (pg_name (i := 4) sc_load.nd rfl (Or.inl rfl)) (pgs_cons (pg_name (i := 5) sc_load.nd rfl (Or.inl rfl)) pgs_nil))) (pss_one (ps_asg (pe_op op_and (pv 5) (pe_gi rfl T.c_ONES60)) (pg_sub (pe_fld (pv 0) rfl) (pe_op op_add (pv 2) (pv 4)) set_list)))) (pss_one (ps_ret (pe_lst (pa_cons pe_int pa_nil)))))))), ?_⟩
    refine ⟨_, rfl, c, _, _, _, rfl, rfl, hc, at_of (j := 1) rfl (nm_get rfl), _, rfl, _, rfl, c, _, rfl, hc, fun p hp => ?_⟩
    rw [cut3]
    have hM1 := hM.same (same_new (o := .lst ((nm ws).map V.int)) hp)
    have k1 : Keep2 A A H (upd H p (.lst ((nm ws).map V.int))) := (Keep.of_same (same_new hp)).two
    have hw1 : upd H p (.lst ((nm ws).map V.int)) p = some (.lst ((nm ws).map V.int)) := upd_same
    have hpo := hM.new hp
    generalize upd H p (.lst ((nm ws).map V.int)) = H1 at *
    have hlen : ((nm ws).map V.int).length = ws.length := by rw [List.length_map, nm_len]
    refine ⟨_, rfl, _, rfl, p, _, rfl, .inl (SqL.of hw1), _, _, rfl, rfl, _, _, rfl, rfl, _, rfl, ?_⟩
    refine ite2 (fun c1 => ?_) (fun c1 => ?_)
    · have c1 := of_decide_eq_true c1
      rw [hlen] at c1
      rw [spec_load_no M a ws (by omega)] at q
      refine ⟨_, rfl, (by show 1 ≤ sizeLine; decide), fun l hl => ?_⟩
      exact q A _ l (hM1.same (same_new hl)) (k1.aft hl) upd_same
    · have c1 := no_of c1
      rw [hlen] at c1
      have hroom : a + ws.length ≤ 65536 := by omega
      rw [spec_load M a ws hroom] at q
      refine ⟨_, rfl, p, _, rfl, SqL.of hw1, for_enum (K := K) (a := p) (xs := (nm ws).map V.int) (fun i σ H2 => ∃ (v5 v6 : Option V), σ = [some (.ref A.p), some (.ref c), some (.int (a : Nat)), some (.ref p), v5, v6] ∧
        Mach C H2 A { M with mem := fun j => if a ≤ j ∧ j < a + i then (ws.getD (j - a) 0) % 2 ^ 60 else M.mem j } ∧ Keep2 A A H H2 ∧ H2 p = some (.lst ((nm ws).map V.int)))
        ⟨none, none, rfl, ?_, k1, hw1⟩ (fun i σ H2 _ ⟨_, _, _, _, _, h⟩ => SqL.of h) ?_ ?_⟩
      · have e : (fun j => if a ≤ j ∧ j < a + 0 then (ws.getD (j - a) 0) % 2 ^ 60 else M.mem j) = M.mem := by
          funext j; rw [if_neg (by omega)]
        rw [e]; exact hM1
      · rintro i x σ H2 t hx ⟨v5, v6, rfl, hM2, k2, hw2⟩ ht
        have hi : i < ws.length := by
          have := (List.getElem?_eq_some_iff.mp hx).1
          omega
        obtain ⟨y, hy⟩ : ∃ y, ws[i]? = some y := ⟨_, List.getElem?_eq_getElem hi⟩
        rw [nm_get hy] at hx
        cases hx
        have hM3 := hM2.same (same_new (o := .tup [V.int (i : Nat), V.int (y : Nat)]) ht)
        have k3 := k2.same (same_new (o := .tup [V.int (i : Nat), V.int (y : Nat)]) ht)
        have hw3 : upd H2 t (.tup [V.int (i : Nat), V.int (y : Nat)]) p = some (.lst ((nm ws).map V.int)) := same_new ht _ _ hw2
        have hT : upd H2 t (.tup [V.int (i : Nat), V.int (y : Nat)]) t = some (.tup [V.int (i : Nat), V.int (y : Nat)]) := upd_same
        generalize upd H2 t (.tup [V.int (i : Nat), V.int (y : Nat)]) = H3 at *
        have e60 : Builtin.bitAnd (y : Int) 1152921504606846975 = ((y % 2 ^ 60 : Nat) : Int) := by
          rw [show (1152921504606846975 : Int) = ((2 ^ 60 - 1 : Nat) : Int) from rfl, bAnd, and_mask]
        refine ⟨t, _, rfl, SqT.of hT, rfl, _, _, rfl, _, _, rfl, rfl, _, rfl, _, _, rfl, rfl, ?_⟩
        dsimp only
        rw [e60]
        refine ⟨_, rfl, A.p, C, A.dx, _, _, rfl, hM3.ob, T.cl, T.nM, mf_memory, _, rfl, _, rfl, _, _, rfl, rfl, A.lm, _, _, a + i, rfl, rfl, hM3.m, by rw [regs_len, show (a : Int) + (i : Int) = ((a + i : Nat) : Int) by omega]; exact ix_nat (by omega), ?_⟩
        have hM4 := hM3.putM (a + i) (v := y % 2 ^ 60) (Nat.mod_lt _ (by decide))
        refine ⟨_, _, rfl, ?_, ⟨rfl, fun b o e hb => ⟨by rw [upd_ne hb.2.2.2.2]; exact (k3.kp b o e hb).1, hb⟩⟩, by rw [upd_ne hpo.2.2.2.2]; exact hw3⟩
        have em : Ql50.upd (fun j => if a ≤ j ∧ j < a + i then (ws.getD (j - a) 0) % 2 ^ 60 else M.mem j) (a + i) (y % 2 ^ 60) = fun j => if a ≤ j ∧ j < a + (i + 1) then (ws.getD (j - a) 0) % 2 ^ 60 else M.mem j := by
          funext j
          unfold Ql50.upd
          by_cases hj : j = a + i
          · rw [if_pos hj, if_pos (by omega)]
            have : j - a = i := by omega
            rw [this, List.getD_eq_getElem?_getD, hy]; rfl
          · rw [if_neg hj]
            dsimp only
            by_cases h2 : a ≤ j ∧ j < a + i
            · rw [if_pos h2, if_pos (by omega)]
            · rw [if_neg h2, if_neg (by omega)]
        rw [← em]
        exact hM4
      · rintro σ H2 ⟨v5, v6, rfl, hM2, k2, hw2⟩
        rw [hlen] at hM2
        refine ⟨(by show 1 ≤ sizeLine; decide), fun l hl => ?_⟩
        exact q A _ l (hM2.same (same_new hl)) (k2.aft hl) upd_same
theorem sc_look : FnScope ["m", "call", "at", "n"] ["m", "call"] (defScope s_look) := ⟨rfl, rfl, rfl, by decide +kernel, rfl, by decide +kernel, by decide +kernel⟩
theorem ok_look (T : Txt K mg C) : DF P w K mg base "look" 2 ["m", "call"] (spCall K C 2) := by
  refine df_of T.f_look sc_look (fun vs H Q E h => ?_) (fun f cdv A outer s H vs Q E hr h => ?_)
  · obtain ⟨A, M, c, ns, q, rfl, _⟩ := h; rfl
  · obtain ⟨A, M, c, ns, cq, rfl, hM, hc, ⟨a, n, rfl, rfl⟩, q⟩ := h
    refine ⟨_, (pss_cons (ps_set (i := 2) sc_look.nd rfl (Or.inl rfl) (pe_ix ix_list (pv 1) pe_int (fun _ _ => rfl))) (pss_cons (ps_set (i := 3) sc_look.nd rfl (Or.inl rfl) (pe_ix ix_list (pv 1) pe_int (fun _ _ => rfl))) (pss_cons (ps_if (pt_cmpR op_gt (pe_op op_add (pv 2) (pv 3)) (pe_gi rfl T.c_MEMORY_WORDS) (nomark _)) (pss_one (ps_ret (pe_lst (pa_cons (pe_un un_neg pe_int) pa_nil)))) pss_nil) (pss_one (ps_ret (pe_op op_cat (pe_lst (pa_cons pe_int pa_nil)) (pe_slice sl_list (pe_fld (pv 0) rfl) (po_some (pv 2)) (po_some (pe_op op_add (pv 2) (pv 3)))))))))), ?_⟩
    refine ⟨_, rfl, c, _, _, _, rfl, rfl, hc, at_of (j := 1) rfl (nm_get rfl), _, rfl, c, _, _, _, rfl, rfl, hc, at_of (j := 2) rfl (nm_get rfl), _, rfl, _, rfl, _, _, rfl, rfl, _, _, rfl, rfl, _, rfl, ?_⟩
    refine ite2 (fun c1 => ?_) (fun c1 => ?_)
    · have c1 := of_decide_eq_true c1
      rw [spec_look_no M a n (by omega)] at q
      refine ⟨_, rfl, (by show 1 ≤ sizeLine; decide), fun l hl => ?_⟩
      exact q A _ l (hM.same (same_new hl)) ((Keep.refl (A := A) (H := H)).two.aft hl) upd_same
    · have c1 := no_of c1
      have hroom : a + n ≤ 65536 := by omega
      rw [spec_look M a n hroom] at q
      refine ⟨(by show 1 ≤ sizeLine; decide), fun l1 hl1 => ?_⟩
      have hM1 := hM.same (same_new (o := .lst [V.int 0]) hl1)
      have k1 : Keep2 A A H (upd H l1 (.lst [V.int 0])) := (Keep.of_same (same_new hl1)).two
      have hw1 : upd H l1 (.lst [V.int 0]) l1 = some (.lst [V.int 0]) := upd_same
      generalize upd H l1 (.lst [V.int 0]) = H1 at *
      refine ⟨_, rfl, A.p, C, A.dx, _, _, rfl, hM1.ob, T.cl, T.nM, mf_memory, _, rfl, _, rfl, _, rfl, _, rfl, _, _, rfl, rfl, _, rfl, A.lm, _, rfl, SqL.of hM1.m, fun p hp => ?_⟩
      rw [cut_regs M.mem a n 65536 hroom]
      have hM2 := hM1.same (same_new (o := .lst ((List.range n).map fun i => V.int (M.mem (a + i) : Nat))) hp)
      have k2 := k1.same (same_new (o := .lst ((List.range n).map fun i => V.int (M.mem (a + i) : Nat))) hp)
      have hw2 : upd H1 p (.lst ((List.range n).map fun i => V.int (M.mem (a + i) : Nat))) l1 = some (.lst [V.int 0]) := same_new hp _ _ hw1
      have hp2 : upd H1 p (.lst ((List.range n).map fun i => V.int (M.mem (a + i) : Nat))) p = some (.lst ((List.range n).map fun i => V.int (M.mem (a + i) : Nat))) := upd_same
      generalize upd H1 p (.lst ((List.range n).map fun i => V.int (M.mem (a + i) : Nat))) = H2 at *
      refine ⟨l1, p, _, _, rfl, rfl, hw2, hp2, ?_, fun l hl => ?_⟩
      · rw [List.length_map, List.length_range]
        show 1 + n ≤ 16777216
        omega
      · refine q A _ l (hM2.same (same_new hl)) (k2.aft hl) ?_
        rw [upd_same]
        congr 2
        show _ = V.int 0 :: ((Ql50Neutral.ints ((List.range n).map fun i => M.mem (a + i))).map V.int)
        unfold Ql50Neutral.ints
        rw [List.map_map, List.map_map]; rfl
theorem sc_run_steps : FnScope ["m", "call"] ["m", "call"] (defScope s_run_steps) := ⟨rfl, rfl, rfl, by decide +kernel, rfl, by decide +kernel, by decide +kernel⟩
theorem ok_run_steps (T : Txt K mg C) : DF P w K mg base "run_steps" 10 ["m", "call"] (spCall K C 3) := by
  refine df_of T.f_run_steps sc_run_steps (fun vs H Q E h => ?_) (fun f cdv A outer s H vs Q E hr h => ?_)
  · obtain ⟨A, M, c, ns, q, rfl, _⟩ := h; rfl
  · obtain ⟨A, M, c, ns, cq, rfl, hM, hc, ⟨n, rfl, rfl⟩, q⟩ := h
    refine ⟨_, (pss_cons (ps_if (pt_cmpR op_gt (pe_ix ix_list (pv 1) pe_int (fun _ _ => rfl)) (pe_gi rfl T.c_MOST_STEPS) (nomark _)) (pss_one (ps_ret (pe_lst (pa_cons (pe_un un_neg pe_int) pa_nil)))) pss_nil) (pss_one (ps_ret (pe_lst (pa_cons (pe_df (ok_run T) (hr.mono (by decide)) (pa_cons (pv 0) (pa_cons (pe_ix ix_list (pv 1) pe_int (fun _ _ => rfl)) pa_nil))) pa_nil))))), ?_⟩
    refine ⟨_, rfl, c, _, _, _, rfl, rfl, hc, at_of (j := 1) rfl (nm_get rfl), _, _, rfl, rfl, _, rfl, ?_⟩
    refine ite2 (fun c1 => ?_) (fun c1 => ?_)
    · have c1 := of_decide_eq_true c1
      rw [spec_run_no M n (by omega)] at q
      refine ⟨_, rfl, (by show 1 ≤ sizeLine; decide), fun l hl => ?_⟩
      exact q A _ l (hM.same (same_new hl)) ((Keep.refl (A := A) (H := H)).two.aft hl) upd_same
    · have c1 := no_of c1
      rw [spec_run M n (by omega)] at q
      refine ⟨_, rfl, _, rfl, c, _, _, _, rfl, rfl, hc, at_of (j := 1) rfl (nm_get rfl), A, M, n, rfl, hM, fun H' hM' kp => ⟨(by show 1 ≤ sizeLine; decide), fun l hl => ?_⟩⟩
      exact q A _ l (hM'.same (same_new hl)) (kp.two.aft hl) upd_same
theorem sc_why_ended : FnScope ["m", "call"] ["m", "call"] (defScope s_why_ended) := ⟨rfl, rfl, rfl, by decide +kernel, rfl, by decide +kernel, by decide +kernel⟩
theorem ok_why_ended (T : Txt K mg C) : DF P w K mg base "why_ended" 1 ["m", "call"] (spCall K C 4) := by
  refine df_of T.f_why_ended sc_why_ended (fun vs H Q E h => ?_) (fun f cdv A outer s H vs Q E hr h => ?_)
  · obtain ⟨A, M, c, ns, q, rfl, _⟩ := h; rfl
  · obtain ⟨A, M, c, ns, cq, rfl, hM, hc, ⟨rfl, rfl⟩, q⟩ := h
    refine ⟨_, (pss_one (ps_ret (pe_lst (pa_cons (pe_fld (pv 0) rfl) pa_nil)))), ?_⟩
    refine ⟨_, rfl, A.p, C, A.dx, _, _, rfl, hM.ob, T.cl, T.nWhy, mf_why_get, (by show 1 ≤ sizeLine; decide), fun l hl => ?_⟩
    exact q A _ l (hM.same (same_new hl)) ((Keep.refl (A := A) (H := H)).two.aft hl) upd_same
theorem sc_tell_number : FnScope ["m", "call"] ["m", "call"] (defScope s_tell_number) := ⟨rfl, rfl, rfl, by decide +kernel, rfl, by decide +kernel, by decide +kernel⟩
theorem ok_tell_number (T : Txt K mg C) : DF P w K mg base "tell_number" 2 ["m", "call"] (spCall K C 5) := by
  refine df_of T.f_tell_number sc_tell_number (fun vs H Q E h => ?_) (fun f cdv A outer s H vs Q E hr h => ?_)
  · obtain ⟨A, M, c, ns, q, rfl, _⟩ := h; rfl
  · obtain ⟨A, M, c, ns, cq, rfl, hM, hc, ⟨k, rfl, rfl⟩, q⟩ := h
    refine ⟨_, (pss_cons (ps_if (pt_cmpR op_gt (pe_ix ix_list (pv 1) pe_int (fun _ _ => rfl)) (pe_gi rfl T.c_LAST_TOLD) (nomark _)) (pss_one (ps_ret (pe_lst (pa_cons (pe_un un_neg pe_int) pa_nil)))) pss_nil) (pss_one (ps_ret (pe_lst (pa_cons pe_int (pa_cons (pe_df (ok_number_in T) (hr.mono (by decide)) (pa_cons (pv 0) (pa_cons (pe_ix ix_list (pv 1) pe_int (fun _ _ => rfl)) pa_nil))) pa_nil)))))), ?_⟩
    refine ⟨_, rfl, c, _, _, _, rfl, rfl, hc, at_of (j := 1) rfl (nm_get rfl), _, _, rfl, rfl, _, rfl, ?_⟩
    refine ite2 (fun c1 => ?_) (fun c1 => ?_)
    · have c1 := of_decide_eq_true c1
      rw [spec_get_no (tell_none M k (by omega))] at q
      refine ⟨_, rfl, (by show 1 ≤ sizeLine; decide), fun l hl => ?_⟩
      exact q A _ l (hM.same (same_new hl)) ((Keep.refl (A := A) (H := H)).two.aft hl) upd_same
    · have c1 := no_of c1
      have hk : k ≤ 25 := by omega
      obtain ⟨v, hv⟩ := tell_some M k hk
      rw [spec_get hv] at q
      refine ⟨_, rfl, _, rfl, c, _, _, _, rfl, rfl, hc, at_of (j := 1) rfl (nm_get rfl), A, M, k, v, rfl, hM, hk, hv, (by show 2 ≤ sizeLine; decide), fun l hl => ?_⟩
      exact q A _ l (hM.same (same_new hl)) ((Keep.refl (A := A) (H := H)).two.aft hl) upd_same
theorem sc_set_number : FnScope ["m", "call"] ["m", "call"] (defScope s_set_number) := ⟨rfl, rfl, rfl, by decide +kernel, rfl, by decide +kernel, by decide +kernel⟩
theorem ok_set_number (T : Txt K mg C) : DF P w K mg base "set_number" 3 ["m", "call"] (spCall K C 6) := by
  refine df_of T.f_set_number sc_set_number (fun vs H Q E h => ?_) (fun f cdv A outer s H vs Q E hr h => ?_)
  · obtain ⟨A, M, c, ns, q, rfl, _⟩ := h; rfl
  · obtain ⟨A, M, c, ns, cq, rfl, hM, hc, ⟨k, v, rfl, rfl⟩, q⟩ := h
    refine ⟨_, (pss_cons (ps_if (pt_cmpR op_gt (pe_ix ix_list (pv 1) pe_int (fun _ _ => rfl)) (pe_gi rfl T.c_LAST_SET) (nomark _)) (pss_one (ps_ret (pe_lst (pa_cons (pe_un un_neg pe_int) pa_nil)))) pss_nil) (pss_cons (ps_expr (pe_df (ok_put_number T) (hr.mono (by decide)) (pa_cons (pv 0) (pa_cons (pe_ix ix_list (pv 1) pe_int (fun _ _ => rfl)) (pa_cons (pe_ix ix_list (pv 1) pe_int (fun _ _ => rfl)) pa_nil))))) (pss_one (ps_ret (pe_lst (pa_cons pe_int pa_nil)))))), ?_⟩
    refine ⟨_, rfl, c, _, _, _, rfl, rfl, hc, at_of (j := 1) rfl (nm_get rfl), _, _, rfl, rfl, _, rfl, ?_⟩
    refine ite2 (fun c1 => ?_) (fun c1 => ?_)
    · have c1 := of_decide_eq_true c1
      rw [spec_set_no (put_none M k v (by omega))] at q
      refine ⟨_, rfl, (by show 1 ≤ sizeLine; decide), fun l hl => ?_⟩
      exact q A _ l (hM.same (same_new hl)) ((Keep.refl (A := A) (H := H)).two.aft hl) upd_same
    · have c1 := no_of c1
      have hk : k ≤ 24 := by omega
      refine ⟨_, rfl, _, rfl, c, _, _, _, rfl, rfl, hc, at_of (j := 1) rfl (nm_get rfl), _, rfl, c, _, _, _, rfl, rfl, hc, at_of (j := 2) rfl (nm_get rfl), A, M, k, v, rfl, hM, hk, fun H' t ht hM' kp => ?_⟩
      rw [spec_set ht] at q
      refine ⟨(by show 1 ≤ sizeLine; decide), fun l hl => ?_⟩
      exact q A _ l (hM'.same (same_new hl)) (kp.two.aft hl) upd_same
theorem sc_length_of_call : FnScope ["calls", "at"] ["calls", "at"] (defScope s_length_of_call) := ⟨rfl, rfl, rfl, by decide +kernel, rfl, by decide +kernel, by decide +kernel⟩
theorem ok_length_of_call (T : Txt K mg C) : DF P w K mg base "length_of_call" 1 ["calls", "at"] (spLen K) := by
  refine df_of T.f_length_of_call sc_length_of_call (fun vs H Q E h => ?_) (fun f cdv A outer s H vs Q E hr h => ?_)
  · obtain ⟨a, l, i, num, L, rfl, _⟩ := h; rfl
  · obtain ⟨a, l, i, num, L, rfl, ha, hn, hn7, h1, h2, q⟩ := h
    refine ⟨_, (pss_cons (ps_if (pt_cmpR op_eq (pe_ix ix_list (pv 0) (pv 1) (fun _ _ => rfl)) (pe_gi rfl T.c_LOAD) (nomark _)) (pss_one (ps_ret (pe_op op_add (pe_ix ix_tup (pe_gti rfl T.t_LENGTHS) (pe_gi rfl T.c_LOAD) (fun _ _ => rfl)) (pe_ix ix_list (pv 0) (pe_op op_add (pv 1) pe_int) (fun _ _ => rfl))))) pss_nil) (pss_one (ps_ret (pe_ix ix_tup (pe_gti rfl T.t_LENGTHS) (pe_ix ix_list (pv 0) (pv 1) (fun _ _ => rfl)) (fun _ _ => rfl))))), ?_⟩
    refine ⟨_, rfl, _, rfl, a, _, _, _, rfl, rfl, ha, atI_nat (nm_get hn), rfl, _, rfl, ?_⟩
    refine ite2 (fun c => ?_) (fun c => ?_)
    · have c := eq_of c
      obtain ⟨m, hm, hL⟩ := h1 (by omega)
      refine fun t hT => ⟨t, _, _, _, rfl, rfl, hT _, at_of (j := 1) rfl rfl, _, rfl, _, rfl, _, _, rfl, rfl, a, _, _, _, rfl, rfl, ha, at_of (j := i + 2) (by omega) (nm_get hm), _, _, rfl, rfl, ?_⟩
      exact qeq q (by omega)
    · have c := ne_of' c
      have hL := h2 (by omega)
      have hg : (([1, 3, 3, 2, 1, 2, 3] : List Int).map V.int)[num]? = some (V.int ((lens.getD num 0 : Nat) : Int)) := by
        have : ∀ x : Fin 7, ([1, 3, 3, 2, 1, 2, 3] : List Int)[x.val]? = some ((lens.getD x.val 0 : Nat) : Int) := by decide
        rw [List.getElem?_map, this ⟨num, hn7⟩]; rfl
      refine fun t hT => ⟨_, rfl, _, rfl, a, _, _, _, rfl, rfl, ha, atI_nat (nm_get hn), t, _, _, _, rfl, rfl, hT _, atI_nat hg, ?_⟩
      exact qeq q (by rw [hL])
end
end Sx
set_option Elab.async false
set_option linter.all false
set_option maxRecDepth 100000
set_option maxHeartbeats 4000000
namespace Sx
open PySem L2
/-- what was handed in: it stays as it is -/
def Inp (K : PySem.W.Frag) (H : Hp) (a : Addr) (xs : List V) : Prop := (∃ o, H a = some (.frz o (.lst xs))) ∨ (H a = none ∧ ∀ H', SqL K H' a xs)
theorem Inp.sq {K : PySem.W.Frag} {H : Hp} {a : Addr} {xs : List V} (h : Inp K H a xs) : SqL K H a xs := by
  rcases h with ⟨o, h⟩ | ⟨_, h⟩
  · exact .inl (.inr ⟨o, h⟩)
  · exact h H
/-- handed in at first, read for ever -/
def Got (K : PySem.W.Frag) (H : Hp) (a : Addr) (xs : List V) : Prop := (∃ o, H a = some (.frz o (.lst xs))) ∨ ∀ H', SqL K H' a xs
theorem Got.sq {K : PySem.W.Frag} {H : Hp} {a : Addr} {xs : List V} (h : Got K H a xs) : SqL K H a xs := by
  rcases h with ⟨o, h⟩ | h
  · exact .inl (.inr ⟨o, h⟩)
  · exact h H
theorem Got.kept {K : PySem.W.Frag} {H H' : Hp} {a : Addr} {xs : List V} (h : Got K H a xs) (k : ∀ o u, H a = some (.frz o u) → H' a = some (.frz o u)) : Got K H' a xs := by
  rcases h with ⟨o, h⟩ | h
  · exact .inl ⟨o, k _ _ h⟩
  · exact .inr h
theorem Mach.frz {C : Addr} {H : Hp} {A : Ads} {M : Ql50.St} (h : Mach C H A M) {a : Addr} {o : Obj} {u : HO} (e : H a = some (.frz o u)) : Out A a :=
  ⟨ne_of e h.ob (by intro z; cases z), ne_of e h.x (by intro z; cases z), ne_of e h.a (by intro z; cases z), ne_of e h.b (by intro z; cases z), ne_of e h.m (by intro z; cases z)⟩
def spAnswers (K : PySem.W.Frag) : Sp := fun vs H Q _ => ∃ (a : Addr) (ns : List Nat) (cs : List (List (List Int))) (f : Nat), vs = [.ref a] ∧ Got K H a ((nm ns).map V.int) ∧
  PyFlat.calls PyQl50.shape f (nm ns) = some cs ∧ mosts cs ≤ 901200 ∧ ∀ (l : Addr) (H' : Hp), H' l = some (.lst ((outs Ql50.blank cs).map V.int)) → Q (.ref l) H'
/-- between two calls -/
def AnsW (K : PySem.W.Frag) (C a p t : Addr) (ns : List Nat) (cs : List (List (List Int))) : Nat → L2.St → Hp → Prop := fun m σ H => ∃ (i : Nat) (A : Ads) (M : Ql50.St) (out : List Int) (cs' : List (List (List Int))) (f : Nat) (v4 v5 : Option V),
  σ = [some (.ref a), some (.ref p), some (.ref t), some (.int (i : Nat)), v4, v5] ∧ A.p = p ∧ Mach C H A M ∧ H t = some (.lst (out.map V.int)) ∧ Out A t ∧ Got K H a ((nm ns).map V.int) ∧ i ≤ ns.length ∧
  PyFlat.calls PyQl50.shape f (nm (ns.drop i)) = some cs' ∧ out ++ outs M cs' = outs Ql50.blank cs ∧ out.length + mosts cs' ≤ 901200 ∧ m = ns.length - i
theorem cut_nm (l : List Nat) (i L : Nat) (h : i + L ≤ l.length) : cutV ((nm l).map V.int) (some (i : Int)) (some ((i : Int) + (L : Int))) = (nm ((l.drop i).take L)).map V.int := by
  unfold cutV
  rw [show (i : Int) + (L : Int) = ((i + L : Nat) : Int) by omega, HT.sIx_nat, HT.sIx_nat, List.length_map, nm_len, Nat.min_eq_left (show i ≤ l.length by omega), Nat.min_eq_left h, show i + L - i = L by omega]
  unfold nm
  rw [List.map_map, ← List.map_drop, ← List.map_take, List.map_map]
section
variable {P : Program} {w : World} {K : PySem.W.Frag} {mg : Str → Option Value} {base : Heap} {C : Addr}
theorem calls_ok (T : Txt K mg C) : Paired (fun (n : Str) (d : Nat) => DF P w K mg base n 11 ["m", "call"] (spCall K C d)) ["begin_anew", "load", "look", "run_steps", "why_ended", "tell_number", "set_number"] [0, 1, 2, 3, 4, 5, 6] :=
  .cons ((ok_begin_anew T).mono (by decide)) (.cons ((ok_load T).mono (by decide)) (.cons ((ok_look T).mono (by decide)) (.cons ((ok_run_steps T).mono (by decide)) (.cons ((ok_why_ended T).mono (by decide)) (.cons ((ok_tell_number T).mono (by decide)) (.cons ((ok_set_number T).mono (by decide)) .nil))))))

theorem sc_answers : FnScope ["calls", "m", "told", "at", "behind", "answer"] ["calls"] (defScope s_answers) := ⟨rfl, rfl, rfl, by decide +kernel, rfl, by decide +kernel, by decide +kernel⟩
theorem ok_answers (T : Txt K mg C) : DF P w K mg base "answers" 12 ["calls"] (spAnswers K) := by
  refine df_of T.f_answers sc_answers (fun vs H Q E h => ?_) (fun f cdv A outer s H vs Q E hr h => ?_)
  · obtain ⟨a, ns, cs, f, rfl, _⟩ := h; rfl
  · obtain ⟨a, ns, cs, f, rfl, ha, hcs, hmost, q⟩ := h
    refine ⟨_, (pss_cons (ps_set (i := 1) sc_answers.nd rfl (Or.inl rfl) (pe_new (ok_Machine_init T) (hr.mono (by decide)) T.mgC)) (pss_cons (ps_set (i := 2) sc_answers.nd rfl (Or.inl rfl) (pe_lst pa_nil)) (pss_cons (ps_set (i := 3) sc_answers.nd rfl (Or.inl rfl) pe_int) (pss_cons (ps_while PassesOwn.never (pt_cmpR op_lt (pv 3) (pe_callB call_len_seq (by rfl) T.b_len PySem.boot_len (pa_cons (pv 0) pa_nil)) (nomark _)) (pss_cons (ps_set (i := 4) sc_answers.nd rfl (Or.inl rfl) (pe_op op_add (pv 3) (pe_df (ok_length_of_call T) (hr.mono (by decide)) (pa_cons (pv 0) (pa_cons (pv 3) pa_nil))))) (pss_cons (ps_set (i := 5) sc_answers.nd rfl (Or.inl rfl) (pe_dfV (k := 11) (hr.mono (by decide)) (pe_ix ix_tup (pe_gr rfl T.t_CALLS) (pe_ix ix_list (pv 0) (pv 3) (fun _ _ => rfl)) (fun _ _ => rfl)) (pa_cons (pv 1) (pa_cons (pe_slice sl_list (pv 0) (po_some (pv 3)) (po_some (pv 4))) pa_nil)))) (pss_cons (ps_expr (pe_bm PySem.F.plainAttrs_list PySem.F.slot_list_append PySem.F.type_list_append mt_append (pv 2) (pa_cons (pe_callB call_len_seq (by rfl) T.b_len PySem.boot_len (pa_cons (pv 5) pa_nil)) pa_nil))) (pss_cons (ps_expr (pe_bm PySem.F.plainAttrs_list PySem.F.slot_list_extend PySem.F.type_list_extend mt_extend (pv 2) (pa_cons (pv 5) pa_nil))) (pss_one (ps_set (i := 3) sc_answers.nd rfl (Or.inl rfl) (pv 4)))))))) (pss_one (ps_ret (pv 2))))))), ?_⟩
    intro x dx nx ndx nex
    refine ⟨x, dx, rfl, upd_same, fun A1 H1 hp1 hM1 kp1 => ⟨rfl, ?_⟩⟩
    have ha1 : Got K H1 a ((nm ns).map V.int) := ha.kept fun o u e => (kp1 a _ (by rw [upd_ne (ne_of_none e nx), upd_ne (ne_of_none e ndx)]; exact e) (ne_of_none e nx)).1
    refine ⟨(by show 0 ≤ sizeLine; decide), fun t ht => ?_⟩
    refine ⟨AnsW K C a x t ns cs, ⟨ns.length, 0, A1, Ql50.blank, [], cs, f, none, none, rfl, hp1, hM1.same (same_new ht), upd_same, hM1.new ht, ha1.kept (fun o u e => same_new ht _ _ e), Nat.zero_le _, hcs, rfl, by show 0 + mosts cs ≤ _; omega, rfl⟩, ?_⟩
    clear ha1 hM1 hp1 kp1 ht
    rintro m σ H ⟨i, A, M, out, cs', f', v4, v5, rfl, hAp, hM, ht, hto, ha, hi, hcs', heq, hlen, rfl⟩
    have hal : ((nm ns).map V.int).length = ns.length := by rw [List.length_map, nm_len]
    refine ⟨_, rfl, _, rfl, a, _, rfl, .inl ha.sq, _, _, rfl, rfl, _, rfl, ?_⟩
    refine ite2 (fun c => ?_) (fun c => ?_)
    · have c := of_decide_eq_true c
      rw [hal] at c
      have hi2 : i < ns.length := by omega
      -- the next call
      obtain ⟨num, r, hr'⟩ : ∃ num r, ns.drop i = num :: r := by
        cases e : ns.drop i with
        | nil => rw [List.drop_eq_nil_iff] at e; omega
        | cons z y => exact ⟨z, y, rfl⟩
      have hn0 : ns[i]? = some num := by
        have := List.getElem?_drop (xs := ns) (i := i) (j := 0)
        rw [hr'] at this
        simpa using this.symm
      rw [hr'] at hcs'
      obtain ⟨cl, tl, cs2, f2, hcall, rfl, hrest⟩ := calls_cons hcs'
      obtain ⟨cq, hn7, htl, hco, hcall2, hL0, hLe, hL1⟩ := call_of num r cl tl hcall
      have hLd : callLen num (num :: r) + i ≤ ns.length := by
        have := congrArg List.length hr'
        rw [List.length_drop] at this
        omega
      have hlens : num = 1 → ∃ m, ns[i + 2]? = some m ∧ callLen num (num :: r) = 3 + m := fun z => by
        refine ⟨(num :: r).getD 2 0, ?_, ?_⟩
        · have := hL1 z
          rw [← hr', List.getElem?_drop] at this
          rw [this, hr']
        · unfold callLen; rw [if_pos z]
      have hlens2 : num ≠ 1 → callLen num (num :: r) = lens.getD num 0 := fun z => by unfold callLen; rw [if_neg z]
      generalize callLen num (num :: r) = L at *
      rw [← hr'] at hco htl
      refine ⟨fun σ' H2 => ∃ m', m' < ns.length - i ∧ AnsW K C a x t ns cs m' σ' H2, fun σ' H2 z => z, ?_⟩
      -- behind
      refine ⟨_, rfl, _, rfl, _, rfl, a, ns, i, num, L, rfl, ha.sq, hn0, hn7, hlens, hlens2, _, _, rfl, rfl, ?_⟩
      -- the call itself
      have hix : ([0, 1, 2, 3, 4, 5, 6] : List Nat)[num]? = some num := by
        have : ∀ x : Fin 7, ([0, 1, 2, 3, 4, 5, 6] : List Nat)[x.val]? = some x.val := by decide
        exact this ⟨num, hn7⟩
      intro ta fs hT hP
      obtain ⟨g, hg, hk, fd, hb, F⟩ := tab_at (P := P) (w := w) (base := base) hP (calls_ok T) hix
      refine ⟨_, rfl, _, rfl, a, _, _, _, rfl, rfl, ha.sq, atI_nat (nm_get hn0), ta, _, _, .ref g, rfl, rfl, hT _, atI_nat hg, g, rfl, hk, _, rfl, _, rfl, _, rfl, _, rfl, _, rfl, _, rfl, a, _, rfl, ha.sq, fun c hc => ?_⟩
      rw [cut_nm ns i L (by omega)]
      have hM1 := hM.same (same_new (o := .lst ((nm ((ns.drop i).take L)).map V.int)) hc)
      have ht1 := same_new (o := .lst ((nm ((ns.drop i).take L)).map V.int)) hc _ _ ht
      have ha1 := ha.kept (H' := upd H c (.lst ((nm ((ns.drop i).take L)).map V.int))) (fun o u e => same_new hc _ _ e)
      have hc1 : upd H c (.lst ((nm ((ns.drop i).take L)).map V.int)) c = some (.lst ((nm ((ns.drop i).take L)).map V.int)) := upd_same
      generalize upd H c (.lst ((nm ((ns.drop i).take L)).map V.int)) = H1 at *
      refine ⟨fd, _, _, hb, F, A, M, c, _, cq, by rw [hAp]; rfl, hM1, SqL.of hc1, hco, fun A2 H2 l hM2 aft hl => ?_⟩
      obtain ⟨ht2, hto2, htl2⟩ := aft.kp t _ ht1 hto
      have ha2 : Got K H2 a ((nm ns).map V.int) := ha1.kept fun o u e => (aft.kp a _ e (hM1.frz e)).1
      have hout := outs_cons M cl cs2 cq hcall2
      have hmc := mosts_cons cl cs2
      have hal2 := ans_len M (PyQl50.whole cl) cq hcall2
      have hansl : (ansI (Ql50.spec M cq).2).length ≤ 2 + Ql50Neutral.most (PyQl50.whole cl) := by
        show (Ql50Neutral.ints (Ql50.spec M cq).2.words).length + 1 ≤ _
        unfold Ql50Neutral.ints
        rw [List.length_map]; omega
      -- told.append(len(answer))
      refine ⟨_, rfl, .inl ⟨rfl, _, SqL.of ht2⟩, _, rfl, l, _, rfl, .inl (SqL.of hl), t, _, _, rfl, rfl, ht2, (by rw [List.length_map]; show out.length < 16777216; omega), ?_⟩
      have hM3 := hM2.out (o := .lst (out.map V.int ++ [V.int (((ansI (Ql50.spec M cq).2).map V.int).length : Nat)])) hto2
      have ha3 := ha2.kept (H' := upd H2 t (.lst (out.map V.int ++ [V.int (((ansI (Ql50.spec M cq).2).map V.int).length : Nat)]))) fun o u e => by rw [upd_ne (ne_of e ht2 (by intro z; cases z))]; exact e
      have hl3 : upd H2 t (.lst (out.map V.int ++ [V.int (((ansI (Ql50.spec M cq).2).map V.int).length : Nat)])) l = some (.lst ((ansI (Ql50.spec M cq).2).map V.int)) := by rw [upd_ne htl2.symm]; exact hl
      have ht3 : upd H2 t (.lst (out.map V.int ++ [V.int (((ansI (Ql50.spec M cq).2).map V.int).length : Nat)])) t = some (.lst (out.map V.int ++ [V.int (((ansI (Ql50.spec M cq).2).map V.int).length : Nat)])) := upd_same
      generalize upd H2 t (.lst (out.map V.int ++ [V.int (((ansI (Ql50.spec M cq).2).map V.int).length : Nat)])) = H3 at *
      -- told.extend(answer)
      refine ⟨_, rfl, .inl ⟨rfl, _, SqL.of ht3⟩, _, rfl, t, l, _, _, rfl, rfl, ht3, hl3, (by rw [List.length_append, List.length_map, List.length_map]; show out.length + 1 + _ ≤ 16777216; omega), _, rfl, ?_⟩
      refine ⟨ns.length - (i + L), by omega, i + L, A2, _, out ++ (((ansI (Ql50.spec M cq).2).length : Int) :: ansI (Ql50.spec M cq).2), cs2, f2, some (V.int ((i : Int) + (L : Int))), some (V.ref l), ?_, aft.p.trans hAp, hM3.out hto2, ?_, hto2, ha3.kept fun o u e => by rw [upd_ne (ne_of e ht3 (by intro z; cases z))]; exact e, by omega, ?_, ?_, ?_, rfl⟩
      · show [some (V.ref a), some (V.ref x), some (V.ref t), some (V.int ((i : Int) + (L : Int))), _, _] = _
        rw [show (i : Int) + (L : Int) = ((i + L : Nat) : Int) by omega] <;> rfl
      · rw [upd_same, List.length_map, List.map_append, List.map_cons, List.append_assoc]; rfl
      · rw [htl, List.drop_drop] at hrest
        exact hrest
      · rw [← heq, hout, List.append_assoc, List.cons_append]
      · rw [List.length_append, List.length_cons]; omega
    · have c := no_of c
      rw [hal] at c
      have hnil : ns.drop i = [] := List.drop_eq_nil_iff.mpr (by omega)
      rw [hnil] at hcs'
      have hz : cs' = [] := by
        have : PyFlat.calls PyQl50.shape f' (nm []) = some [] := by cases f' <;> rfl
        rw [this] at hcs'
        exact (Option.some.inj hcs').symm
      subst hz
      refine ⟨_, rfl, ?_⟩
      rw [outs_nil, List.append_nil] at heq
      exact q t H (by rw [← heq]; exact ht)
end
end Sx
set_option Elab.async false
set_option linter.all false
set_option maxRecDepth 100000
set_option maxHeartbeats 4000000
namespace L2
open PySem PySem.Spec PyProof.Rows
/-- a call of the asked def: a list of ints comes back -/
theorem call_os {P : Program} {w : World} {K : PySem.W.Frag} {mg mb : Str → Option Value} {k : Nat} {fa a : Addr} {x : Str} {sp : Sp} {s₁ : Shared} {vs : List Value} {ns out : List Int}
    (KX : K.In s₁.heap) (hns : s₁.heap.Ns mainGlobals mg) (hb : s₁.heap.Ns builtinsNs mb) (hbb : ∀ x : Str, x ≠ "__name__" → mb x = bootBuiltins x) (hlim : s₁.heap.NoLimit) (hg : s₁.gens = #[])
    (ha : s₁.heap.get? a = some { cls := .type "list", data := .seq vs.toArray }) (hi : IntsAre vs ns) (hl : ns.length ≤ sizeLine) (hr : Room k callerA)
    (F : ∀ base : Heap, ∃ fd, Binds K fd [x] [] ∧ FnOk P w K mg base CX0 k fa fd [x] sp)
    (hsp : ∀ H : Hp, Only H → SqL K H a (ns.map V.int) → sp [.ref a] H (fun v H' => ∃ l, v = .ref l ∧ H' l = some (.lst (out.map V.int))) fun _ _ _ => False) :
    codeAny (model P w) callerA (.call (.ref fa) ⟨[.ref a], []⟩) (fun r s' => (∃ (l : Addr) (its : List Value) (n : Nat), r = .ok (.ret (.ref l)) ∧ Vals (out.map V.int) its ∧ s'.heap.get? l = some { cls := .type "list", data := .seq its.toArray n }) ∧ OldK s₁.heap s'.heap ∧ s'.os = s₁.os ∧ AllBare s'.gens) s₁ := by
  have rv := vals_ints hi
  have lenV := hi.length
  have core : ∀ H : Hp, Only H → SqL K H a (ns.map V.int) → HOk P w H s₁.heap → (∀ b, H b ≠ none → b = a) → (H a ≠ none → K.lookup a = none) →
      codeAny (model P w) callerA (.call (.ref fa) ⟨[.ref a], []⟩) (fun r s' => (∃ (l : Addr) (its : List Value) (n : Nat), r = .ok (.ret (.ref l)) ∧ Vals (out.map V.int) its ∧ s'.heap.get? l = some { cls := .type "list", data := .seq its.toArray n }) ∧ OldK s₁.heap s'.heap ∧ s'.os = s₁.os ∧ AllBare s'.gens) s₁ := by
    intro H hO hS hok hA hK
    have base_of : ∀ {b : Addr} {o : Obj}, s₁.heap.get? b = some o → H b = none → (hidT s₁.heap H).get? b = some o := fun e n => hidT_get e n
    have noA : ∀ {b : Addr} {o : Obj} {es : Array DictEntry} {ep : Nat}, s₁.heap.get? b = some o → o.data = .dict es ep → H b = none := fun {b o es ep} e d => by
      cases q : H b with
      | none => rfl
      | some u =>
        have e' : b = a := hA b (by rw [q]; simp)
        subst e'
        rw [ha] at e; cases e
        have d' : Data.seq vs.toArray _ = Data.dict es ep := d
        cases d'
    have nsK : ∀ {b : Addr} {m : Str → Option Value}, s₁.heap.Ns b m → (hidT s₁.heap H).Ns b m := fun {b m} ⟨o, es, ep, e, d, r⟩ => ⟨o, es, ep, base_of e (noA e d), d, r⟩
    have hKb : K.In (hidT s₁.heap H) := fun b o e => base_of (KX b o e) (by
      cases q : H b with
      | none => rfl
      | some u =>
        have e' : b = a := hA b (by rw [q]; simp)
        subst e'
        rw [hK (by rw [q]; simp)] at e; cases e)
    have hM : Mod K mg (hidT s₁.heap H) := ⟨hKb, nsK hns, ⟨mb, nsK hb, hbb⟩, let ⟨mc, h1, h2⟩ := hlim; ⟨mc, nsK h1, h2⟩⟩
    have e0 : Env0 P w K mg (hidT s₁.heap H) callerA [] s₁ H := ⟨rfl, hM, fun b o e => of_hidT e, Nat.le_of_eq (hidT_size _ _), trivial, fun b hb => absurd (show b ∈ ([] : List Addr) from hb) (by simp), hok, .of_eq hg⟩
    obtain ⟨fd, hbind, Fn⟩ := F (hidT s₁.heap H)
    refine codeAny_mono (Fn.run callerA [] s₁ H ⟨[.ref a], []⟩ [.ref a] [.ref a] _ _ hr e0 (hbind s₁ [.ref a] KX rfl) (.cons rfl .nil) (hsp H hO hS)) fun r s' h => ?_
    cases r with
    | error e => exact False.elim h
    | ok fl =>
      cases fl with
      | next => exact False.elim h
      | brk => exact False.elim h
      | cont => exact False.elim h
      | ret u =>
        obtain ⟨v, H', os, bare, un, hok', r', l, rfl, hl'⟩ := h
        obtain rfl : u = Value.ref l := r'
        obtain ⟨_, its, n, rr, el⟩ := hok' l _ hl'
        refine ⟨⟨l, its, n, rfl, rr, el⟩, OldK.of_keep fun b o e => ?_, os, bare⟩
        cases q : H b with
        | none => exact un.keep b o e q (by intro z; exact absurd (show b ∈ ([] : List Addr) from z) (by simp)) (by simp)
        | some u =>
          rcases hO b with z | ⟨ob, xs, z⟩
          · rw [q] at z; cases z
          · have z2 := un.frzs b ob _ z
            obtain ⟨e1, _⟩ := hok b _ z
            obtain ⟨e2, _⟩ := hok' b _ z2
            rw [e] at e1; cases e1
            exact e2
  cases hk : K.lookup a with
  | some o =>
    have e := KX a o hk
    rw [ha] at e
    cases e
    refine core (fun _ => none) (fun _ => .inl rfl) (.inr ⟨_, vs.toArray, _, hk, rfl, rfl, rfl, by rw [List.size_toArray, lenV]; exact hl, by simpa using rv⟩) (fun b u z => by have z' : (none : Option HO) = some u := z; cases z') (fun b z => absurd rfl z) fun z => absurd rfl z
  | none =>
    refine core (fun b => if b = a then some (.frz { cls := .type "list", data := .seq vs.toArray } (.lst (ns.map V.int))) else none) (fun b => ?_) (.inl (.inr ⟨{ cls := .type "list", data := .seq vs.toArray }, if_pos rfl⟩)) (fun b u z => ?_) (fun b z => ?_) fun _ => hk
    · by_cases hb : b = a
      · exact .inr ⟨_, _, if_pos hb⟩
      · exact .inl (if_neg hb)
    · by_cases hb : b = a
      · have z' := (if_pos hb).symm.trans z
        cases z'
        subst hb
        exact ⟨ha, by rw [List.length_map]; exact hl, vs, _, rv, ha⟩
      · have z' := (if_neg hb).symm.trans z
        cases z'
    · by_cases hb : b = a
      · exact hb
      · exact absurd (if_neg hb) z
theorem reads_ints {R : PySem.W.WRecords} {cl : Str → Option Addr} {h : Heap} : ∀ {ns : List Int} {us : List Value}, Vals (ns.map V.int) us → PySem.W.ReadsAllW R cl h us (ns.map PySem.W.WData.int) []
  | [], us, r => by
    rw [List.map_nil] at r
    cases r
    exact .nil
  | n :: ns, us, r => by
    rw [List.map_cons] at r
    cases r with
    | cons a b =>
      obtain ⟨t, rfl⟩ := a
      exact .cons (as := []) (bs := []) (.int n t) (reads_ints b)
/-- the head's last premise of a spec: one list of ints in, one out -/
theorem walk_os {r : PySem.W.OpenSpec} {k : Nat} {q : Program} {loose : List Str} {XP : (Str → Option Value) → Heap → Prop} {YP : World → Heap → Prop} {d : DefRec} {K : Params → PySem.W.Frag} {sp : PySem.W.Frag → Sp} {x : Str} {Pre : List Int → Prop} {out : List Int → List Int}
    (hdf : d.params.defaults = []) (hr : Room k callerA) (hY : ∀ (w : World) (h : Heap), YP w h → (K w.params).In h)
    (F : ∀ (w : World) (mg : Str → Option Value) (fa : Addr) (h : Heap), (K w.params).In h → h.Ns mainGlobals mg → mg d.name = some (.ref fa) →
      ∀ base : Heap, ∃ fd, Binds (K w.params) fd [x] [] ∧ FnOk r.prog w (K w.params) mg base CX0 k fa fd [x] (sp (K w.params)))
    (hpre : ∀ args, r.pre args = true → ∃ ns : List Int, args = [.list (ns.map PySem.W.WData.int)] ∧ ns.length ≤ sizeLine ∧ Pre ns)
    (hsp : ∀ (K : PySem.W.Frag) (H : Hp) (a : Addr) (ns : List Int), Pre ns → Only H → SqL K H a (ns.map V.int) → sp K [.ref a] H (fun v H' => ∃ l, v = .ref l ∧ H' l = some (.lst ((out ns).map V.int))) fun _ _ _ => False)
    (hpost : ∀ ns, Pre ns → r.pre [.list (ns.map PySem.W.WData.int)] = true → r.post [.list (ns.map PySem.W.WData.int)] (.list ((out ns).map PySem.W.WData.int)) = true) :
    PySem.W.WalkOS q loose XP YP r d [] (fun f vs => PySem.call f vs) := by
  intro w s₀ s₁ mg mb G Y fa o pm cd doc dV kV ho hd hcd hD hmg hg args vals as hpre' hlay hrd hwl hlo
  obtain rfl : dV = .none := PySem.W.Dflts.none hD hdf
  obtain rfl : kV = .none := PySem.W.Dflts.noKw hD
  obtain ⟨ns, rfl, hlen, hP⟩ := hpre args hpre'
  have KX := hY w _ Y
  have hF := F w mg fa _ KX G.T.g hmg
  cases hwl with
  | cons w1 w2 =>
    cases w2
    cases w1 with
    | list ho' hall =>
      have hints := Att.ints_of_wellAll ns _ hall
      refine PySem.W.enter_call (codeAny_mono (call_os (out := out ns) KX G.T.g G.T.b G.T.builtins G.T.nolimit hg ho' hints hlen hr hF fun H hO hS => hsp _ H _ ns hP hO hS) fun res s' hq => ?_)
      obtain ⟨⟨l, its, n, rfl, rr, el⟩, h2, h3, h4⟩ := hq
      refine ⟨.inl ⟨.ref l, .list ((out ns).map PySem.W.WData.int), _, rfl, fun _ => rfl, .list el rfl rfl (by simpa using reads_ints rr), hpost ns hP hpre', fun h => absurd h Bool.false_ne_true⟩, h2, h3, h4⟩
end L2
set_option Elab.async false
set_option linter.all false
set_option maxRecDepth 100000
set_option maxHeartbeats 4000000
namespace Sx
open PySem L2
theorem dx_mk {K : PySem.W.Frag} {h : Heap} {mg : Str → Option Value} (X : K.In h) (G : h.Ns mainGlobals mg) {name : Str} {st : Stmt} {ps : List Str} {f : Addr} {oc : Value} {od an : Option Addr} {osl : Array (Option Value)} {kV doc pm cdv ct : Value}
    (e1 : PySem.W.nsIn K mainGlobals name = some (some (.ref f))) (e2 : K.lookup f = some ⟨oc, od, .func (PySem.W.fnOf name name (defArgs st) (defBody st) (defScope st) .none kV doc pm an cdv ct), osl⟩) (e3 : PySem.W.codeIn K cdv name = true) (e4 : PySem.W.keepIn K (.ref f) = true)
    (hb : ∀ (kV doc pm : Value) (an : Option Addr) (cdv ct : Value) (us : List Value), us.length = ps.length → bindArgs (PySem.W.fnOf name name (defArgs st) (defBody st) (defScope st) .none kV doc pm an cdv ct) ⟨us, []⟩ = pure (ps.zip us)) : Dx K mg name st ps := by
  have F := fun_mk (st := st) e2 e3 e4
  exact ⟨f, _, F, PySem.W.mg_of X G e1, F.binds hb⟩
theorem mx_mk {K : PySem.W.Frag} {C : Addr} {m qual : Str} {st : Stmt} {ps : List Str} {f : Addr} {oc : Value} {od an : Option Addr} {osl : Array (Option Value)} {kV doc pm cdv ct : Value}
    (e1 : PySem.W.findIn K (.ref C) m = some (some (.ref f))) (e0 : PySem.W.isFn K (.ref f) = true) (e2 : K.lookup f = some ⟨oc, od, .func (PySem.W.fnOf m qual (defArgs st) (defBody st) (defScope st) .none kV doc pm an cdv ct), osl⟩) (e3 : PySem.W.codeIn K cdv qual = true) (e4 : PySem.W.keepIn K (.ref f) = true)
    (hb : ∀ (kV doc pm : Value) (an : Option Addr) (cdv ct : Value) (us : List Value), us.length = ps.length → bindArgs (PySem.W.fnOf m qual (defArgs st) (defBody st) (defScope st) .none kV doc pm an cdv ct) ⟨us, []⟩ = pure (ps.zip us)) : Mx K C m qual st ps := by
  have F := fun_mk (st := st) e2 e3 e4
  exact ⟨f, _, F, ⟨e1, e0, e4⟩, F.binds hb⟩
theorem init_mk {K : PySem.W.Frag} {C : Addr} {st : Stmt} {f : Addr} {oc : Value} {od an : Option Addr} {osl : Array (Option Value)} {kV doc pm cdv ct : Value}
    (e1 : PySem.W.findIn K (.ref C) "__init__" = some (some (.ref f))) (e0 : PySem.W.isFn K (.ref f) = true) (e2 : K.lookup f = some ⟨oc, od, .func (PySem.W.fnOf "__init__" "Machine.__init__" (defArgs st) (defBody st) (defScope st) .none kV doc pm an cdv ct), osl⟩) (e3 : PySem.W.codeIn K cdv "Machine.__init__" = true) (e4 : PySem.W.keepIn K (.ref f) = true)
    (e5 : PySem.W.makesIn K C = true) (e6 : PySem.W.keepIn K (.ref C) = true)
    (hb : ∀ (kV doc pm : Value) (an : Option Addr) (cdv ct : Value) (us : List Value), us.length = (["self"] : List Str).length → bindArgs (PySem.W.fnOf "__init__" "Machine.__init__" (defArgs st) (defBody st) (defScope st) .none kV doc pm an cdv ct) ⟨us, []⟩ = pure ((["self"] : List Str).zip us)) :
    ∃ f fd, Mk K C f ∧ Fun K "__init__" "Machine.__init__" st f fd ∧ Binds K fd ["self"] [] := by
  have F := fun_mk (st := st) e2 e3 e4
  exact ⟨f, _, ⟨e5, e1, e0, e6⟩, F, F.binds hb⟩
theorem const_mk {K : PySem.W.Frag} {h : Heap} {mg : Str → Option Value} (X : K.In h) (G : h.Ns mainGlobals mg) {name : Str} {v : Int} {t : Tok} (e1 : PySem.W.nsIn K mainGlobals name = some (some (.int v t))) : ∃ t, mg name = some (Value.int v t) :=
  ⟨t, PySem.W.mg_of X G e1⟩
theorem names_at {mg : Str → Option Value} {K : PySem.W.Frag} {h : Heap} (X : K.In h) (G : h.Ns mainGlobals mg) : ∀ (ns : List Str) (vs : List Value), ns.map (PySem.W.nsIn K mainGlobals) = vs.map (fun v => some (some v)) → vs.all (fun v => match v with | .ref _ => true | _ => false) = true →
    ∃ fs : List Addr, Vals (fs.map V.ref) vs ∧ Paired (fun n f => mg n = some (.ref f)) ns fs
  | [], [], _, _ => ⟨[], .nil, .nil⟩
  | [], _ :: _, e, _ => by cases e
  | _ :: _, [], e, _ => by cases e
  | n :: ns, v :: vs, e, a => by
    rw [List.map_cons, List.map_cons] at e
    obtain ⟨e1, e2⟩ := List.cons.inj e
    rw [List.all_cons, Bool.and_eq_true] at a
    obtain ⟨fs, h1, h2⟩ := names_at X G ns vs e2 a.2
    cases v with
    | ref f => exact ⟨f :: fs, .cons rfl h1, .cons (PySem.W.mg_of X G e1) h2⟩
    | _ => cases a.1
theorem tab_mk {K : PySem.W.Frag} {h : Heap} {mg : Str → Option Value} (X : K.In h) (G : h.Ns mainGlobals mg) {name : Str} {ns : List Str} {a : Addr} {od : Option Addr} {osl : Array (Option Value)} {its : Array Value} {n : Nat}
    (e1 : PySem.W.nsIn K mainGlobals name = some (some (.ref a))) (e2 : K.lookup a = some ⟨.type "tuple", od, .seq its n, osl⟩) (e3 : ns.map (PySem.W.nsIn K mainGlobals) = its.toList.map (fun v => some (some v)))
    (e4 : its.toList.all (fun v => match v with | .ref _ => true | _ => false) = true) (e5 : its.size ≤ 1000) : Tab K mg name ns := by
  obtain ⟨fs, h1, h2⟩ := names_at X G ns its.toList e3 e4
  exact ⟨a, fs, PySem.W.mg_of X G e1, fun H => .inr ⟨_, its, n, e2, rfl, rfl, Nat.le_trans e5 (by decide), h1⟩, h2⟩
theorem vals_mk : ∀ (ns : List Int) (vs : List Value), vs.map (fun v => match v with | .int i _ => some i | _ => none) = ns.map some → Vals (ns.map V.int) vs
  | [], [], _ => .nil
  | [], _ :: _, e => by cases e
  | _ :: _, [], e => by cases e
  | n :: ns, v :: vs, e => by
    rw [List.map_cons, List.map_cons] at e
    obtain ⟨e1, e2⟩ := List.cons.inj e
    cases v with
    | int i t =>
      have e1 : some i = some n := e1
      cases e1
      exact .cons ⟨t, rfl⟩ (vals_mk ns vs e2)
    | _ => cases e1
theorem tabi_mk {K : PySem.W.Frag} {h : Heap} {mg : Str → Option Value} (X : K.In h) (G : h.Ns mainGlobals mg) {name : Str} {ns : List Int} {a : Addr} {od : Option Addr} {osl : Array (Option Value)} {its : Array Value} {n : Nat}
    (e1 : PySem.W.nsIn K mainGlobals name = some (some (.ref a))) (e2 : K.lookup a = some ⟨.type "tuple", od, .seq its n, osl⟩) (e3 : its.toList.map (fun v => match v with | .int i _ => some i | _ => none) = ns.map some) (e5 : its.size ≤ 1000) : TabI K mg name ns :=
  ⟨a, PySem.W.mg_of X G e1, fun H => .inr ⟨_, its, n, e2, rfl, rfl, Nat.le_trans e5 (by decide), vals_mk ns its.toList e3⟩⟩
theorem got_of {K : PySem.W.Frag} {H : Hp} {a : Addr} {xs : List V} (hO : Only H) (h : SqL K H a xs) : Got K H a xs := by
  rcases h with (h | ⟨o, h⟩) | h
  · rcases hO a with z | ⟨o, ys, z⟩
    · rw [h] at z; cases z
    · rw [h] at z; cases z
  · exact .inl ⟨o, h⟩
  · exact .inr fun H' => .inr h
/-- what is asked, and what is due -/
def Pre (l : List Int) : Prop := (∃ ns : List Nat, l = nm ns) ∧ PyQl50.answers_asked l = true
theorem said : PySem.Challenge.rw_sixtybit_s01_answers.wellSaid = true := by decide +kernel
theorem pre_of (args : List PySem.W.WData) (h : PySem.Challenge.rw_sixtybit_s01_answers.pre args = true) : ∃ ns : List Int, args = [.list (ns.map PySem.W.WData.int)] ∧ ns.length ≤ sizeLine ∧ Pre ns := by
  obtain ⟨a, h1, h2, rfl⟩ := (PySem.W.OpenSpec.pre_iff said args).mp h
  obtain ⟨l, u⟩ := a
  have l' : List Int := l
  have hw : PySem.W.Codec.inList 0 16000 (PySem.W.Codec.inInt 0 18446744073709551615) (l : List Int) = true := (PySem.W.Codec.and_of h1).1
  have hw1 := PySem.W.Codec.and_of hw
  have hlen : (l : List Int).length ≤ 16000 := (PySem.W.Codec.inNat_iff.mp hw1.1).2
  refine ⟨(l : List Int), rfl, Nat.le_trans hlen (by decide), ⟨⟨(l : List Int).map Int.toNat, ?_⟩, h2⟩⟩
  unfold nm
  rw [List.map_map]
  have hz : ∀ z ∈ (l : List Int), 0 ≤ z := fun z hz => (PySem.W.Codec.inInt_iff.mp (List.all_eq_true.mp hw1.2 z hz)).1
  clear hlen hw hw1 h1 h2 h
  generalize (l : List Int) = m at *
  induction m with
  | nil => rfl
  | cons z r ih =>
    rw [List.map_cons, ← ih fun y hy => hz y (List.mem_cons_of_mem _ hy)]
    have := hz z (List.mem_cons_self ..)
    show z :: r = ((z.toNat : Nat) : Int) :: r
    rw [Int.toNat_of_nonneg this]
theorem post_of (ns : List Int) (hp : Pre ns) (h : PySem.Challenge.rw_sixtybit_s01_answers.pre [.list (ns.map PySem.W.WData.int)] = true) : PySem.Challenge.rw_sixtybit_s01_answers.post [.list (ns.map PySem.W.WData.int)] (.list ((PyQl50.answers ns).map PySem.W.WData.int)) = true := by
  obtain ⟨a, h1, h2, e⟩ := (PySem.W.OpenSpec.pre_iff said _).mp h
  obtain ⟨l, u⟩ := a
  have e1 : [PySem.W.WData.list (ns.map PySem.W.WData.int)] = [PySem.W.WData.list ((l : List Int).map PySem.W.WData.int)] := e
  have e2 : ns.map PySem.W.WData.int = (l : List Int).map PySem.W.WData.int := PySem.W.WData.list.inj (List.cons.inj e1).1
  have e3 : ns = (l : List Int) := PySem.W.Codec.map_inj PySem.W.WData.int (fun x y z => PySem.W.WData.int.inj z) _ _ e2
  subst e3
  exact (PySem.W.OpenSpec.post_iff said (a := (ns, u)) h1 _ []).mpr rfl
theorem sp_of (K : PySem.W.Frag) (H : Hp) (a : Addr) (l : List Int) (hp : Pre l) (hO : Only H) (hS : SqL K H a (l.map V.int)) : spAnswers K [.ref a] H (fun v H' => ∃ p, v = .ref p ∧ H' p = some (.lst ((PyQl50.answers l).map V.int))) fun _ _ _ => False := by
  obtain ⟨⟨ns, rfl⟩, ha⟩ := hp
  obtain ⟨cs, f, h1, h2, h3⟩ := asked_of ha
  exact ⟨a, ns, cs, f, rfl, got_of hO hS, h1, h3, fun p H' e => ⟨p, rfl, by rw [h2]; exact e⟩⟩
theorem walk {q : Program} {loose : List Str} {XP : (Str → Option Value) → Heap → Prop} {YP : World → Heap → Prop} {d : DefRec} {K : Params → PySem.W.Frag} (hdf : d.params.defaults = []) (hdn : d.name = "answers")
    (hY : ∀ (w : World) (h : Heap), YP w h → (K w.params).In h)
    (F : ∀ (w : World) (mg : Str → Option Value) (h : Heap), (K w.params).In h → h.Ns mainGlobals mg → ∃ C, Txt (K w.params) mg C) :
    PySem.W.WalkOS q loose XP YP PySem.Challenge.rw_sixtybit_s01_answers d [] (fun f vs => PySem.call f vs) :=
  L2.walk_os (k := 12) (x := "calls") (sp := spAnswers) (Pre := Pre) (out := PyQl50.answers) hdf ⟨rfl, by decide, by decide⟩ hY
    (fun w mg fa h KX G hmg base => by
      obtain ⟨C, T⟩ := F w mg h KX G
      obtain ⟨f, fd, hm, hk, hb, Fn⟩ := (ok_answers (P := PySem.Challenge.rw_sixtybit_s01_answers.prog) (w := w) (base := base) T).ex
      rw [hdn, hm] at hmg
      cases hmg
      exact ⟨fd, hb, Fn⟩)
    pre_of sp_of post_of
end Sx
set_option Elab.async false
set_option linter.all false
set_option maxRecDepth 100000
set_option maxHeartbeats 4000000
noncomputable section
namespace Sx
open PySem L2
/-! what the top leaves, written out -/
def z0 : Str := ⟨#[95, 95, 110, 97, 109, 101, 95, 95]⟩
def z1 : Str := ⟨#[98, 117, 105, 108, 116, 105, 110, 115]⟩
def z2 : Str := ⟨#[95, 95, 100, 111, 99, 95, 95]⟩
def z3 : Str := ⟨#[95, 95, 112, 97, 99, 107, 97, 103, 101, 95, 95]⟩
def z4 : Str := ⟨#[95, 95, 108, 111, 97, 100, 101, 114, 95, 95]⟩
def z5 : Str := ⟨#[95, 95, 115, 112, 101, 99, 95, 95]⟩
def z6 : Str := ⟨#[95, 95, 98, 117, 105, 108, 100, 95, 99, 108, 97, 115, 115, 95, 95]⟩
def z7 : Str := ⟨#[95, 95, 105, 109, 112, 111, 114, 116, 95, 95]⟩
def z8 : Str := ⟨#[97, 98, 115]⟩
def z9 : Str := ⟨#[97, 108, 108]⟩
def z10 : Str := ⟨#[97, 110, 121]⟩
def z11 : Str := ⟨#[97, 115, 99, 105, 105]⟩
def z12 : Str := ⟨#[98, 105, 110]⟩
def z13 : Str := ⟨#[98, 114, 101, 97, 107, 112, 111, 105, 110, 116]⟩
def z14 : Str := ⟨#[99, 97, 108, 108, 97, 98, 108, 101]⟩
def z15 : Str := ⟨#[99, 104, 114]⟩
def z16 : Str := ⟨#[99, 111, 109, 112, 105, 108, 101]⟩
def z17 : Str := ⟨#[100, 101, 108, 97, 116, 116, 114]⟩
def z18 : Str := ⟨#[100, 105, 114]⟩
def z19 : Str := ⟨#[100, 105, 118, 109, 111, 100]⟩
def z20 : Str := ⟨#[101, 118, 97, 108]⟩
def z21 : Str := ⟨#[101, 120, 101, 99]⟩
def z22 : Str := ⟨#[102, 111, 114, 109, 97, 116]⟩
def z23 : Str := ⟨#[103, 101, 116, 97, 116, 116, 114]⟩
def z24 : Str := ⟨#[103, 108, 111, 98, 97, 108, 115]⟩
def z25 : Str := ⟨#[104, 97, 115, 97, 116, 116, 114]⟩
def z26 : Str := ⟨#[104, 97, 115, 104]⟩
def z27 : Str := ⟨#[104, 101, 120]⟩
def z28 : Str := ⟨#[105, 100]⟩
def z29 : Str := ⟨#[105, 110, 112, 117, 116]⟩
def z30 : Str := ⟨#[105, 115, 105, 110, 115, 116, 97, 110, 99, 101]⟩
def z31 : Str := ⟨#[105, 115, 115, 117, 98, 99, 108, 97, 115, 115]⟩
def z32 : Str := ⟨#[105, 116, 101, 114]⟩
def z33 : Str := ⟨#[97, 105, 116, 101, 114]⟩
def z34 : Str := ⟨#[108, 101, 110]⟩
def z35 : Str := ⟨#[108, 111, 99, 97, 108, 115]⟩
def z36 : Str := ⟨#[109, 97, 120]⟩
def z37 : Str := ⟨#[109, 105, 110]⟩
def z38 : Str := ⟨#[110, 101, 120, 116]⟩
def z39 : Str := ⟨#[97, 110, 101, 120, 116]⟩
def z40 : Str := ⟨#[111, 99, 116]⟩
def z41 : Str := ⟨#[111, 114, 100]⟩
def z42 : Str := ⟨#[112, 111, 119]⟩
def z43 : Str := ⟨#[112, 114, 105, 110, 116]⟩
def z44 : Str := ⟨#[114, 101, 112, 114]⟩
def z45 : Str := ⟨#[114, 111, 117, 110, 100]⟩
def z46 : Str := ⟨#[115, 101, 116, 97, 116, 116, 114]⟩
def z47 : Str := ⟨#[115, 111, 114, 116, 101, 100]⟩
def z48 : Str := ⟨#[115, 117, 109]⟩
def z49 : Str := ⟨#[118, 97, 114, 115]⟩
def z50 : Str := ⟨#[78, 111, 110, 101]⟩
def z51 : Str := ⟨#[69, 108, 108, 105, 112, 115, 105, 115]⟩
def z52 : Str := ⟨#[78, 111, 116, 73, 109, 112, 108, 101, 109, 101, 110, 116, 101, 100]⟩
def z53 : Str := ⟨#[70, 97, 108, 115, 101]⟩
def z54 : Str := ⟨#[84, 114, 117, 101]⟩
def z55 : Str := ⟨#[98, 111, 111, 108]⟩
def z56 : Str := ⟨#[109, 101, 109, 111, 114, 121, 118, 105, 101, 119]⟩
def z57 : Str := ⟨#[98, 121, 116, 101, 97, 114, 114, 97, 121]⟩
def z58 : Str := ⟨#[98, 121, 116, 101, 115]⟩
def z59 : Str := ⟨#[99, 108, 97, 115, 115, 109, 101, 116, 104, 111, 100]⟩
def z60 : Str := ⟨#[99, 111, 109, 112, 108, 101, 120]⟩
def z61 : Str := ⟨#[100, 105, 99, 116]⟩
def z62 : Str := ⟨#[101, 110, 117, 109, 101, 114, 97, 116, 101]⟩
def z63 : Str := ⟨#[102, 105, 108, 116, 101, 114]⟩
def z64 : Str := ⟨#[102, 108, 111, 97, 116]⟩
def z65 : Str := ⟨#[102, 114, 111, 122, 101, 110, 115, 101, 116]⟩
def z66 : Str := ⟨#[112, 114, 111, 112, 101, 114, 116, 121]⟩
def z67 : Str := ⟨#[105, 110, 116]⟩
def z68 : Str := ⟨#[108, 105, 115, 116]⟩
def z69 : Str := ⟨#[109, 97, 112]⟩
def z70 : Str := ⟨#[111, 98, 106, 101, 99, 116]⟩
def z71 : Str := ⟨#[114, 97, 110, 103, 101]⟩
def z72 : Str := ⟨#[114, 101, 118, 101, 114, 115, 101, 100]⟩
def z73 : Str := ⟨#[115, 101, 116]⟩
def z74 : Str := ⟨#[115, 108, 105, 99, 101]⟩
def z75 : Str := ⟨#[115, 116, 97, 116, 105, 99, 109, 101, 116, 104, 111, 100]⟩
def z76 : Str := ⟨#[115, 116, 114]⟩
def z77 : Str := ⟨#[115, 117, 112, 101, 114]⟩
def z78 : Str := ⟨#[116, 117, 112, 108, 101]⟩
def z79 : Str := ⟨#[116, 121, 112, 101]⟩
def z80 : Str := ⟨#[122, 105, 112]⟩
def z81 : Str := ⟨#[95, 95, 100, 101, 98, 117, 103, 95, 95]⟩
def z82 : Str := ⟨#[66, 97, 115, 101, 69, 120, 99, 101, 112, 116, 105, 111, 110]⟩
def z83 : Str := ⟨#[66, 97, 115, 101, 69, 120, 99, 101, 112, 116, 105, 111, 110, 71, 114, 111, 117, 112]⟩
def z84 : Str := ⟨#[69, 120, 99, 101, 112, 116, 105, 111, 110]⟩
def z85 : Str := ⟨#[71, 101, 110, 101, 114, 97, 116, 111, 114, 69, 120, 105, 116]⟩
def z86 : Str := ⟨#[75, 101, 121, 98, 111, 97, 114, 100, 73, 110, 116, 101, 114, 114, 117, 112, 116]⟩
def z87 : Str := ⟨#[83, 121, 115, 116, 101, 109, 69, 120, 105, 116]⟩
def z88 : Str := ⟨#[65, 114, 105, 116, 104, 109, 101, 116, 105, 99, 69, 114, 114, 111, 114]⟩
def z89 : Str := ⟨#[65, 115, 115, 101, 114, 116, 105, 111, 110, 69, 114, 114, 111, 114]⟩
def z90 : Str := ⟨#[65, 116, 116, 114, 105, 98, 117, 116, 101, 69, 114, 114, 111, 114]⟩
def z91 : Str := ⟨#[66, 117, 102, 102, 101, 114, 69, 114, 114, 111, 114]⟩
def z92 : Str := ⟨#[69, 79, 70, 69, 114, 114, 111, 114]⟩
def z93 : Str := ⟨#[73, 109, 112, 111, 114, 116, 69, 114, 114, 111, 114]⟩
def z94 : Str := ⟨#[76, 111, 111, 107, 117, 112, 69, 114, 114, 111, 114]⟩
def z95 : Str := ⟨#[77, 101, 109, 111, 114, 121, 69, 114, 114, 111, 114]⟩
def z96 : Str := ⟨#[78, 97, 109, 101, 69, 114, 114, 111, 114]⟩
def z97 : Str := ⟨#[79, 83, 69, 114, 114, 111, 114]⟩
def z98 : Str := ⟨#[82, 101, 102, 101, 114, 101, 110, 99, 101, 69, 114, 114, 111, 114]⟩
def z99 : Str := ⟨#[82, 117, 110, 116, 105, 109, 101, 69, 114, 114, 111, 114]⟩
def z100 : Str := ⟨#[83, 116, 111, 112, 65, 115, 121, 110, 99, 73, 116, 101, 114, 97, 116, 105, 111, 110]⟩
def z101 : Str := ⟨#[83, 116, 111, 112, 73, 116, 101, 114, 97, 116, 105, 111, 110]⟩
def z102 : Str := ⟨#[83, 121, 110, 116, 97, 120, 69, 114, 114, 111, 114]⟩
def z103 : Str := ⟨#[83, 121, 115, 116, 101, 109, 69, 114, 114, 111, 114]⟩
def z104 : Str := ⟨#[84, 121, 112, 101, 69, 114, 114, 111, 114]⟩
def z105 : Str := ⟨#[86, 97, 108, 117, 101, 69, 114, 114, 111, 114]⟩
def z106 : Str := ⟨#[87, 97, 114, 110, 105, 110, 103]⟩
def z107 : Str := ⟨#[70, 108, 111, 97, 116, 105, 110, 103, 80, 111, 105, 110, 116, 69, 114, 114, 111, 114]⟩
def z108 : Str := ⟨#[79, 118, 101, 114, 102, 108, 111, 119, 69, 114, 114, 111, 114]⟩
def z109 : Str := ⟨#[90, 101, 114, 111, 68, 105, 118, 105, 115, 105, 111, 110, 69, 114, 114, 111, 114]⟩
def z110 : Str := ⟨#[66, 121, 116, 101, 115, 87, 97, 114, 110, 105, 110, 103]⟩
def z111 : Str := ⟨#[68, 101, 112, 114, 101, 99, 97, 116, 105, 111, 110, 87, 97, 114, 110, 105, 110, 103]⟩
def z112 : Str := ⟨#[69, 110, 99, 111, 100, 105, 110, 103, 87, 97, 114, 110, 105, 110, 103]⟩
def z113 : Str := ⟨#[70, 117, 116, 117, 114, 101, 87, 97, 114, 110, 105, 110, 103]⟩
def z114 : Str := ⟨#[73, 109, 112, 111, 114, 116, 87, 97, 114, 110, 105, 110, 103]⟩
def z115 : Str := ⟨#[80, 101, 110, 100, 105, 110, 103, 68, 101, 112, 114, 101, 99, 97, 116, 105, 111, 110, 87, 97, 114, 110, 105, 110, 103]⟩
def z116 : Str := ⟨#[82, 101, 115, 111, 117, 114, 99, 101, 87, 97, 114, 110, 105, 110, 103]⟩
def z117 : Str := ⟨#[82, 117, 110, 116, 105, 109, 101, 87, 97, 114, 110, 105, 110, 103]⟩
def z118 : Str := ⟨#[83, 121, 110, 116, 97, 120, 87, 97, 114, 110, 105, 110, 103]⟩
def z119 : Str := ⟨#[85, 110, 105, 99, 111, 100, 101, 87, 97, 114, 110, 105, 110, 103]⟩
def z120 : Str := ⟨#[85, 115, 101, 114, 87, 97, 114, 110, 105, 110, 103]⟩
def z121 : Str := ⟨#[66, 108, 111, 99, 107, 105, 110, 103, 73, 79, 69, 114, 114, 111, 114]⟩
def z122 : Str := ⟨#[67, 104, 105, 108, 100, 80, 114, 111, 99, 101, 115, 115, 69, 114, 114, 111, 114]⟩
def z123 : Str := ⟨#[67, 111, 110, 110, 101, 99, 116, 105, 111, 110, 69, 114, 114, 111, 114]⟩
def z124 : Str := ⟨#[70, 105, 108, 101, 69, 120, 105, 115, 116, 115, 69, 114, 114, 111, 114]⟩
def z125 : Str := ⟨#[70, 105, 108, 101, 78, 111, 116, 70, 111, 117, 110, 100, 69, 114, 114, 111, 114]⟩
def z126 : Str := ⟨#[73, 110, 116, 101, 114, 114, 117, 112, 116, 101, 100, 69, 114, 114, 111, 114]⟩
def z127 : Str := ⟨#[73, 115, 65, 68, 105, 114, 101, 99, 116, 111, 114, 121, 69, 114, 114, 111, 114]⟩
def z128 : Str := ⟨#[78, 111, 116, 65, 68, 105, 114, 101, 99, 116, 111, 114, 121, 69, 114, 114, 111, 114]⟩
def z129 : Str := ⟨#[80, 101, 114, 109, 105, 115, 115, 105, 111, 110, 69, 114, 114, 111, 114]⟩
def z130 : Str := ⟨#[80, 114, 111, 99, 101, 115, 115, 76, 111, 111, 107, 117, 112, 69, 114, 114, 111, 114]⟩
def z131 : Str := ⟨#[84, 105, 109, 101, 111, 117, 116, 69, 114, 114, 111, 114]⟩
def z132 : Str := ⟨#[73, 110, 100, 101, 110, 116, 97, 116, 105, 111, 110, 69, 114, 114, 111, 114]⟩
def z133 : Str := ⟨#[95, 73, 110, 99, 111, 109, 112, 108, 101, 116, 101, 73, 110, 112, 117, 116, 69, 114, 114, 111, 114]⟩
def z134 : Str := ⟨#[73, 110, 100, 101, 120, 69, 114, 114, 111, 114]⟩
def z135 : Str := ⟨#[75, 101, 121, 69, 114, 114, 111, 114]⟩
def z136 : Str := ⟨#[77, 111, 100, 117, 108, 101, 78, 111, 116, 70, 111, 117, 110, 100, 69, 114, 114, 111, 114]⟩
def z137 : Str := ⟨#[78, 111, 116, 73, 109, 112, 108, 101, 109, 101, 110, 116, 101, 100, 69, 114, 114, 111, 114]⟩
def z138 : Str := ⟨#[80, 121, 116, 104, 111, 110, 70, 105, 110, 97, 108, 105, 122, 97, 116, 105, 111, 110, 69, 114, 114, 111, 114]⟩
def z139 : Str := ⟨#[82, 101, 99, 117, 114, 115, 105, 111, 110, 69, 114, 114, 111, 114]⟩
def z140 : Str := ⟨#[85, 110, 98, 111, 117, 110, 100, 76, 111, 99, 97, 108, 69, 114, 114, 111, 114]⟩
def z141 : Str := ⟨#[85, 110, 105, 99, 111, 100, 101, 69, 114, 114, 111, 114]⟩
def z142 : Str := ⟨#[66, 114, 111, 107, 101, 110, 80, 105, 112, 101, 69, 114, 114, 111, 114]⟩
def z143 : Str := ⟨#[67, 111, 110, 110, 101, 99, 116, 105, 111, 110, 65, 98, 111, 114, 116, 101, 100, 69, 114, 114, 111, 114]⟩
def z144 : Str := ⟨#[67, 111, 110, 110, 101, 99, 116, 105, 111, 110, 82, 101, 102, 117, 115, 101, 100, 69, 114, 114, 111, 114]⟩
def z145 : Str := ⟨#[67, 111, 110, 110, 101, 99, 116, 105, 111, 110, 82, 101, 115, 101, 116, 69, 114, 114, 111, 114]⟩
def z146 : Str := ⟨#[84, 97, 98, 69, 114, 114, 111, 114]⟩
def z147 : Str := ⟨#[85, 110, 105, 99, 111, 100, 101, 68, 101, 99, 111, 100, 101, 69, 114, 114, 111, 114]⟩
def z148 : Str := ⟨#[85, 110, 105, 99, 111, 100, 101, 69, 110, 99, 111, 100, 101, 69, 114, 114, 111, 114]⟩
def z149 : Str := ⟨#[85, 110, 105, 99, 111, 100, 101, 84, 114, 97, 110, 115, 108, 97, 116, 101, 69, 114, 114, 111, 114]⟩
def z150 : Str := ⟨#[69, 120, 99, 101, 112, 116, 105, 111, 110, 71, 114, 111, 117, 112]⟩
def z151 : Str := ⟨#[69, 110, 118, 105, 114, 111, 110, 109, 101, 110, 116, 69, 114, 114, 111, 114]⟩
def z152 : Str := ⟨#[73, 79, 69, 114, 114, 111, 114]⟩
def z153 : Str := ⟨#[111, 112, 101, 110]⟩
def z154 : Str := ⟨#[113, 117, 105, 116]⟩
def z155 : Str := ⟨#[101, 120, 105, 116]⟩
def z156 : Str := ⟨#[99, 111, 112, 121, 114, 105, 103, 104, 116]⟩
def z157 : Str := ⟨#[99, 114, 101, 100, 105, 116, 115]⟩
def z158 : Str := ⟨#[108, 105, 99, 101, 110, 115, 101]⟩
def z159 : Str := ⟨#[104, 101, 108, 112]⟩
def z160 : Str := ⟨#[95, 95, 109, 97, 105, 110, 95, 95]⟩
def z161 : Str := ⟨#[115, 105, 120, 116, 121, 98, 105, 116, 46, 109, 97, 99, 104, 105, 110, 101]⟩
def z162 : Str := ⟨#[95, 95, 97, 110, 110, 111, 116, 97, 116, 105, 111, 110, 115, 95, 95]⟩
def z163 : Str := ⟨#[95, 95, 98, 117, 105, 108, 116, 105, 110, 115, 95, 95]⟩
def z164 : Str := ⟨#[95, 95, 102, 105, 108, 101, 95, 95]⟩
def z165 : Str := ⟨#[47, 99, 108, 97, 105, 109, 47, 99, 117, 116, 46, 112, 121]⟩
def z166 : Str := ⟨#[95, 95, 99, 97, 99, 104, 101, 100, 95, 95]⟩
def z167 : Str := ⟨#[79, 78, 69, 83, 54, 48]⟩
def z168 : Str := ⟨#[83, 73, 71, 78, 54, 48]⟩
def z169 : Str := ⟨#[79, 78, 69, 83, 49, 56]⟩
def z170 : Str := ⟨#[83, 73, 71, 78, 49, 56]⟩
def z171 : Str := ⟨#[77, 69, 77, 79, 82, 89, 95, 87, 79, 82, 68, 83]⟩
def z172 : Str := ⟨#[112, 108, 117, 115]⟩
def z173 : Str := ⟨#[109, 105, 110, 117, 115]⟩
def z174 : Str := ⟨#[98, 101, 108, 111, 119, 95, 122, 101, 114, 111]⟩
def z175 : Str := ⟨#[115, 105, 122, 101, 95, 111, 102]⟩
def z176 : Str := ⟨#[119, 105, 116, 104, 95, 115, 105, 103, 110]⟩
def z177 : Str := ⟨#[105, 110, 95, 54, 48, 95, 98, 105, 116, 115]⟩
def z178 : Str := ⟨#[108, 101, 102, 116, 95, 97, 114, 111, 117, 110, 100]⟩
def z179 : Str := ⟨#[114, 105, 103, 104, 116, 95, 119, 105, 116, 104, 95, 115, 105, 103, 110]⟩
def z180 : Str := ⟨#[111, 110, 101, 115, 95, 105, 110]⟩
def z181 : Str := ⟨#[117, 112, 112, 101, 114, 95, 111, 110, 101, 115]⟩
def z182 : Str := ⟨#[70, 73, 82, 83, 84, 95, 66]⟩
def z183 : Str := ⟨#[70, 73, 82, 83, 84, 95, 88]⟩
def z184 : Str := ⟨#[78, 69, 88, 84, 95, 87, 79, 82, 68]⟩
def z185 : Str := ⟨#[76, 65, 83, 84, 95, 84, 79, 76, 68]⟩
def z186 : Str := ⟨#[76, 65, 83, 84, 95, 83, 69, 84]⟩
def z187 : Str := ⟨#[110, 117, 109, 98, 101, 114, 95, 105, 110]⟩
def z188 : Str := ⟨#[112, 117, 116, 95, 110, 117, 109, 98, 101, 114]⟩
def z189 : Str := ⟨#[68, 79, 78, 69]⟩
def z190 : Str := ⟨#[83, 84, 79, 80, 80, 69, 68]⟩
def z191 : Str := ⟨#[78, 79, 95, 87, 79, 82, 68]⟩
def z192 : Str := ⟨#[67, 85, 84, 95, 79, 70, 70]⟩
def z193 : Str := ⟨#[78, 79, 95, 73, 78, 83, 84, 82, 85, 67, 84, 73, 79, 78]⟩
def z194 : Str := ⟨#[97, 95, 112, 108, 117, 115, 95, 110, 117, 109, 98, 101, 114]⟩
def z195 : Str := ⟨#[98, 95, 112, 108, 117, 115, 95, 110, 117, 109, 98, 101, 114]⟩
def z196 : Str := ⟨#[120, 95, 112, 108, 117, 115, 95, 110, 117, 109, 98, 101, 114]⟩
def z197 : Str := ⟨#[120, 95, 112, 108, 117, 115, 95, 98]⟩
def z198 : Str := ⟨#[97, 95, 112, 108, 117, 115, 95, 98]⟩
def z199 : Str := ⟨#[97, 95, 109, 105, 110, 117, 115, 95, 98]⟩
def z200 : Str := ⟨#[98, 95, 112, 108, 117, 115, 95, 98]⟩
def z201 : Str := ⟨#[98, 95, 109, 105, 110, 117, 115, 95, 98]⟩
def z202 : Str := ⟨#[83, 85, 77, 83]⟩
def z203 : Str := ⟨#[115, 101, 116, 95, 97]⟩
def z204 : Str := ⟨#[73, 78, 70, 73, 78, 73, 84, 69]⟩
def z205 : Str := ⟨#[73, 78, 68, 69, 70, 73, 78, 73, 84, 69]⟩
def z206 : Str := ⟨#[73, 78, 70, 73, 78, 73, 84, 69, 95, 87, 79, 82, 68]⟩
def z207 : Str := ⟨#[73, 78, 68, 69, 70, 73, 78, 73, 84, 69, 95, 87, 79, 82, 68]⟩
def z208 : Str := ⟨#[67, 79, 69, 70, 70, 73, 67, 73, 69, 78, 84]⟩
def z209 : Str := ⟨#[84, 79, 80, 95, 66, 73, 84]⟩
def z210 : Str := ⟨#[85, 80, 80, 69, 82]⟩
def z211 : Str := ⟨#[76, 79, 87, 69, 82]⟩
def z212 : Str := ⟨#[82, 79, 85, 78, 68, 69, 68]⟩
def z213 : Str := ⟨#[101, 120, 112, 111, 110, 101, 110, 116, 95, 102, 105, 101, 108, 100]⟩
def z214 : Str := ⟨#[101, 120, 112, 111, 110, 101, 110, 116]⟩
def z215 : Str := ⟨#[99, 111, 101, 102, 102, 105, 99, 105, 101, 110, 116]⟩
def z216 : Str := ⟨#[105, 115, 95, 122, 101, 114, 111]⟩
def z217 : Str := ⟨#[105, 110, 102, 105, 110, 105, 116, 101]⟩
def z218 : Str := ⟨#[97, 115, 95, 119, 111, 114, 100]⟩
def z219 : Str := ⟨#[104, 97, 108, 102]⟩
def z220 : Str := ⟨#[116, 111, 116, 97, 108]⟩
def z221 : Str := ⟨#[105, 110, 102, 105, 110, 105, 116, 101, 95, 116, 111, 116, 97, 108]⟩
def z222 : Str := ⟨#[97, 108, 105, 103, 110, 101, 100]⟩
def z223 : Str := ⟨#[112, 114, 111, 100, 117, 99, 116]⟩
def z224 : Str := ⟨#[113, 117, 111, 116, 105, 101, 110, 116]⟩
def z225 : Str := ⟨#[102, 105, 110, 105, 116, 101, 95, 113, 117, 111, 116, 105, 101, 110, 116]⟩
def z226 : Str := ⟨#[110, 111, 114, 109, 97, 108, 105, 122, 105, 110, 103, 95, 115, 104, 105, 102, 116]⟩
def z227 : Str := ⟨#[110, 111, 114, 109, 97, 108, 105, 122, 101, 100]⟩
def z228 : Str := ⟨#[115, 116, 111, 112]⟩
def z229 : Str := ⟨#[108, 101, 97, 118, 101, 95, 119, 97, 121, 95, 98, 97, 99, 107]⟩
def z230 : Str := ⟨#[103, 111, 95, 111, 110, 95, 102, 114, 111, 109, 95, 98]⟩
def z231 : Str := ⟨#[103, 111, 95, 111, 110, 95, 98, 121, 95, 120]⟩
def z232 : Str := ⟨#[103, 111, 95, 111, 110, 95, 105, 102, 95, 115, 97, 109, 101]⟩
def z233 : Str := ⟨#[103, 111, 95, 111, 110, 95, 117, 110, 108, 101, 115, 115, 95, 115, 97, 109, 101]⟩
def z234 : Str := ⟨#[103, 111, 95, 111, 110, 95, 117, 110, 108, 101, 115, 115, 95, 108, 101, 115, 115]⟩
def z235 : Str := ⟨#[103, 111, 95, 111, 110, 95, 105, 102, 95, 108, 101, 115, 115]⟩
def z236 : Str := ⟨#[119, 111, 114, 100, 95, 104, 111, 108, 100, 115]⟩
def z237 : Str := ⟨#[74, 85, 77, 80, 83]⟩
def z238 : Str := ⟨#[99, 111, 112, 105, 101, 100]⟩
def z239 : Str := ⟨#[98, 111, 116, 104]⟩
def z240 : Str := ⟨#[101, 105, 116, 104, 101, 114]⟩
def z241 : Str := ⟨#[111, 110, 101, 95, 97, 108, 111, 110, 101]⟩
def z242 : Str := ⟨#[99, 111, 109, 112, 108, 101, 109, 101, 110, 116]⟩
def z243 : Str := ⟨#[98, 111, 116, 104, 95, 99, 111, 109, 112, 108, 101, 109, 101, 110, 116]⟩
def z244 : Str := ⟨#[101, 105, 116, 104, 101, 114, 95, 99, 111, 109, 112, 108, 101, 109, 101, 110, 116]⟩
def z245 : Str := ⟨#[111, 110, 101, 95, 97, 108, 111, 110, 101, 95, 99, 111, 109, 112, 108, 101, 109, 101, 110, 116]⟩
def z246 : Str := ⟨#[108, 101, 102, 116, 95, 98, 121, 95, 106, 107]⟩
def z247 : Str := ⟨#[114, 105, 103, 104, 116, 95, 98, 121, 95, 106, 107]⟩
def z248 : Str := ⟨#[108, 101, 102, 116, 95, 98, 121, 95, 98]⟩
def z249 : Str := ⟨#[114, 105, 103, 104, 116, 95, 98, 121, 95, 98]⟩
def z250 : Str := ⟨#[110, 111, 114, 109, 97, 108, 105, 122, 101]⟩
def z251 : Str := ⟨#[110, 111, 114, 109, 97, 108, 105, 122, 101, 95, 114, 111, 117, 110, 100, 101, 100]⟩
def z252 : Str := ⟨#[117, 110, 112, 97, 99, 107]⟩
def z253 : Str := ⟨#[112, 97, 99, 107]⟩
def z254 : Str := ⟨#[117, 112, 112, 101, 114, 95, 116, 111, 116, 97, 108]⟩
def z255 : Str := ⟨#[117, 112, 112, 101, 114, 95, 100, 105, 102, 102, 101, 114, 101, 110, 99, 101]⟩
def z256 : Str := ⟨#[108, 111, 119, 101, 114, 95, 116, 111, 116, 97, 108]⟩
def z257 : Str := ⟨#[108, 111, 119, 101, 114, 95, 100, 105, 102, 102, 101, 114, 101, 110, 99, 101]⟩
def z258 : Str := ⟨#[114, 111, 117, 110, 100, 101, 100, 95, 116, 111, 116, 97, 108]⟩
def z259 : Str := ⟨#[114, 111, 117, 110, 100, 101, 100, 95, 100, 105, 102, 102, 101, 114, 101, 110, 99, 101]⟩
def z260 : Str := ⟨#[119, 104, 111, 108, 101, 95, 116, 111, 116, 97, 108]⟩
def z261 : Str := ⟨#[119, 104, 111, 108, 101, 95, 100, 105, 102, 102, 101, 114, 101, 110, 99, 101]⟩
def z262 : Str := ⟨#[117, 112, 112, 101, 114, 95, 112, 114, 111, 100, 117, 99, 116]⟩
def z263 : Str := ⟨#[114, 111, 117, 110, 100, 101, 100, 95, 112, 114, 111, 100, 117, 99, 116]⟩
def z264 : Str := ⟨#[108, 111, 119, 101, 114, 95, 112, 114, 111, 100, 117, 99, 116]⟩
def z265 : Str := ⟨#[109, 97, 115, 107]⟩
def z266 : Str := ⟨#[112, 108, 97, 105, 110, 95, 113, 117, 111, 116, 105, 101, 110, 116]⟩
def z267 : Str := ⟨#[114, 111, 117, 110, 100, 101, 100, 95, 113, 117, 111, 116, 105, 101, 110, 116]⟩
def z268 : Str := ⟨#[117, 110, 99, 104, 97, 110, 103, 101, 100]⟩
def z269 : Str := ⟨#[99, 111, 117, 110, 116, 95, 111, 102, 95, 111, 110, 101, 115]⟩
def z270 : Str := ⟨#[82, 69, 83, 85, 76, 84, 83]⟩
def z271 : Str := ⟨#[77, 69, 77, 79, 82, 89, 95, 80, 65, 82, 84, 83]⟩
def z272 : Str := ⟨#[80, 65, 82, 84, 83]⟩
def z273 : Str := ⟨#[115, 116, 101, 112]⟩
def z274 : Str := ⟨#[112, 101, 114, 102, 111, 114, 109]⟩
def z275 : Str := ⟨#[114, 117, 110]⟩
def z276 : Str := ⟨#[76, 79, 65, 68]⟩
def z277 : Str := ⟨#[76, 69, 78, 71, 84, 72, 83]⟩
def z278 : Str := ⟨#[77, 79, 83, 84, 95, 83, 84, 69, 80, 83]⟩
def z279 : Str := ⟨#[77, 97, 99, 104, 105, 110, 101]⟩
def z280 : Str := ⟨#[98, 101, 103, 105, 110, 95, 97, 110, 101, 119]⟩
def z281 : Str := ⟨#[108, 111, 97, 100]⟩
def z282 : Str := ⟨#[108, 111, 111, 107]⟩
def z283 : Str := ⟨#[114, 117, 110, 95, 115, 116, 101, 112, 115]⟩
def z284 : Str := ⟨#[119, 104, 121, 95, 101, 110, 100, 101, 100]⟩
def z285 : Str := ⟨#[116, 101, 108, 108, 95, 110, 117, 109, 98, 101, 114]⟩
def z286 : Str := ⟨#[115, 101, 116, 95, 110, 117, 109, 98, 101, 114]⟩
def z287 : Str := ⟨#[67, 65, 76, 76, 83]⟩
def z288 : Str := ⟨#[97, 110, 115, 119, 101, 114, 115]⟩
def z289 : Str := ⟨#[108, 101, 110, 103, 116, 104, 95, 111, 102, 95, 99, 97, 108, 108]⟩
def z290 : Str := ⟨#[60, 109, 111, 100, 117, 108, 101, 62]⟩
def z291 : Str := ⟨#[97]⟩
def z292 : Str := ⟨#[98]⟩
def z293 : Str := ⟨#[111, 110, 101, 115]⟩
def z294 : Str := ⟨#[115, 105, 120, 116, 121, 98, 105, 116, 46, 119, 111, 114, 100, 115]⟩
def z295 : Str := ⟨#[119, 111, 114, 100]⟩
def z296 : Str := ⟨#[110, 101, 103, 97, 116, 105, 118, 101]⟩
def z297 : Str := ⟨#[110, 117, 109, 98, 101, 114]⟩
def z298 : Str := ⟨#[110]⟩
def z299 : Str := ⟨#[116, 117, 114, 110, 101, 100]⟩
def z300 : Str := ⟨#[102, 111, 117, 110, 100]⟩
def z301 : Str := ⟨#[114, 101, 115, 116]⟩
def z302 : Str := ⟨#[109]⟩
def z303 : Str := ⟨#[119, 104, 105, 99, 104]⟩
def z304 : Str := ⟨#[115, 105, 120, 116, 121, 98, 105, 116, 46, 99, 101, 108, 108, 115]⟩
def z305 : Str := ⟨#[118, 97, 108, 117, 101]⟩
def z306 : Str := ⟨#[106]⟩
def z307 : Str := ⟨#[107]⟩
def z308 : Str := ⟨#[115, 105, 120, 116, 121, 98, 105, 116, 46, 97, 100, 100, 114, 101, 115, 115, 101, 115]⟩
def z309 : Str := ⟨#[105]⟩
def z310 : Str := ⟨#[97, 100, 100, 114, 101, 115, 115]⟩
def z311 : Str := ⟨#[115, 105, 120, 116, 121, 98, 105, 116, 46, 101, 120, 112, 111, 110, 101, 110, 116, 115]⟩
def z312 : Str := ⟨#[102, 105, 101, 108, 100]⟩
def z313 : Str := ⟨#[99]⟩
def z314 : Str := ⟨#[101]⟩
def z315 : Str := ⟨#[114]⟩
def z316 : Str := ⟨#[102]⟩
def z317 : Str := ⟨#[108, 101, 102, 116]⟩
def z318 : Str := ⟨#[114, 105, 103, 104, 116]⟩
def z319 : Str := ⟨#[102, 105, 101, 108, 100, 115]⟩
def z320 : Str := ⟨#[103, 114, 101, 97, 116, 101, 114]⟩
def z321 : Str := ⟨#[103]⟩
def z322 : Str := ⟨#[115, 105, 122, 101]⟩
def z323 : Str := ⟨#[100]⟩
def z324 : Str := ⟨#[114, 111, 117, 110, 100, 101, 100]⟩
def z325 : Str := ⟨#[115]⟩
def z326 : Str := ⟨#[113]⟩
def z327 : Str := ⟨#[115, 105, 120, 116, 121, 98, 105, 116, 46, 106, 117, 109, 112, 115]⟩
def z328 : Str := ⟨#[98, 101, 104, 105, 110, 100]⟩
def z329 : Str := ⟨#[101, 118, 101, 110]⟩
def z330 : Str := ⟨#[115, 105, 120, 116, 121, 98, 105, 116, 46, 114, 101, 115, 117, 108, 116, 115]⟩
def z331 : Str := ⟨#[97, 116]⟩
def z332 : Str := ⟨#[112, 108, 97, 99, 101]⟩
def z333 : Str := ⟨#[112, 97, 114, 116]⟩
def z334 : Str := ⟨#[102, 109]⟩
def z335 : Str := ⟨#[119, 104, 121]⟩
def z336 : Str := ⟨#[115, 105, 120, 116, 121, 98, 105, 116, 46, 115, 116, 101, 112, 115]⟩
def z337 : Str := ⟨#[100, 111, 110, 101]⟩
def z338 : Str := ⟨#[95, 95, 109, 111, 100, 117, 108, 101, 95, 95]⟩
def z339 : Str := ⟨#[95, 95, 113, 117, 97, 108, 110, 97, 109, 101, 95, 95]⟩
def z340 : Str := ⟨#[95, 95, 102, 105, 114, 115, 116, 108, 105, 110, 101, 110, 111, 95, 95]⟩
def z341 : Str := ⟨#[95, 95, 105, 110, 105, 116, 95, 95]⟩
def z342 : Str := ⟨#[98, 101, 103, 105, 110]⟩
def z343 : Str := ⟨#[115, 101, 116, 95, 98]⟩
def z344 : Str := ⟨#[95, 95, 115, 116, 97, 116, 105, 99, 95, 97, 116, 116, 114, 105, 98, 117, 116, 101, 115, 95, 95]⟩
def z345 : Str := ⟨#[115, 101, 108, 102]⟩
def z346 : Str := ⟨#[77, 97, 99, 104, 105, 110, 101, 46, 95, 95, 105, 110, 105, 116, 95, 95]⟩
def z347 : Str := ⟨#[77, 97, 99, 104, 105, 110, 101, 46, 98, 101, 103, 105, 110]⟩
def z348 : Str := ⟨#[77, 97, 99, 104, 105, 110, 101, 46, 115, 101, 116, 95, 98]⟩
def z349 : Str := ⟨#[109, 101, 109, 111, 114, 121]⟩
def z350 : Str := ⟨#[120]⟩
def z351 : Str := ⟨#[95, 95, 100, 105, 99, 116, 95, 95]⟩
def z352 : Str := ⟨#[95, 95, 119, 101, 97, 107, 114, 101, 102, 95, 95]⟩
def z353 : Str := ⟨#[99, 97, 108, 108]⟩
def z354 : Str := ⟨#[119, 111, 114, 100, 115]⟩
def z355 : Str := ⟨#[99, 97, 108, 108, 115]⟩
def z356 : Str := ⟨#[116, 111, 108, 100]⟩
def z357 : Str := ⟨#[97, 110, 115, 119, 101, 114]⟩
def en (P : Params) (z : Str) (t : Tok) (v : Value) : DictEntry := ⟨PyData.keyHash P z, .str z t, v⟩
def fo2 (g b : Addr) (name qual : Str) (params : Arguments) (body : List Stmt) (scope : Scope) (dV kV doc pm : Value) (an : Option Addr) (cdv ct : Value) : FuncData :=
  { PySem.W.fnOf name qual params body scope dV kV doc pm an cdv ct with globals := g, builtins := b }
def tp (p : Program) (i : Nat) : Stmt := p.main.body.getD i (.Pass ⟨0, 0, 0, 0⟩)
def ho0 (p : Program) (P : Params) : List Obj := [
  ⟨(.type "dict"), none, (.dict #[en P z0 1 (.str z1 160), en P z2 2 (.builtin "builtins.__doc__:str#opaque"), en P z3 3 (.builtin "builtins.__package__:str#opaque"), en P z4 4 (.builtin "builtins.__loader__:shared#opaque"), en P z5 5 (.builtin "builtins.__spec__#opaque"), en P z6 6 (.builtin "__build_class__"), en P z7 7 (.builtin "__import__"), en P z8 8 (.builtin "abs"), en P z9 9 (.builtin "all"), en P z10 10 (.builtin "any"), en P z11 11 (.builtin "ascii"), en P z12 12 (.builtin "bin"), en P z13 13 (.builtin "breakpoint"), en P z14 14 (.builtin "callable"), en P z15 15 (.builtin "chr"), en P z16 16 (.builtin "compile"), en P z17 17 (.builtin "delattr"), en P z18 18 (.builtin "dir"), en P z19 19 (.builtin "divmod"), en P z20 20 (.builtin "eval"), en P z21 21 (.builtin "exec"), en P z22 22 (.builtin "format"), en P z23 23 (.builtin "getattr"), en P z24 24 (.builtin "globals"), en P z25 25 (.builtin "hasattr"), en P z26 26 (.builtin "hash"), en P z27 27 (.builtin "hex"), en P z28 28 (.builtin "id"), en P z29 29 (.builtin "input"), en P z30 30 (.builtin "isinstance"), en P z31 31 (.builtin "issubclass"), en P z32 32 (.builtin "iter"), en P z33 33 (.builtin "aiter"), en P z34 34 (.builtin "len"), en P z35 35 (.builtin "locals"), en P z36 36 (.builtin "max"), en P z37 37 (.builtin "min"), en P z38 38 (.builtin "next"), en P z39 39 (.builtin "anext"), en P z40 40 (.builtin "oct"), en P z41 41 (.builtin "ord"), en P z42 42 (.builtin "pow"), en P z43 43 (.builtin "print"), en P z44 44 (.builtin "repr"), en P z45 45 (.builtin "round"), en P z46 46 (.builtin "setattr"), en P z47 47 (.builtin "sorted"), en P z48 48 (.builtin "sum"), en P z49 49 (.builtin "vars"), en P z50 50 .none, en P z51 51 .ellipsis, en P z52 52 .notImplemented, en P z53 53 (.bool false), en P z54 54 (.bool true), en P z55 55 (.type "bool"), en P z56 56 (.type "memoryview"), en P z57 57 (.type "bytearray"), en P z58 58 (.type "bytes"), en P z59 59 (.type "classmethod"), en P z60 60 (.type "complex"), en P z61 61 (.type "dict"), en P z62 62 (.type "enumerate"), en P z63 63 (.type "filter"), en P z64 64 (.type "float"), en P z65 65 (.type "frozenset"), en P z66 66 (.type "property"), en P z67 67 (.type "int"), en P z68 68 (.type "list"), en P z69 69 (.type "map"), en P z70 70 (.type "object"), en P z71 71 (.type "range"), en P z72 72 (.type "reversed"), en P z73 73 (.type "set"), en P z74 74 (.type "slice"), en P z75 75 (.type "staticmethod"), en P z76 76 (.type "str"), en P z77 77 (.type "super"), en P z78 78 (.type "tuple"), en P z79 79 (.type "type"), en P z80 80 (.type "zip"), en P z81 81 (.bool true), en P z82 82 (.type "BaseException"), en P z83 83 (.type "BaseExceptionGroup"), en P z84 84 (.type "Exception"), en P z85 85 (.type "GeneratorExit"), en P z86 86 (.type "KeyboardInterrupt"), en P z87 87 (.type "SystemExit"), en P z88 88 (.type "ArithmeticError"), en P z89 89 (.type "AssertionError"), en P z90 90 (.type "AttributeError"), en P z91 91 (.type "BufferError"), en P z92 92 (.type "EOFError"), en P z93 93 (.type "ImportError"), en P z94 94 (.type "LookupError"), en P z95 95 (.type "MemoryError"), en P z96 96 (.type "NameError"), en P z97 97 (.type "OSError"), en P z98 98 (.type "ReferenceError"), en P z99 99 (.type "RuntimeError"), en P z100 100 (.type "StopAsyncIteration"), en P z101 101 (.type "StopIteration"), en P z102 102 (.type "SyntaxError"), en P z103 103 (.type "SystemError"), en P z104 104 (.type "TypeError"), en P z105 105 (.type "ValueError"), en P z106 106 (.type "Warning"), en P z107 107 (.type "FloatingPointError"), en P z108 108 (.type "OverflowError"), en P z109 109 (.type "ZeroDivisionError"), en P z110 110 (.type "BytesWarning"), en P z111 111 (.type "DeprecationWarning"), en P z112 112 (.type "EncodingWarning"), en P z113 113 (.type "FutureWarning"), en P z114 114 (.type "ImportWarning"), en P z115 115 (.type "PendingDeprecationWarning"), en P z116 116 (.type "ResourceWarning"), en P z117 117 (.type "RuntimeWarning"), en P z118 118 (.type "SyntaxWarning"), en P z119 119 (.type "UnicodeWarning"), en P z120 120 (.type "UserWarning"), en P z121 121 (.type "BlockingIOError"), en P z122 122 (.type "ChildProcessError"), en P z123 123 (.type "ConnectionError"), en P z124 124 (.type "FileExistsError"), en P z125 125 (.type "FileNotFoundError"), en P z126 126 (.type "InterruptedError"), en P z127 127 (.type "IsADirectoryError"), en P z128 128 (.type "NotADirectoryError"), en P z129 129 (.type "PermissionError"), en P z130 130 (.type "ProcessLookupError"), en P z131 131 (.type "TimeoutError"), en P z132 132 (.type "IndentationError"), en P z133 133 (.type "_IncompleteInputError"), en P z134 134 (.type "IndexError"), en P z135 135 (.type "KeyError"), en P z136 136 (.type "ModuleNotFoundError"), en P z137 137 (.type "NotImplementedError"), en P z138 138 (.type "PythonFinalizationError"), en P z139 139 (.type "RecursionError"), en P z140 140 (.type "UnboundLocalError"), en P z141 141 (.type "UnicodeError"), en P z142 142 (.type "BrokenPipeError"), en P z143 143 (.type "ConnectionAbortedError"), en P z144 144 (.type "ConnectionRefusedError"), en P z145 145 (.type "ConnectionResetError"), en P z146 146 (.type "TabError"), en P z147 147 (.type "UnicodeDecodeError"), en P z148 148 (.type "UnicodeEncodeError"), en P z149 149 (.type "UnicodeTranslateError"), en P z150 150 (.type "ExceptionGroup"), en P z151 151 (.type "OSError"), en P z152 152 (.type "OSError"), en P z153 153 (.builtin "open"), en P z154 154 (.builtin "builtins.quit#opaque"), en P z155 155 (.builtin "builtins.exit#opaque"), en P z156 156 (.builtin "builtins.copyright#opaque"), en P z157 157 (.builtin "builtins.credits#opaque"), en P z158 158 (.builtin "builtins.license#opaque"), en P z159 159 (.builtin "builtins.help#opaque")] 159), #[]⟩,
  ⟨(.type "dict"), none, (.dict #[en P z1 162 (.ref 4), en P z160 163 (.ref 5)] 2), #[]⟩,
  ⟨.none, none, (.dict #[] 0), #[]⟩,
  ⟨(.type "dict"), none, (.dict #[en P z0 165 (.str z161 1096), en P z2 166 .none, en P z3 167 .none, en P z4 168 (.builtin "__main__.__loader__#opaque"), en P z5 169 .none, en P z162 170 (.ref 6), en P z163 171 (.ref 4), en P z164 173 (.str z165 172), en P z166 174 .none, en P z167 190 (.int 1152921504606846975 189), en P z168 192 (.int 576460752303423488 191), en P z169 194 (.int 262143 193), en P z170 196 (.int 131072 195), en P z171 198 (.int 65536 197), en P z172 207 (.ref 21), en P z173 216 (.ref 28), en P z174 223 (.ref 35), en P z175 230 (.ref 42), en P z176 238 (.ref 49), en P z177 245 (.ref 56), en P z178 254 (.ref 63), en P z179 262 (.ref 70), en P z180 271 (.ref 77), en P z181 278 (.ref 84), en P z182 282 (.int 8 281), en P z183 284 (.int 16 283), en P z184 286 (.int 24 285), en P z185 288 (.int 25 287), en P z186 290 (.int 24 289), en P z187 298 (.ref 91), en P z188 307 (.ref 98), en P z189 309 (.int 0 308), en P z190 311 (.int 1 310), en P z191 313 (.int 2 312), en P z192 315 (.int 3 314), en P z193 317 (.int 4 316), en P z194 328 (.ref 105), en P z195 337 (.ref 112), en P z196 346 (.ref 119), en P z197 355 (.ref 126), en P z198 364 (.ref 133), en P z199 373 (.ref 140), en P z200 382 (.ref 147), en P z201 391 (.ref 154), en P z202 392 (.ref 155), en P z203 401 (.ref 162), en P z204 405 (.int 2047 404), en P z205 407 (.int 1023 406), en P z206 409 (.int 576179277326712832 408), en P z207 411 (.int 287948901175001088 410), en P z208 413 (.int 281474976710655 412), en P z209 415 (.int 140737488355328 414), en P z210 417 (.int 0 416), en P z211 419 (.int 1 418), en P z212 421 (.int 2 420), en P z213 428 (.ref 169), en P z214 435 (.ref 176), en P z215 442 (.ref 183), en P z216 449 (.ref 190), en P z217 456 (.ref 197), en P z218 466 (.ref 204), en P z219 478 (.ref 211), en P z220 491 (.ref 218), en P z221 500 (.ref 225), en P z222 509 (.ref 232), en P z223 524 (.ref 239), en P z224 537 (.ref 246), en P z225 550 (.ref 253), en P z226 557 (.ref 260), en P z227 568 (.ref 267), en P z228 580 (.ref 274), en P z229 591 (.ref 281), en P z230 601 (.ref 288), en P z231 611 (.ref 295), en P z232 621 (.ref 302), en P z233 631 (.ref 309), en P z234 641 (.ref 316), en P z235 651 (.ref 323), en P z236 660 (.ref 330), en P z237 661 (.ref 331), en P z238 673 (.ref 338), en P z239 683 (.ref 345), en P z240 693 (.ref 352), en P z241 703 (.ref 359), en P z242 713 (.ref 366), en P z243 723 (.ref 373), en P z244 733 (.ref 380), en P z245 743 (.ref 387), en P z246 753 (.ref 394), en P z247 763 (.ref 401), en P z248 774 (.ref 408), en P z249 785 (.ref 415), en P z250 795 (.ref 422), en P z251 805 (.ref 429), en P z252 817 (.ref 436), en P z253 829 (.ref 443), en P z254 839 (.ref 450), en P z255 849 (.ref 457), en P z256 859 (.ref 464), en P z257 869 (.ref 471), en P z258 879 (.ref 478), en P z259 889 (.ref 485), en P z260 899 (.ref 492), en P z261 909 (.ref 499), en P z262 919 (.ref 506), en P z263 929 (.ref 513), en P z264 939 (.ref 520), en P z265 949 (.ref 527), en P z266 959 (.ref 534), en P z267 969 (.ref 541), en P z268 979 (.ref 548), en P z269 989 (.ref 555), en P z270 990 (.ref 556), en P z271 994 (.int 262144 993), en P z272 1059 (.ref 557), en P z273 1073 (.ref 564), en P z274 1085 (.ref 571), en P z275 1095 (.ref 578), en P z276 1099 (.int 1 1098), en P z277 1107 (.ref 579), en P z278 1109 (.int 10000000 1108), en P z279 1158 (.ref 610), en P z280 1166 (.ref 621), en P z281 1178 (.ref 628), en P z282 1188 (.ref 635), en P z283 1196 (.ref 642), en P z284 1204 (.ref 649), en P z285 1212 (.ref 656), en P z286 1220 (.ref 663), en P z287 1221 (.ref 664), en P z288 1233 (.ref 671), en P z289 1241 (.ref 678)] 132), #[]⟩,
  ⟨(.type "module"), (some 0), .plain, #[]⟩,
  ⟨(.type "module"), (some 3), .plain, #[]⟩,
  ⟨(.type "dict"), none, (.dict #[] 0), #[]⟩,
  ⟨(.type "tuple"), none, (.seq #[] 0), #[]⟩,
  ⟨.none, none, (.fields #[]), #[]⟩,
  ⟨(.type "code"), none, (.fields #[(.str z290 176), (.str z290 177), (.str z165 178), (.int 1 0), (.int 0 0), (.int 0 0), (.int 0 0), (.int 0 0), (.ref 7), (.bool false), (.int 175 0), (.ref 8), .none, .none, .none, .none, (.int 179 0), (.int 1 0), (.str z165 180)]), #[]⟩,
  ⟨(.type "frame"), none, .plain, #[(some (.ref 9)), (some (.ref 3)), (some (.ref 3)), none, (some (.str z160 164)), none, (some (.ref 0))]⟩,
  ⟨(.type "tuple"), none, (.seq #[] 0), #[]⟩,
  ⟨.none, none, (.fields #[(.int 7 0), (.int 0 0), (.ref 20), (.int 11 0), (.int 0 0), (.ref 27), (.int 15 0), (.int 0 0), (.ref 34), (.int 17 0), (.int 0 0), (.ref 41), (.int 21 0), (.int 0 0), (.ref 48), (.int 25 0), (.int 0 0), (.ref 55), (.int 29 0), (.int 0 0), (.ref 62), (.int 32 0), (.int 0 0), (.ref 69), (.int 34 0), (.int 0 0), (.ref 76), (.int 41 0), (.int 0 0), (.ref 83), (.int 49 0), (.int 0 0), (.ref 90), (.int 59 0), (.int 0 0), (.ref 97), (.int 74 0), (.int 0 0), (.ref 104), (.int 76 0), (.int 0 0), (.ref 111), (.int 78 0), (.int 0 0), (.ref 118), (.int 80 0), (.int 0 0), (.ref 125), (.int 82 0), (.int 0 0), (.ref 132), (.int 84 0), (.int 0 0), (.ref 139), (.int 86 0), (.int 0 0), (.ref 146), (.int 88 0), (.int 0 0), (.ref 153), (.int 91 0), (.int 0 0), (.ref 161), (.int 110 0), (.int 0 0), (.ref 168), (.int 112 0), (.int 0 0), (.ref 175), (.int 116 0), (.int 0 0), (.ref 182), (.int 118 0), (.int 0 0), (.ref 189), (.int 120 0), (.int 0 0), (.ref 196), (.int 122 0), (.int 0 0), (.ref 203), (.int 129 0), (.int 0 0), (.ref 210), (.int 143 0), (.int 0 0), (.ref 217), (.int 153 0), (.int 0 0), (.ref 224), (.int 159 0), (.int 0 0), (.ref 231), (.int 164 0), (.int 0 0), (.ref 238), (.int 181 0), (.int 0 0), (.ref 245), (.int 195 0), (.int 0 0), (.ref 252), (.int 203 0), (.int 0 0), (.ref 259), (.int 207 0), (.int 0 0), (.ref 266), (.int 217 0), (.int 0 0), (.ref 273), (.int 219 0), (.int 0 0), (.ref 280), (.int 228 0), (.int 0 0), (.ref 287), (.int 231 0), (.int 0 0), (.ref 294), (.int 235 0), (.int 0 0), (.ref 301), (.int 239 0), (.int 0 0), (.ref 308), (.int 243 0), (.int 0 0), (.ref 315), (.int 247 0), (.int 0 0), (.ref 322), (.int 251 0), (.int 0 0), (.ref 329), (.int 263 0), (.int 0 0), (.ref 337), (.int 265 0), (.int 0 0), (.ref 344), (.int 267 0), (.int 0 0), (.ref 351), (.int 269 0), (.int 0 0), (.ref 358), (.int 271 0), (.int 0 0), (.ref 365), (.int 273 0), (.int 0 0), (.ref 372), (.int 275 0), (.int 0 0), (.ref 379), (.int 277 0), (.int 0 0), (.ref 386), (.int 279 0), (.int 0 0), (.ref 393), (.int 281 0), (.int 0 0), (.ref 400), (.int 283 0), (.int 0 0), (.ref 407), (.int 288 0), (.int 0 0), (.ref 414), (.int 293 0), (.int 0 0), (.ref 421), (.int 296 0), (.int 0 0), (.ref 428), (.int 299 0), (.int 0 0), (.ref 435), (.int 304 0), (.int 0 0), (.ref 442), (.int 308 0), (.int 0 0), (.ref 449), (.int 310 0), (.int 0 0), (.ref 456), (.int 312 0), (.int 0 0), (.ref 463), (.int 314 0), (.int 0 0), (.ref 470), (.int 316 0), (.int 0 0), (.ref 477), (.int 318 0), (.int 0 0), (.ref 484), (.int 320 0), (.int 0 0), (.ref 491), (.int 322 0), (.int 0 0), (.ref 498), (.int 324 0), (.int 0 0), (.ref 505), (.int 326 0), (.int 0 0), (.ref 512), (.int 328 0), (.int 0 0), (.ref 519), (.int 330 0), (.int 0 0), (.ref 526), (.int 332 0), (.int 0 0), (.ref 533), (.int 334 0), (.int 0 0), (.ref 540), (.int 336 0), (.int 0 0), (.ref 547), (.int 338 0), (.int 0 0), (.ref 554), (.int 344 0), (.int 0 0), (.ref 563), (.int 362 0), (.int 0 0), (.ref 570), (.int 376 0), (.int 0 0), (.ref 577), (.int 389 0), (.int 0 0), (.ref 585), (.int 405 0), (.int 0 0), (.ref 620), (.int 408 0), (.int 0 0), (.ref 627), (.int 416 0), (.int 0 0), (.ref 634), (.int 422 0), (.int 0 0), (.ref 641), (.int 426 0), (.int 0 0), (.ref 648), (.int 428 0), (.int 0 0), (.ref 655), (.int 432 0), (.int 0 0), (.ref 662), (.int 438 0), (.int 0 0), (.ref 670), (.int 449 0), (.int 0 0), (.ref 677)]), #[]⟩,
  ⟨(.type "code"), none, (.fields #[(.str z290 182), (.str z290 183), (.str z165 184), (.int 1 0), (.int 0 0), (.int 0 0), (.int 0 0), (.int 0 0), (.ref 11), (.bool false), (.int 181 0), (.ref 12), .none, .none, .none, .none, (.int 185 0), (.int 1 0), (.str z165 186)]), #[]⟩,
  ⟨(.type "frame"), none, .plain, #[(some (.ref 13)), (some (.ref 3)), (some (.ref 3)), none, (some (.str z160 164)), none, (some (.ref 0))]⟩,
  ⟨(.type "tuple"), none, (.seq #[] 0), #[]⟩,
  ⟨.none, none, (.fields #[]), #[]⟩,
  ⟨(.type "tuple"), none, (.seq #[(.str z291 202), (.str z292 203), (.str z293 204)] 0), #[]⟩,
  ⟨(.type "tuple"), none, (.seq #[] 0), #[]⟩,
  ⟨.none, none, (.func (fo2 0 0 z172 z172 (defArgs (tp p 6)) (defBody (tp p 6)) (defScope (tp p 6)) .none .none .none .none none .none .none)), #[]⟩,
  ⟨(.type "code"), none, (.fields #[(.str z172 199), (.str z172 200), (.str z165 201), (.int 7 0), (.int 3 0), (.int 0 0), (.int 0 0), (.int 3 0), (.ref 15), (.bool true), (.int 181 0), (.ref 16), .none, (.ref 17), (.ref 18), (.ref 19), (.int 205 0), (.int 7 0), (.str z165 206)]), #[]⟩,
  ⟨(.type "function"), none, (.func (PySem.W.fnOf z172 z172 (defArgs (tp p 6)) (defBody (tp p 6)) (defScope (tp p 6)) .none .none .none (.str z294 187) none (.ref 20) .none)), #[]⟩,
  ⟨(.type "tuple"), none, (.seq #[] 0), #[]⟩,
  ⟨.none, none, (.fields #[]), #[]⟩,
  ⟨(.type "tuple"), none, (.seq #[(.str z291 211), (.str z292 212), (.str z293 213)] 0), #[]⟩,
  ⟨(.type "tuple"), none, (.seq #[] 0), #[]⟩,
  ⟨.none, none, (.func (fo2 0 0 z173 z173 (defArgs (tp p 7)) (defBody (tp p 7)) (defScope (tp p 7)) .none .none .none .none none .none .none)), #[]⟩,
  ⟨(.type "code"), none, (.fields #[(.str z173 208), (.str z173 209), (.str z165 210), (.int 11 0), (.int 3 0), (.int 0 0), (.int 0 0), (.int 3 0), (.ref 22), (.bool true), (.int 181 0), (.ref 23), .none, (.ref 24), (.ref 25), (.ref 26), (.int 214 0), (.int 11 0), (.str z165 215)]), #[]⟩,
  ⟨(.type "function"), none, (.func (PySem.W.fnOf z173 z173 (defArgs (tp p 7)) (defBody (tp p 7)) (defScope (tp p 7)) .none .none .none (.str z294 187) none (.ref 27) .none)), #[]⟩,
  ⟨(.type "tuple"), none, (.seq #[] 0), #[]⟩,
  ⟨.none, none, (.fields #[]), #[]⟩,
  ⟨(.type "tuple"), none, (.seq #[(.str z295 220)] 0), #[]⟩,
  ⟨(.type "tuple"), none, (.seq #[] 0), #[]⟩,
  ⟨.none, none, (.func (fo2 0 0 z174 z174 (defArgs (tp p 8)) (defBody (tp p 8)) (defScope (tp p 8)) .none .none .none .none none .none .none)), #[]⟩,
  ⟨(.type "code"), none, (.fields #[(.str z174 217), (.str z174 218), (.str z165 219), (.int 15 0), (.int 1 0), (.int 0 0), (.int 0 0), (.int 3 0), (.ref 29), (.bool true), (.int 181 0), (.ref 30), .none, (.ref 31), (.ref 32), (.ref 33), (.int 221 0), (.int 15 0), (.str z165 222)]), #[]⟩,
  ⟨(.type "function"), none, (.func (PySem.W.fnOf z174 z174 (defArgs (tp p 8)) (defBody (tp p 8)) (defScope (tp p 8)) .none .none .none (.str z294 187) none (.ref 34) .none)), #[]⟩,
  ⟨(.type "tuple"), none, (.seq #[] 0), #[]⟩,
  ⟨.none, none, (.fields #[]), #[]⟩,
  ⟨(.type "tuple"), none, (.seq #[(.str z295 227)] 0), #[]⟩,
  ⟨(.type "tuple"), none, (.seq #[] 0), #[]⟩,
  ⟨.none, none, (.func (fo2 0 0 z175 z175 (defArgs (tp p 9)) (defBody (tp p 9)) (defScope (tp p 9)) .none .none .none .none none .none .none)), #[]⟩,
  ⟨(.type "code"), none, (.fields #[(.str z175 224), (.str z175 225), (.str z165 226), (.int 17 0), (.int 1 0), (.int 0 0), (.int 0 0), (.int 3 0), (.ref 36), (.bool true), (.int 181 0), (.ref 37), .none, (.ref 38), (.ref 39), (.ref 40), (.int 228 0), (.int 17 0), (.str z165 229)]), #[]⟩,
  ⟨(.type "function"), none, (.func (PySem.W.fnOf z175 z175 (defArgs (tp p 9)) (defBody (tp p 9)) (defScope (tp p 9)) .none .none .none (.str z294 187) none (.ref 41) .none)), #[]⟩,
  ⟨(.type "tuple"), none, (.seq #[] 0), #[]⟩,
  ⟨.none, none, (.fields #[]), #[]⟩,
  ⟨(.type "tuple"), none, (.seq #[(.str z295 234), (.str z296 235)] 0), #[]⟩,
  ⟨(.type "tuple"), none, (.seq #[] 0), #[]⟩,
  ⟨.none, none, (.func (fo2 0 0 z176 z176 (defArgs (tp p 10)) (defBody (tp p 10)) (defScope (tp p 10)) .none .none .none .none none .none .none)), #[]⟩,
  ⟨(.type "code"), none, (.fields #[(.str z176 231), (.str z176 232), (.str z165 233), (.int 21 0), (.int 2 0), (.int 0 0), (.int 0 0), (.int 3 0), (.ref 43), (.bool true), (.int 181 0), (.ref 44), .none, (.ref 45), (.ref 46), (.ref 47), (.int 236 0), (.int 21 0), (.str z165 237)]), #[]⟩,
  ⟨(.type "function"), none, (.func (PySem.W.fnOf z176 z176 (defArgs (tp p 10)) (defBody (tp p 10)) (defScope (tp p 10)) .none .none .none (.str z294 187) none (.ref 48) .none)), #[]⟩,
  ⟨(.type "tuple"), none, (.seq #[] 0), #[]⟩,
  ⟨.none, none, (.fields #[]), #[]⟩,
  ⟨(.type "tuple"), none, (.seq #[(.str z297 242)] 0), #[]⟩,
  ⟨(.type "tuple"), none, (.seq #[] 0), #[]⟩,
  ⟨.none, none, (.func (fo2 0 0 z177 z177 (defArgs (tp p 11)) (defBody (tp p 11)) (defScope (tp p 11)) .none .none .none .none none .none .none)), #[]⟩,
  ⟨(.type "code"), none, (.fields #[(.str z177 239), (.str z177 240), (.str z165 241), (.int 25 0), (.int 1 0), (.int 0 0), (.int 0 0), (.int 3 0), (.ref 50), (.bool true), (.int 181 0), (.ref 51), .none, (.ref 52), (.ref 53), (.ref 54), (.int 243 0), (.int 25 0), (.str z165 244)]), #[]⟩,
  ⟨(.type "function"), none, (.func (PySem.W.fnOf z177 z177 (defArgs (tp p 11)) (defBody (tp p 11)) (defScope (tp p 11)) .none .none .none (.str z294 187) none (.ref 55) .none)), #[]⟩,
  ⟨(.type "tuple"), none, (.seq #[] 0), #[]⟩,
  ⟨.none, none, (.fields #[]), #[]⟩,
  ⟨(.type "tuple"), none, (.seq #[(.str z295 249), (.str z298 250), (.str z299 251)] 0), #[]⟩]
def ho1 (p : Program) (P : Params) : List Obj := [
  ⟨(.type "tuple"), none, (.seq #[] 0), #[]⟩,
  ⟨.none, none, (.func (fo2 0 0 z178 z178 (defArgs (tp p 12)) (defBody (tp p 12)) (defScope (tp p 12)) .none .none .none .none none .none .none)), #[]⟩,
  ⟨(.type "code"), none, (.fields #[(.str z178 246), (.str z178 247), (.str z165 248), (.int 29 0), (.int 2 0), (.int 0 0), (.int 0 0), (.int 3 0), (.ref 57), (.bool true), (.int 181 0), (.ref 58), .none, (.ref 59), (.ref 60), (.ref 61), (.int 252 0), (.int 29 0), (.str z165 253)]), #[]⟩,
  ⟨(.type "function"), none, (.func (PySem.W.fnOf z178 z178 (defArgs (tp p 12)) (defBody (tp p 12)) (defScope (tp p 12)) .none .none .none (.str z294 187) none (.ref 62) .none)), #[]⟩,
  ⟨(.type "tuple"), none, (.seq #[] 0), #[]⟩,
  ⟨.none, none, (.fields #[]), #[]⟩,
  ⟨(.type "tuple"), none, (.seq #[(.str z295 258), (.str z298 259)] 0), #[]⟩,
  ⟨(.type "tuple"), none, (.seq #[] 0), #[]⟩,
  ⟨.none, none, (.func (fo2 0 0 z179 z179 (defArgs (tp p 13)) (defBody (tp p 13)) (defScope (tp p 13)) .none .none .none .none none .none .none)), #[]⟩,
  ⟨(.type "code"), none, (.fields #[(.str z179 255), (.str z179 256), (.str z165 257), (.int 32 0), (.int 2 0), (.int 0 0), (.int 0 0), (.int 3 0), (.ref 64), (.bool true), (.int 181 0), (.ref 65), .none, (.ref 66), (.ref 67), (.ref 68), (.int 260 0), (.int 32 0), (.str z165 261)]), #[]⟩,
  ⟨(.type "function"), none, (.func (PySem.W.fnOf z179 z179 (defArgs (tp p 13)) (defBody (tp p 13)) (defScope (tp p 13)) .none .none .none (.str z294 187) none (.ref 69) .none)), #[]⟩,
  ⟨(.type "tuple"), none, (.seq #[] 0), #[]⟩,
  ⟨.none, none, (.fields #[]), #[]⟩,
  ⟨(.type "tuple"), none, (.seq #[(.str z295 266), (.str z300 267), (.str z301 268)] 0), #[]⟩,
  ⟨(.type "tuple"), none, (.seq #[] 0), #[]⟩,
  ⟨.none, none, (.func (fo2 0 0 z180 z180 (defArgs (tp p 14)) (defBody (tp p 14)) (defScope (tp p 14)) .none .none .none .none none .none .none)), #[]⟩,
  ⟨(.type "code"), none, (.fields #[(.str z180 263), (.str z180 264), (.str z165 265), (.int 34 0), (.int 1 0), (.int 0 0), (.int 0 0), (.int 3 0), (.ref 71), (.bool true), (.int 181 0), (.ref 72), .none, (.ref 73), (.ref 74), (.ref 75), (.int 269 0), (.int 34 0), (.str z165 270)]), #[]⟩,
  ⟨(.type "function"), none, (.func (PySem.W.fnOf z180 z180 (defArgs (tp p 14)) (defBody (tp p 14)) (defScope (tp p 14)) .none .none .none (.str z294 187) none (.ref 76) .none)), #[]⟩,
  ⟨(.type "tuple"), none, (.seq #[] 0), #[]⟩,
  ⟨.none, none, (.fields #[]), #[]⟩,
  ⟨(.type "tuple"), none, (.seq #[(.str z298 275)] 0), #[]⟩,
  ⟨(.type "tuple"), none, (.seq #[] 0), #[]⟩,
  ⟨.none, none, (.func (fo2 0 0 z181 z181 (defArgs (tp p 15)) (defBody (tp p 15)) (defScope (tp p 15)) .none .none .none .none none .none .none)), #[]⟩,
  ⟨(.type "code"), none, (.fields #[(.str z181 272), (.str z181 273), (.str z165 274), (.int 41 0), (.int 1 0), (.int 0 0), (.int 0 0), (.int 3 0), (.ref 78), (.bool true), (.int 181 0), (.ref 79), .none, (.ref 80), (.ref 81), (.ref 82), (.int 276 0), (.int 41 0), (.str z165 277)]), #[]⟩,
  ⟨(.type "function"), none, (.func (PySem.W.fnOf z181 z181 (defArgs (tp p 15)) (defBody (tp p 15)) (defScope (tp p 15)) .none .none .none (.str z294 187) none (.ref 83) .none)), #[]⟩,
  ⟨(.type "tuple"), none, (.seq #[] 0), #[]⟩,
  ⟨.none, none, (.fields #[]), #[]⟩,
  ⟨(.type "tuple"), none, (.seq #[(.str z302 294), (.str z303 295)] 0), #[]⟩,
  ⟨(.type "tuple"), none, (.seq #[] 0), #[]⟩,
  ⟨.none, none, (.func (fo2 0 0 z187 z187 (defArgs (tp p 22)) (defBody (tp p 22)) (defScope (tp p 22)) .none .none .none .none none .none .none)), #[]⟩,
  ⟨(.type "code"), none, (.fields #[(.str z187 291), (.str z187 292), (.str z165 293), (.int 49 0), (.int 2 0), (.int 0 0), (.int 0 0), (.int 3 0), (.ref 85), (.bool true), (.int 181 0), (.ref 86), .none, (.ref 87), (.ref 88), (.ref 89), (.int 296 0), (.int 49 0), (.str z165 297)]), #[]⟩,
  ⟨(.type "function"), none, (.func (PySem.W.fnOf z187 z187 (defArgs (tp p 22)) (defBody (tp p 22)) (defScope (tp p 22)) .none .none .none (.str z304 279) none (.ref 90) .none)), #[]⟩,
  ⟨(.type "tuple"), none, (.seq #[] 0), #[]⟩,
  ⟨.none, none, (.fields #[]), #[]⟩,
  ⟨(.type "tuple"), none, (.seq #[(.str z302 302), (.str z303 303), (.str z305 304)] 0), #[]⟩,
  ⟨(.type "tuple"), none, (.seq #[] 0), #[]⟩,
  ⟨.none, none, (.func (fo2 0 0 z188 z188 (defArgs (tp p 23)) (defBody (tp p 23)) (defScope (tp p 23)) .none .none .none .none none .none .none)), #[]⟩,
  ⟨(.type "code"), none, (.fields #[(.str z188 299), (.str z188 300), (.str z165 301), (.int 59 0), (.int 3 0), (.int 0 0), (.int 0 0), (.int 3 0), (.ref 92), (.bool true), (.int 181 0), (.ref 93), .none, (.ref 94), (.ref 95), (.ref 96), (.int 305 0), (.int 59 0), (.str z165 306)]), #[]⟩,
  ⟨(.type "function"), none, (.func (PySem.W.fnOf z188 z188 (defArgs (tp p 23)) (defBody (tp p 23)) (defScope (tp p 23)) .none .none .none (.str z304 279) none (.ref 97) .none)), #[]⟩,
  ⟨(.type "tuple"), none, (.seq #[] 0), #[]⟩,
  ⟨.none, none, (.fields #[]), #[]⟩,
  ⟨(.type "tuple"), none, (.seq #[(.str z302 323), (.str z306 324), (.str z307 325)] 0), #[]⟩,
  ⟨(.type "tuple"), none, (.seq #[] 0), #[]⟩,
  ⟨.none, none, (.func (fo2 0 0 z194 z194 (defArgs (tp p 30)) (defBody (tp p 30)) (defScope (tp p 30)) .none .none .none .none none .none .none)), #[]⟩,
  ⟨(.type "code"), none, (.fields #[(.str z194 320), (.str z194 321), (.str z165 322), (.int 74 0), (.int 3 0), (.int 0 0), (.int 0 0), (.int 3 0), (.ref 99), (.bool true), (.int 181 0), (.ref 100), .none, (.ref 101), (.ref 102), (.ref 103), (.int 326 0), (.int 74 0), (.str z165 327)]), #[]⟩,
  ⟨(.type "function"), none, (.func (PySem.W.fnOf z194 z194 (defArgs (tp p 30)) (defBody (tp p 30)) (defScope (tp p 30)) .none .none .none (.str z308 318) none (.ref 104) .none)), #[]⟩,
  ⟨(.type "tuple"), none, (.seq #[] 0), #[]⟩,
  ⟨.none, none, (.fields #[]), #[]⟩,
  ⟨(.type "tuple"), none, (.seq #[(.str z302 332), (.str z306 333), (.str z307 334)] 0), #[]⟩,
  ⟨(.type "tuple"), none, (.seq #[] 0), #[]⟩,
  ⟨.none, none, (.func (fo2 0 0 z195 z195 (defArgs (tp p 31)) (defBody (tp p 31)) (defScope (tp p 31)) .none .none .none .none none .none .none)), #[]⟩,
  ⟨(.type "code"), none, (.fields #[(.str z195 329), (.str z195 330), (.str z165 331), (.int 76 0), (.int 3 0), (.int 0 0), (.int 0 0), (.int 3 0), (.ref 106), (.bool true), (.int 181 0), (.ref 107), .none, (.ref 108), (.ref 109), (.ref 110), (.int 335 0), (.int 76 0), (.str z165 336)]), #[]⟩,
  ⟨(.type "function"), none, (.func (PySem.W.fnOf z195 z195 (defArgs (tp p 31)) (defBody (tp p 31)) (defScope (tp p 31)) .none .none .none (.str z308 318) none (.ref 111) .none)), #[]⟩,
  ⟨(.type "tuple"), none, (.seq #[] 0), #[]⟩,
  ⟨.none, none, (.fields #[]), #[]⟩,
  ⟨(.type "tuple"), none, (.seq #[(.str z302 341), (.str z306 342), (.str z307 343)] 0), #[]⟩,
  ⟨(.type "tuple"), none, (.seq #[] 0), #[]⟩,
  ⟨.none, none, (.func (fo2 0 0 z196 z196 (defArgs (tp p 32)) (defBody (tp p 32)) (defScope (tp p 32)) .none .none .none .none none .none .none)), #[]⟩,
  ⟨(.type "code"), none, (.fields #[(.str z196 338), (.str z196 339), (.str z165 340), (.int 78 0), (.int 3 0), (.int 0 0), (.int 0 0), (.int 3 0), (.ref 113), (.bool true), (.int 181 0), (.ref 114), .none, (.ref 115), (.ref 116), (.ref 117), (.int 344 0), (.int 78 0), (.str z165 345)]), #[]⟩,
  ⟨(.type "function"), none, (.func (PySem.W.fnOf z196 z196 (defArgs (tp p 32)) (defBody (tp p 32)) (defScope (tp p 32)) .none .none .none (.str z308 318) none (.ref 118) .none)), #[]⟩]
def ho2 (p : Program) (P : Params) : List Obj := [
  ⟨(.type "tuple"), none, (.seq #[] 0), #[]⟩,
  ⟨.none, none, (.fields #[]), #[]⟩,
  ⟨(.type "tuple"), none, (.seq #[(.str z302 350), (.str z306 351), (.str z307 352)] 0), #[]⟩,
  ⟨(.type "tuple"), none, (.seq #[] 0), #[]⟩,
  ⟨.none, none, (.func (fo2 0 0 z197 z197 (defArgs (tp p 33)) (defBody (tp p 33)) (defScope (tp p 33)) .none .none .none .none none .none .none)), #[]⟩,
  ⟨(.type "code"), none, (.fields #[(.str z197 347), (.str z197 348), (.str z165 349), (.int 80 0), (.int 3 0), (.int 0 0), (.int 0 0), (.int 3 0), (.ref 120), (.bool true), (.int 181 0), (.ref 121), .none, (.ref 122), (.ref 123), (.ref 124), (.int 353 0), (.int 80 0), (.str z165 354)]), #[]⟩,
  ⟨(.type "function"), none, (.func (PySem.W.fnOf z197 z197 (defArgs (tp p 33)) (defBody (tp p 33)) (defScope (tp p 33)) .none .none .none (.str z308 318) none (.ref 125) .none)), #[]⟩,
  ⟨(.type "tuple"), none, (.seq #[] 0), #[]⟩,
  ⟨.none, none, (.fields #[]), #[]⟩,
  ⟨(.type "tuple"), none, (.seq #[(.str z302 359), (.str z306 360), (.str z307 361)] 0), #[]⟩,
  ⟨(.type "tuple"), none, (.seq #[] 0), #[]⟩,
  ⟨.none, none, (.func (fo2 0 0 z198 z198 (defArgs (tp p 34)) (defBody (tp p 34)) (defScope (tp p 34)) .none .none .none .none none .none .none)), #[]⟩,
  ⟨(.type "code"), none, (.fields #[(.str z198 356), (.str z198 357), (.str z165 358), (.int 82 0), (.int 3 0), (.int 0 0), (.int 0 0), (.int 3 0), (.ref 127), (.bool true), (.int 181 0), (.ref 128), .none, (.ref 129), (.ref 130), (.ref 131), (.int 362 0), (.int 82 0), (.str z165 363)]), #[]⟩,
  ⟨(.type "function"), none, (.func (PySem.W.fnOf z198 z198 (defArgs (tp p 34)) (defBody (tp p 34)) (defScope (tp p 34)) .none .none .none (.str z308 318) none (.ref 132) .none)), #[]⟩,
  ⟨(.type "tuple"), none, (.seq #[] 0), #[]⟩,
  ⟨.none, none, (.fields #[]), #[]⟩,
  ⟨(.type "tuple"), none, (.seq #[(.str z302 368), (.str z306 369), (.str z307 370)] 0), #[]⟩,
  ⟨(.type "tuple"), none, (.seq #[] 0), #[]⟩,
  ⟨.none, none, (.func (fo2 0 0 z199 z199 (defArgs (tp p 35)) (defBody (tp p 35)) (defScope (tp p 35)) .none .none .none .none none .none .none)), #[]⟩,
  ⟨(.type "code"), none, (.fields #[(.str z199 365), (.str z199 366), (.str z165 367), (.int 84 0), (.int 3 0), (.int 0 0), (.int 0 0), (.int 3 0), (.ref 134), (.bool true), (.int 181 0), (.ref 135), .none, (.ref 136), (.ref 137), (.ref 138), (.int 371 0), (.int 84 0), (.str z165 372)]), #[]⟩,
  ⟨(.type "function"), none, (.func (PySem.W.fnOf z199 z199 (defArgs (tp p 35)) (defBody (tp p 35)) (defScope (tp p 35)) .none .none .none (.str z308 318) none (.ref 139) .none)), #[]⟩,
  ⟨(.type "tuple"), none, (.seq #[] 0), #[]⟩,
  ⟨.none, none, (.fields #[]), #[]⟩,
  ⟨(.type "tuple"), none, (.seq #[(.str z302 377), (.str z306 378), (.str z307 379)] 0), #[]⟩,
  ⟨(.type "tuple"), none, (.seq #[] 0), #[]⟩,
  ⟨.none, none, (.func (fo2 0 0 z200 z200 (defArgs (tp p 36)) (defBody (tp p 36)) (defScope (tp p 36)) .none .none .none .none none .none .none)), #[]⟩,
  ⟨(.type "code"), none, (.fields #[(.str z200 374), (.str z200 375), (.str z165 376), (.int 86 0), (.int 3 0), (.int 0 0), (.int 0 0), (.int 3 0), (.ref 141), (.bool true), (.int 181 0), (.ref 142), .none, (.ref 143), (.ref 144), (.ref 145), (.int 380 0), (.int 86 0), (.str z165 381)]), #[]⟩,
  ⟨(.type "function"), none, (.func (PySem.W.fnOf z200 z200 (defArgs (tp p 36)) (defBody (tp p 36)) (defScope (tp p 36)) .none .none .none (.str z308 318) none (.ref 146) .none)), #[]⟩,
  ⟨(.type "tuple"), none, (.seq #[] 0), #[]⟩,
  ⟨.none, none, (.fields #[]), #[]⟩,
  ⟨(.type "tuple"), none, (.seq #[(.str z302 386), (.str z306 387), (.str z307 388)] 0), #[]⟩,
  ⟨(.type "tuple"), none, (.seq #[] 0), #[]⟩,
  ⟨.none, none, (.func (fo2 0 0 z201 z201 (defArgs (tp p 37)) (defBody (tp p 37)) (defScope (tp p 37)) .none .none .none .none none .none .none)), #[]⟩,
  ⟨(.type "code"), none, (.fields #[(.str z201 383), (.str z201 384), (.str z165 385), (.int 88 0), (.int 3 0), (.int 0 0), (.int 0 0), (.int 3 0), (.ref 148), (.bool true), (.int 181 0), (.ref 149), .none, (.ref 150), (.ref 151), (.ref 152), (.int 389 0), (.int 88 0), (.str z165 390)]), #[]⟩,
  ⟨(.type "function"), none, (.func (PySem.W.fnOf z201 z201 (defArgs (tp p 37)) (defBody (tp p 37)) (defScope (tp p 37)) .none .none .none (.str z308 318) none (.ref 153) .none)), #[]⟩,
  ⟨(.type "tuple"), none, (.seq #[(.ref 105), (.ref 112), (.ref 119), (.ref 126), (.ref 133), (.ref 140), (.ref 147), (.ref 154)] 0), #[]⟩,
  ⟨(.type "tuple"), none, (.seq #[] 0), #[]⟩,
  ⟨.none, none, (.fields #[]), #[]⟩,
  ⟨(.type "tuple"), none, (.seq #[(.str z302 396), (.str z309 397), (.str z310 398)] 0), #[]⟩,
  ⟨(.type "tuple"), none, (.seq #[] 0), #[]⟩,
  ⟨.none, none, (.func (fo2 0 0 z203 z203 (defArgs (tp p 39)) (defBody (tp p 39)) (defScope (tp p 39)) .none .none .none .none none .none .none)), #[]⟩,
  ⟨(.type "code"), none, (.fields #[(.str z203 393), (.str z203 394), (.str z165 395), (.int 91 0), (.int 3 0), (.int 0 0), (.int 0 0), (.int 3 0), (.ref 156), (.bool true), (.int 181 0), (.ref 157), .none, (.ref 158), (.ref 159), (.ref 160), (.int 399 0), (.int 91 0), (.str z165 400)]), #[]⟩,
  ⟨(.type "function"), none, (.func (PySem.W.fnOf z203 z203 (defArgs (tp p 39)) (defBody (tp p 39)) (defScope (tp p 39)) .none .none .none (.str z308 318) none (.ref 161) .none)), #[]⟩,
  ⟨(.type "tuple"), none, (.seq #[] 0), #[]⟩,
  ⟨.none, none, (.fields #[]), #[]⟩,
  ⟨(.type "tuple"), none, (.seq #[(.str z295 425)] 0), #[]⟩,
  ⟨(.type "tuple"), none, (.seq #[] 0), #[]⟩,
  ⟨.none, none, (.func (fo2 0 0 z213 z213 (defArgs (tp p 50)) (defBody (tp p 50)) (defScope (tp p 50)) .none .none .none .none none .none .none)), #[]⟩,
  ⟨(.type "code"), none, (.fields #[(.str z213 422), (.str z213 423), (.str z165 424), (.int 110 0), (.int 1 0), (.int 0 0), (.int 0 0), (.int 3 0), (.ref 163), (.bool true), (.int 181 0), (.ref 164), .none, (.ref 165), (.ref 166), (.ref 167), (.int 426 0), (.int 110 0), (.str z165 427)]), #[]⟩,
  ⟨(.type "function"), none, (.func (PySem.W.fnOf z213 z213 (defArgs (tp p 50)) (defBody (tp p 50)) (defScope (tp p 50)) .none .none .none (.str z311 402) none (.ref 168) .none)), #[]⟩,
  ⟨(.type "tuple"), none, (.seq #[] 0), #[]⟩,
  ⟨.none, none, (.fields #[]), #[]⟩,
  ⟨(.type "tuple"), none, (.seq #[(.str z312 432)] 0), #[]⟩,
  ⟨(.type "tuple"), none, (.seq #[] 0), #[]⟩,
  ⟨.none, none, (.func (fo2 0 0 z214 z214 (defArgs (tp p 51)) (defBody (tp p 51)) (defScope (tp p 51)) .none .none .none .none none .none .none)), #[]⟩,
  ⟨(.type "code"), none, (.fields #[(.str z214 429), (.str z214 430), (.str z165 431), (.int 112 0), (.int 1 0), (.int 0 0), (.int 0 0), (.int 3 0), (.ref 170), (.bool true), (.int 181 0), (.ref 171), .none, (.ref 172), (.ref 173), (.ref 174), (.int 433 0), (.int 112 0), (.str z165 434)]), #[]⟩,
  ⟨(.type "function"), none, (.func (PySem.W.fnOf z214 z214 (defArgs (tp p 51)) (defBody (tp p 51)) (defScope (tp p 51)) .none .none .none (.str z311 402) none (.ref 175) .none)), #[]⟩,
  ⟨(.type "tuple"), none, (.seq #[] 0), #[]⟩,
  ⟨.none, none, (.fields #[]), #[]⟩,
  ⟨(.type "tuple"), none, (.seq #[(.str z295 439)] 0), #[]⟩]
def ho3 (p : Program) (P : Params) : List Obj := [
  ⟨(.type "tuple"), none, (.seq #[] 0), #[]⟩,
  ⟨.none, none, (.func (fo2 0 0 z215 z215 (defArgs (tp p 52)) (defBody (tp p 52)) (defScope (tp p 52)) .none .none .none .none none .none .none)), #[]⟩,
  ⟨(.type "code"), none, (.fields #[(.str z215 436), (.str z215 437), (.str z165 438), (.int 116 0), (.int 1 0), (.int 0 0), (.int 0 0), (.int 3 0), (.ref 177), (.bool true), (.int 181 0), (.ref 178), .none, (.ref 179), (.ref 180), (.ref 181), (.int 440 0), (.int 116 0), (.str z165 441)]), #[]⟩,
  ⟨(.type "function"), none, (.func (PySem.W.fnOf z215 z215 (defArgs (tp p 52)) (defBody (tp p 52)) (defScope (tp p 52)) .none .none .none (.str z311 402) none (.ref 182) .none)), #[]⟩,
  ⟨(.type "tuple"), none, (.seq #[] 0), #[]⟩,
  ⟨.none, none, (.fields #[]), #[]⟩,
  ⟨(.type "tuple"), none, (.seq #[(.str z295 446)] 0), #[]⟩,
  ⟨(.type "tuple"), none, (.seq #[] 0), #[]⟩,
  ⟨.none, none, (.func (fo2 0 0 z216 z216 (defArgs (tp p 53)) (defBody (tp p 53)) (defScope (tp p 53)) .none .none .none .none none .none .none)), #[]⟩,
  ⟨(.type "code"), none, (.fields #[(.str z216 443), (.str z216 444), (.str z165 445), (.int 118 0), (.int 1 0), (.int 0 0), (.int 0 0), (.int 3 0), (.ref 184), (.bool true), (.int 181 0), (.ref 185), .none, (.ref 186), (.ref 187), (.ref 188), (.int 447 0), (.int 118 0), (.str z165 448)]), #[]⟩,
  ⟨(.type "function"), none, (.func (PySem.W.fnOf z216 z216 (defArgs (tp p 53)) (defBody (tp p 53)) (defScope (tp p 53)) .none .none .none (.str z311 402) none (.ref 189) .none)), #[]⟩,
  ⟨(.type "tuple"), none, (.seq #[] 0), #[]⟩,
  ⟨.none, none, (.fields #[]), #[]⟩,
  ⟨(.type "tuple"), none, (.seq #[(.str z296 453)] 0), #[]⟩,
  ⟨(.type "tuple"), none, (.seq #[] 0), #[]⟩,
  ⟨.none, none, (.func (fo2 0 0 z217 z217 (defArgs (tp p 54)) (defBody (tp p 54)) (defScope (tp p 54)) .none .none .none .none none .none .none)), #[]⟩,
  ⟨(.type "code"), none, (.fields #[(.str z217 450), (.str z217 451), (.str z165 452), (.int 120 0), (.int 1 0), (.int 0 0), (.int 0 0), (.int 3 0), (.ref 191), (.bool true), (.int 181 0), (.ref 192), .none, (.ref 193), (.ref 194), (.ref 195), (.int 454 0), (.int 120 0), (.str z165 455)]), #[]⟩,
  ⟨(.type "function"), none, (.func (PySem.W.fnOf z217 z217 (defArgs (tp p 54)) (defBody (tp p 54)) (defScope (tp p 54)) .none .none .none (.str z311 402) none (.ref 196) .none)), #[]⟩,
  ⟨(.type "tuple"), none, (.seq #[] 0), #[]⟩,
  ⟨.none, none, (.fields #[]), #[]⟩,
  ⟨(.type "tuple"), none, (.seq #[(.str z296 460), (.str z313 461), (.str z314 462), (.str z312 463)] 0), #[]⟩,
  ⟨(.type "tuple"), none, (.seq #[] 0), #[]⟩,
  ⟨.none, none, (.func (fo2 0 0 z218 z218 (defArgs (tp p 55)) (defBody (tp p 55)) (defScope (tp p 55)) .none .none .none .none none .none .none)), #[]⟩,
  ⟨(.type "code"), none, (.fields #[(.str z218 457), (.str z218 458), (.str z165 459), (.int 122 0), (.int 3 0), (.int 0 0), (.int 0 0), (.int 3 0), (.ref 198), (.bool true), (.int 181 0), (.ref 199), .none, (.ref 200), (.ref 201), (.ref 202), (.int 464 0), (.int 122 0), (.str z165 465)]), #[]⟩,
  ⟨(.type "function"), none, (.func (PySem.W.fnOf z218 z218 (defArgs (tp p 55)) (defBody (tp p 55)) (defScope (tp p 55)) .none .none .none (.str z311 402) none (.ref 203) .none)), #[]⟩,
  ⟨(.type "tuple"), none, (.seq #[] 0), #[]⟩,
  ⟨.none, none, (.fields #[]), #[]⟩,
  ⟨(.type "tuple"), none, (.seq #[(.str z303 470), (.str z296 471), (.str z315 472), (.str z316 473), (.str z313 474), (.str z314 475)] 0), #[]⟩,
  ⟨(.type "tuple"), none, (.seq #[] 0), #[]⟩,
  ⟨.none, none, (.func (fo2 0 0 z219 z219 (defArgs (tp p 56)) (defBody (tp p 56)) (defScope (tp p 56)) .none .none .none .none none .none .none)), #[]⟩,
  ⟨(.type "code"), none, (.fields #[(.str z219 467), (.str z219 468), (.str z165 469), (.int 129 0), (.int 4 0), (.int 0 0), (.int 0 0), (.int 3 0), (.ref 205), (.bool true), (.int 181 0), (.ref 206), .none, (.ref 207), (.ref 208), (.ref 209), (.int 476 0), (.int 129 0), (.str z165 477)]), #[]⟩,
  ⟨(.type "function"), none, (.func (PySem.W.fnOf z219 z219 (defArgs (tp p 56)) (defBody (tp p 56)) (defScope (tp p 56)) .none .none .none (.str z311 402) none (.ref 210) .none)), #[]⟩,
  ⟨(.type "tuple"), none, (.seq #[] 0), #[]⟩,
  ⟨.none, none, (.fields #[]), #[]⟩,
  ⟨(.type "tuple"), none, (.seq #[(.str z303 482), (.str z317 483), (.str z318 484), (.str z319 485), (.str z320 486), (.str z321 487), (.str z315 488)] 0), #[]⟩,
  ⟨(.type "tuple"), none, (.seq #[] 0), #[]⟩,
  ⟨.none, none, (.func (fo2 0 0 z220 z220 (defArgs (tp p 57)) (defBody (tp p 57)) (defScope (tp p 57)) .none .none .none .none none .none .none)), #[]⟩,
  ⟨(.type "code"), none, (.fields #[(.str z220 479), (.str z220 480), (.str z165 481), (.int 143 0), (.int 3 0), (.int 0 0), (.int 0 0), (.int 3 0), (.ref 212), (.bool true), (.int 181 0), (.ref 213), .none, (.ref 214), (.ref 215), (.ref 216), (.int 489 0), (.int 143 0), (.str z165 490)]), #[]⟩,
  ⟨(.type "function"), none, (.func (PySem.W.fnOf z220 z220 (defArgs (tp p 57)) (defBody (tp p 57)) (defScope (tp p 57)) .none .none .none (.str z311 402) none (.ref 217) .none)), #[]⟩,
  ⟨(.type "tuple"), none, (.seq #[] 0), #[]⟩,
  ⟨.none, none, (.fields #[]), #[]⟩,
  ⟨(.type "tuple"), none, (.seq #[(.str z317 495), (.str z318 496), (.str z319 497)] 0), #[]⟩,
  ⟨(.type "tuple"), none, (.seq #[] 0), #[]⟩,
  ⟨.none, none, (.func (fo2 0 0 z221 z221 (defArgs (tp p 58)) (defBody (tp p 58)) (defScope (tp p 58)) .none .none .none .none none .none .none)), #[]⟩,
  ⟨(.type "code"), none, (.fields #[(.str z221 492), (.str z221 493), (.str z165 494), (.int 153 0), (.int 3 0), (.int 0 0), (.int 0 0), (.int 3 0), (.ref 219), (.bool true), (.int 181 0), (.ref 220), .none, (.ref 221), (.ref 222), (.ref 223), (.int 498 0), (.int 153 0), (.str z165 499)]), #[]⟩,
  ⟨(.type "function"), none, (.func (PySem.W.fnOf z221 z221 (defArgs (tp p 58)) (defBody (tp p 58)) (defScope (tp p 58)) .none .none .none (.str z311 402) none (.ref 224) .none)), #[]⟩,
  ⟨(.type "tuple"), none, (.seq #[] 0), #[]⟩,
  ⟨.none, none, (.fields #[]), #[]⟩,
  ⟨(.type "tuple"), none, (.seq #[(.str z295 504), (.str z298 505), (.str z322 506)] 0), #[]⟩,
  ⟨(.type "tuple"), none, (.seq #[] 0), #[]⟩,
  ⟨.none, none, (.func (fo2 0 0 z222 z222 (defArgs (tp p 59)) (defBody (tp p 59)) (defScope (tp p 59)) .none .none .none .none none .none .none)), #[]⟩,
  ⟨(.type "code"), none, (.fields #[(.str z222 501), (.str z222 502), (.str z165 503), (.int 159 0), (.int 2 0), (.int 0 0), (.int 0 0), (.int 3 0), (.ref 226), (.bool true), (.int 181 0), (.ref 227), .none, (.ref 228), (.ref 229), (.ref 230), (.int 507 0), (.int 159 0), (.str z165 508)]), #[]⟩,
  ⟨(.type "function"), none, (.func (PySem.W.fnOf z222 z222 (defArgs (tp p 59)) (defBody (tp p 59)) (defScope (tp p 59)) .none .none .none (.str z311 402) none (.ref 231) .none)), #[]⟩,
  ⟨(.type "tuple"), none, (.seq #[] 0), #[]⟩,
  ⟨.none, none, (.fields #[]), #[]⟩,
  ⟨(.type "tuple"), none, (.seq #[(.str z303 513), (.str z317 514), (.str z318 515), (.str z319 516), (.str z296 517), (.str z313 518), (.str z323 519), (.str z315 520), (.str z316 521)] 0), #[]⟩,
  ⟨(.type "tuple"), none, (.seq #[] 0), #[]⟩,
  ⟨.none, none, (.func (fo2 0 0 z223 z223 (defArgs (tp p 60)) (defBody (tp p 60)) (defScope (tp p 60)) .none .none .none .none none .none .none)), #[]⟩,
  ⟨(.type "code"), none, (.fields #[(.str z223 510), (.str z223 511), (.str z165 512), (.int 164 0), (.int 3 0), (.int 0 0), (.int 0 0), (.int 3 0), (.ref 233), (.bool true), (.int 181 0), (.ref 234), .none, (.ref 235), (.ref 236), (.ref 237), (.int 522 0), (.int 164 0), (.str z165 523)]), #[]⟩,
  ⟨(.type "function"), none, (.func (PySem.W.fnOf z223 z223 (defArgs (tp p 60)) (defBody (tp p 60)) (defScope (tp p 60)) .none .none .none (.str z311 402) none (.ref 238) .none)), #[]⟩]
def ho4 (p : Program) (P : Params) : List Obj := [
  ⟨(.type "tuple"), none, (.seq #[] 0), #[]⟩,
  ⟨.none, none, (.fields #[]), #[]⟩,
  ⟨(.type "tuple"), none, (.seq #[(.str z324 528), (.str z317 529), (.str z318 530), (.str z319 531), (.str z296 532), (.str z313 533), (.str z323 534)] 0), #[]⟩,
  ⟨(.type "tuple"), none, (.seq #[] 0), #[]⟩,
  ⟨.none, none, (.func (fo2 0 0 z224 z224 (defArgs (tp p 61)) (defBody (tp p 61)) (defScope (tp p 61)) .none .none .none .none none .none .none)), #[]⟩,
  ⟨(.type "code"), none, (.fields #[(.str z224 525), (.str z224 526), (.str z165 527), (.int 181 0), (.int 3 0), (.int 0 0), (.int 0 0), (.int 3 0), (.ref 240), (.bool true), (.int 181 0), (.ref 241), .none, (.ref 242), (.ref 243), (.ref 244), (.int 535 0), (.int 181 0), (.str z165 536)]), #[]⟩,
  ⟨(.type "function"), none, (.func (PySem.W.fnOf z224 z224 (defArgs (tp p 61)) (defBody (tp p 61)) (defScope (tp p 61)) .none .none .none (.str z311 402) none (.ref 245) .none)), #[]⟩,
  ⟨(.type "tuple"), none, (.seq #[] 0), #[]⟩,
  ⟨.none, none, (.fields #[]), #[]⟩,
  ⟨(.type "tuple"), none, (.seq #[(.str z324 541), (.str z296 542), (.str z313 543), (.str z323 544), (.str z314 545), (.str z325 546), (.str z326 547)] 0), #[]⟩,
  ⟨(.type "tuple"), none, (.seq #[] 0), #[]⟩,
  ⟨.none, none, (.func (fo2 0 0 z225 z225 (defArgs (tp p 62)) (defBody (tp p 62)) (defScope (tp p 62)) .none .none .none .none none .none .none)), #[]⟩,
  ⟨(.type "code"), none, (.fields #[(.str z225 538), (.str z225 539), (.str z165 540), (.int 195 0), (.int 5 0), (.int 0 0), (.int 0 0), (.int 3 0), (.ref 247), (.bool true), (.int 181 0), (.ref 248), .none, (.ref 249), (.ref 250), (.ref 251), (.int 548 0), (.int 195 0), (.str z165 549)]), #[]⟩,
  ⟨(.type "function"), none, (.func (PySem.W.fnOf z225 z225 (defArgs (tp p 62)) (defBody (tp p 62)) (defScope (tp p 62)) .none .none .none (.str z311 402) none (.ref 252) .none)), #[]⟩,
  ⟨(.type "tuple"), none, (.seq #[] 0), #[]⟩,
  ⟨.none, none, (.fields #[]), #[]⟩,
  ⟨(.type "tuple"), none, (.seq #[(.str z295 554)] 0), #[]⟩,
  ⟨(.type "tuple"), none, (.seq #[] 0), #[]⟩,
  ⟨.none, none, (.func (fo2 0 0 z226 z226 (defArgs (tp p 63)) (defBody (tp p 63)) (defScope (tp p 63)) .none .none .none .none none .none .none)), #[]⟩,
  ⟨(.type "code"), none, (.fields #[(.str z226 551), (.str z226 552), (.str z165 553), (.int 203 0), (.int 1 0), (.int 0 0), (.int 0 0), (.int 3 0), (.ref 254), (.bool true), (.int 181 0), (.ref 255), .none, (.ref 256), (.ref 257), (.ref 258), (.int 555 0), (.int 203 0), (.str z165 556)]), #[]⟩,
  ⟨(.type "function"), none, (.func (PySem.W.fnOf z226 z226 (defArgs (tp p 63)) (defBody (tp p 63)) (defScope (tp p 63)) .none .none .none (.str z311 402) none (.ref 259) .none)), #[]⟩,
  ⟨(.type "tuple"), none, (.seq #[] 0), #[]⟩,
  ⟨.none, none, (.fields #[]), #[]⟩,
  ⟨(.type "tuple"), none, (.seq #[(.str z324 561), (.str z295 562), (.str z312 563), (.str z298 564), (.str z313 565)] 0), #[]⟩,
  ⟨(.type "tuple"), none, (.seq #[] 0), #[]⟩,
  ⟨.none, none, (.func (fo2 0 0 z227 z227 (defArgs (tp p 64)) (defBody (tp p 64)) (defScope (tp p 64)) .none .none .none .none none .none .none)), #[]⟩,
  ⟨(.type "code"), none, (.fields #[(.str z227 558), (.str z227 559), (.str z165 560), (.int 207 0), (.int 2 0), (.int 0 0), (.int 0 0), (.int 3 0), (.ref 261), (.bool true), (.int 181 0), (.ref 262), .none, (.ref 263), (.ref 264), (.ref 265), (.int 566 0), (.int 207 0), (.str z165 567)]), #[]⟩,
  ⟨(.type "function"), none, (.func (PySem.W.fnOf z227 z227 (defArgs (tp p 64)) (defBody (tp p 64)) (defScope (tp p 64)) .none .none .none (.str z311 402) none (.ref 266) .none)), #[]⟩,
  ⟨(.type "tuple"), none, (.seq #[] 0), #[]⟩,
  ⟨.none, none, (.fields #[]), #[]⟩,
  ⟨(.type "tuple"), none, (.seq #[(.str z302 574), (.str z309 575), (.str z306 576), (.str z307 577)] 0), #[]⟩,
  ⟨(.type "tuple"), none, (.seq #[] 0), #[]⟩,
  ⟨.none, none, (.func (fo2 0 0 z228 z228 (defArgs (tp p 66)) (defBody (tp p 66)) (defScope (tp p 66)) .none .none .none .none none .none .none)), #[]⟩,
  ⟨(.type "code"), none, (.fields #[(.str z228 571), (.str z228 572), (.str z165 573), (.int 217 0), (.int 4 0), (.int 0 0), (.int 0 0), (.int 3 0), (.ref 268), (.bool true), (.int 181 0), (.ref 269), .none, (.ref 270), (.ref 271), (.ref 272), (.int 578 0), (.int 217 0), (.str z165 579)]), #[]⟩,
  ⟨(.type "function"), none, (.func (PySem.W.fnOf z228 z228 (defArgs (tp p 66)) (defBody (tp p 66)) (defScope (tp p 66)) .none .none .none (.str z327 569) none (.ref 273) .none)), #[]⟩,
  ⟨(.type "tuple"), none, (.seq #[] 0), #[]⟩,
  ⟨.none, none, (.fields #[]), #[]⟩,
  ⟨(.type "tuple"), none, (.seq #[(.str z302 584), (.str z309 585), (.str z306 586), (.str z307 587), (.str z328 588)] 0), #[]⟩,
  ⟨(.type "tuple"), none, (.seq #[] 0), #[]⟩,
  ⟨.none, none, (.func (fo2 0 0 z229 z229 (defArgs (tp p 67)) (defBody (tp p 67)) (defScope (tp p 67)) .none .none .none .none none .none .none)), #[]⟩,
  ⟨(.type "code"), none, (.fields #[(.str z229 581), (.str z229 582), (.str z165 583), (.int 219 0), (.int 4 0), (.int 0 0), (.int 0 0), (.int 3 0), (.ref 275), (.bool true), (.int 181 0), (.ref 276), .none, (.ref 277), (.ref 278), (.ref 279), (.int 589 0), (.int 219 0), (.str z165 590)]), #[]⟩,
  ⟨(.type "function"), none, (.func (PySem.W.fnOf z229 z229 (defArgs (tp p 67)) (defBody (tp p 67)) (defScope (tp p 67)) .none .none .none (.str z327 569) none (.ref 280) .none)), #[]⟩,
  ⟨(.type "tuple"), none, (.seq #[] 0), #[]⟩,
  ⟨.none, none, (.fields #[]), #[]⟩,
  ⟨(.type "tuple"), none, (.seq #[(.str z302 595), (.str z309 596), (.str z306 597), (.str z307 598)] 0), #[]⟩,
  ⟨(.type "tuple"), none, (.seq #[] 0), #[]⟩,
  ⟨.none, none, (.func (fo2 0 0 z230 z230 (defArgs (tp p 68)) (defBody (tp p 68)) (defScope (tp p 68)) .none .none .none .none none .none .none)), #[]⟩,
  ⟨(.type "code"), none, (.fields #[(.str z230 592), (.str z230 593), (.str z165 594), (.int 228 0), (.int 4 0), (.int 0 0), (.int 0 0), (.int 3 0), (.ref 282), (.bool true), (.int 181 0), (.ref 283), .none, (.ref 284), (.ref 285), (.ref 286), (.int 599 0), (.int 228 0), (.str z165 600)]), #[]⟩,
  ⟨(.type "function"), none, (.func (PySem.W.fnOf z230 z230 (defArgs (tp p 68)) (defBody (tp p 68)) (defScope (tp p 68)) .none .none .none (.str z327 569) none (.ref 287) .none)), #[]⟩,
  ⟨(.type "tuple"), none, (.seq #[] 0), #[]⟩,
  ⟨.none, none, (.fields #[]), #[]⟩,
  ⟨(.type "tuple"), none, (.seq #[(.str z302 605), (.str z309 606), (.str z306 607), (.str z307 608)] 0), #[]⟩,
  ⟨(.type "tuple"), none, (.seq #[] 0), #[]⟩,
  ⟨.none, none, (.func (fo2 0 0 z231 z231 (defArgs (tp p 69)) (defBody (tp p 69)) (defScope (tp p 69)) .none .none .none .none none .none .none)), #[]⟩,
  ⟨(.type "code"), none, (.fields #[(.str z231 602), (.str z231 603), (.str z165 604), (.int 231 0), (.int 4 0), (.int 0 0), (.int 0 0), (.int 3 0), (.ref 289), (.bool true), (.int 181 0), (.ref 290), .none, (.ref 291), (.ref 292), (.ref 293), (.int 609 0), (.int 231 0), (.str z165 610)]), #[]⟩,
  ⟨(.type "function"), none, (.func (PySem.W.fnOf z231 z231 (defArgs (tp p 69)) (defBody (tp p 69)) (defScope (tp p 69)) .none .none .none (.str z327 569) none (.ref 294) .none)), #[]⟩,
  ⟨(.type "tuple"), none, (.seq #[] 0), #[]⟩,
  ⟨.none, none, (.fields #[]), #[]⟩,
  ⟨(.type "tuple"), none, (.seq #[(.str z302 615), (.str z309 616), (.str z306 617), (.str z307 618)] 0), #[]⟩,
  ⟨(.type "tuple"), none, (.seq #[] 0), #[]⟩]
def ho5 (p : Program) (P : Params) : List Obj := [
  ⟨.none, none, (.func (fo2 0 0 z232 z232 (defArgs (tp p 70)) (defBody (tp p 70)) (defScope (tp p 70)) .none .none .none .none none .none .none)), #[]⟩,
  ⟨(.type "code"), none, (.fields #[(.str z232 612), (.str z232 613), (.str z165 614), (.int 235 0), (.int 4 0), (.int 0 0), (.int 0 0), (.int 3 0), (.ref 296), (.bool true), (.int 181 0), (.ref 297), .none, (.ref 298), (.ref 299), (.ref 300), (.int 619 0), (.int 235 0), (.str z165 620)]), #[]⟩,
  ⟨(.type "function"), none, (.func (PySem.W.fnOf z232 z232 (defArgs (tp p 70)) (defBody (tp p 70)) (defScope (tp p 70)) .none .none .none (.str z327 569) none (.ref 301) .none)), #[]⟩,
  ⟨(.type "tuple"), none, (.seq #[] 0), #[]⟩,
  ⟨.none, none, (.fields #[]), #[]⟩,
  ⟨(.type "tuple"), none, (.seq #[(.str z302 625), (.str z309 626), (.str z306 627), (.str z307 628)] 0), #[]⟩,
  ⟨(.type "tuple"), none, (.seq #[] 0), #[]⟩,
  ⟨.none, none, (.func (fo2 0 0 z233 z233 (defArgs (tp p 71)) (defBody (tp p 71)) (defScope (tp p 71)) .none .none .none .none none .none .none)), #[]⟩,
  ⟨(.type "code"), none, (.fields #[(.str z233 622), (.str z233 623), (.str z165 624), (.int 239 0), (.int 4 0), (.int 0 0), (.int 0 0), (.int 3 0), (.ref 303), (.bool true), (.int 181 0), (.ref 304), .none, (.ref 305), (.ref 306), (.ref 307), (.int 629 0), (.int 239 0), (.str z165 630)]), #[]⟩,
  ⟨(.type "function"), none, (.func (PySem.W.fnOf z233 z233 (defArgs (tp p 71)) (defBody (tp p 71)) (defScope (tp p 71)) .none .none .none (.str z327 569) none (.ref 308) .none)), #[]⟩,
  ⟨(.type "tuple"), none, (.seq #[] 0), #[]⟩,
  ⟨.none, none, (.fields #[]), #[]⟩,
  ⟨(.type "tuple"), none, (.seq #[(.str z302 635), (.str z309 636), (.str z306 637), (.str z307 638)] 0), #[]⟩,
  ⟨(.type "tuple"), none, (.seq #[] 0), #[]⟩,
  ⟨.none, none, (.func (fo2 0 0 z234 z234 (defArgs (tp p 72)) (defBody (tp p 72)) (defScope (tp p 72)) .none .none .none .none none .none .none)), #[]⟩,
  ⟨(.type "code"), none, (.fields #[(.str z234 632), (.str z234 633), (.str z165 634), (.int 243 0), (.int 4 0), (.int 0 0), (.int 0 0), (.int 3 0), (.ref 310), (.bool true), (.int 181 0), (.ref 311), .none, (.ref 312), (.ref 313), (.ref 314), (.int 639 0), (.int 243 0), (.str z165 640)]), #[]⟩,
  ⟨(.type "function"), none, (.func (PySem.W.fnOf z234 z234 (defArgs (tp p 72)) (defBody (tp p 72)) (defScope (tp p 72)) .none .none .none (.str z327 569) none (.ref 315) .none)), #[]⟩,
  ⟨(.type "tuple"), none, (.seq #[] 0), #[]⟩,
  ⟨.none, none, (.fields #[]), #[]⟩,
  ⟨(.type "tuple"), none, (.seq #[(.str z302 645), (.str z309 646), (.str z306 647), (.str z307 648)] 0), #[]⟩,
  ⟨(.type "tuple"), none, (.seq #[] 0), #[]⟩,
  ⟨.none, none, (.func (fo2 0 0 z235 z235 (defArgs (tp p 73)) (defBody (tp p 73)) (defScope (tp p 73)) .none .none .none .none none .none .none)), #[]⟩,
  ⟨(.type "code"), none, (.fields #[(.str z235 642), (.str z235 643), (.str z165 644), (.int 247 0), (.int 4 0), (.int 0 0), (.int 0 0), (.int 3 0), (.ref 317), (.bool true), (.int 181 0), (.ref 318), .none, (.ref 319), (.ref 320), (.ref 321), (.int 649 0), (.int 247 0), (.str z165 650)]), #[]⟩,
  ⟨(.type "function"), none, (.func (PySem.W.fnOf z235 z235 (defArgs (tp p 73)) (defBody (tp p 73)) (defScope (tp p 73)) .none .none .none (.str z327 569) none (.ref 322) .none)), #[]⟩,
  ⟨(.type "tuple"), none, (.seq #[] 0), #[]⟩,
  ⟨.none, none, (.fields #[]), #[]⟩,
  ⟨(.type "tuple"), none, (.seq #[(.str z295 655), (.str z309 656), (.str z329 657)] 0), #[]⟩,
  ⟨(.type "tuple"), none, (.seq #[] 0), #[]⟩,
  ⟨.none, none, (.func (fo2 0 0 z236 z236 (defArgs (tp p 74)) (defBody (tp p 74)) (defScope (tp p 74)) .none .none .none .none none .none .none)), #[]⟩,
  ⟨(.type "code"), none, (.fields #[(.str z236 652), (.str z236 653), (.str z165 654), (.int 251 0), (.int 2 0), (.int 0 0), (.int 0 0), (.int 3 0), (.ref 324), (.bool true), (.int 181 0), (.ref 325), .none, (.ref 326), (.ref 327), (.ref 328), (.int 658 0), (.int 251 0), (.str z165 659)]), #[]⟩,
  ⟨(.type "function"), none, (.func (PySem.W.fnOf z236 z236 (defArgs (tp p 74)) (defBody (tp p 74)) (defScope (tp p 74)) .none .none .none (.str z327 569) none (.ref 329) .none)), #[]⟩,
  ⟨(.type "tuple"), none, (.seq #[(.ref 274), (.ref 281), (.ref 288), (.ref 295), (.ref 302), (.ref 309), (.ref 316), (.ref 323)] 0), #[]⟩,
  ⟨(.type "tuple"), none, (.seq #[] 0), #[]⟩,
  ⟨.none, none, (.fields #[]), #[]⟩,
  ⟨(.type "tuple"), none, (.seq #[(.str z302 667), (.str z309 668), (.str z306 669), (.str z307 670)] 0), #[]⟩,
  ⟨(.type "tuple"), none, (.seq #[] 0), #[]⟩,
  ⟨.none, none, (.func (fo2 0 0 z238 z238 (defArgs (tp p 77)) (defBody (tp p 77)) (defScope (tp p 77)) .none .none .none .none none .none .none)), #[]⟩,
  ⟨(.type "code"), none, (.fields #[(.str z238 664), (.str z238 665), (.str z165 666), (.int 263 0), (.int 4 0), (.int 0 0), (.int 0 0), (.int 3 0), (.ref 332), (.bool true), (.int 181 0), (.ref 333), .none, (.ref 334), (.ref 335), (.ref 336), (.int 671 0), (.int 263 0), (.str z165 672)]), #[]⟩,
  ⟨(.type "function"), none, (.func (PySem.W.fnOf z238 z238 (defArgs (tp p 77)) (defBody (tp p 77)) (defScope (tp p 77)) .none .none .none (.str z330 662) none (.ref 337) .none)), #[]⟩,
  ⟨(.type "tuple"), none, (.seq #[] 0), #[]⟩,
  ⟨.none, none, (.fields #[]), #[]⟩,
  ⟨(.type "tuple"), none, (.seq #[(.str z302 677), (.str z309 678), (.str z306 679), (.str z307 680)] 0), #[]⟩,
  ⟨(.type "tuple"), none, (.seq #[] 0), #[]⟩,
  ⟨.none, none, (.func (fo2 0 0 z239 z239 (defArgs (tp p 78)) (defBody (tp p 78)) (defScope (tp p 78)) .none .none .none .none none .none .none)), #[]⟩,
  ⟨(.type "code"), none, (.fields #[(.str z239 674), (.str z239 675), (.str z165 676), (.int 265 0), (.int 4 0), (.int 0 0), (.int 0 0), (.int 3 0), (.ref 339), (.bool true), (.int 181 0), (.ref 340), .none, (.ref 341), (.ref 342), (.ref 343), (.int 681 0), (.int 265 0), (.str z165 682)]), #[]⟩,
  ⟨(.type "function"), none, (.func (PySem.W.fnOf z239 z239 (defArgs (tp p 78)) (defBody (tp p 78)) (defScope (tp p 78)) .none .none .none (.str z330 662) none (.ref 344) .none)), #[]⟩,
  ⟨(.type "tuple"), none, (.seq #[] 0), #[]⟩,
  ⟨.none, none, (.fields #[]), #[]⟩,
  ⟨(.type "tuple"), none, (.seq #[(.str z302 687), (.str z309 688), (.str z306 689), (.str z307 690)] 0), #[]⟩,
  ⟨(.type "tuple"), none, (.seq #[] 0), #[]⟩,
  ⟨.none, none, (.func (fo2 0 0 z240 z240 (defArgs (tp p 79)) (defBody (tp p 79)) (defScope (tp p 79)) .none .none .none .none none .none .none)), #[]⟩,
  ⟨(.type "code"), none, (.fields #[(.str z240 684), (.str z240 685), (.str z165 686), (.int 267 0), (.int 4 0), (.int 0 0), (.int 0 0), (.int 3 0), (.ref 346), (.bool true), (.int 181 0), (.ref 347), .none, (.ref 348), (.ref 349), (.ref 350), (.int 691 0), (.int 267 0), (.str z165 692)]), #[]⟩,
  ⟨(.type "function"), none, (.func (PySem.W.fnOf z240 z240 (defArgs (tp p 79)) (defBody (tp p 79)) (defScope (tp p 79)) .none .none .none (.str z330 662) none (.ref 351) .none)), #[]⟩,
  ⟨(.type "tuple"), none, (.seq #[] 0), #[]⟩,
  ⟨.none, none, (.fields #[]), #[]⟩,
  ⟨(.type "tuple"), none, (.seq #[(.str z302 697), (.str z309 698), (.str z306 699), (.str z307 700)] 0), #[]⟩,
  ⟨(.type "tuple"), none, (.seq #[] 0), #[]⟩,
  ⟨.none, none, (.func (fo2 0 0 z241 z241 (defArgs (tp p 80)) (defBody (tp p 80)) (defScope (tp p 80)) .none .none .none .none none .none .none)), #[]⟩,
  ⟨(.type "code"), none, (.fields #[(.str z241 694), (.str z241 695), (.str z165 696), (.int 269 0), (.int 4 0), (.int 0 0), (.int 0 0), (.int 3 0), (.ref 353), (.bool true), (.int 181 0), (.ref 354), .none, (.ref 355), (.ref 356), (.ref 357), (.int 701 0), (.int 269 0), (.str z165 702)]), #[]⟩,
  ⟨(.type "function"), none, (.func (PySem.W.fnOf z241 z241 (defArgs (tp p 80)) (defBody (tp p 80)) (defScope (tp p 80)) .none .none .none (.str z330 662) none (.ref 358) .none)), #[]⟩]
def ho6 (p : Program) (P : Params) : List Obj := [
  ⟨(.type "tuple"), none, (.seq #[] 0), #[]⟩,
  ⟨.none, none, (.fields #[]), #[]⟩,
  ⟨(.type "tuple"), none, (.seq #[(.str z302 707), (.str z309 708), (.str z306 709), (.str z307 710)] 0), #[]⟩,
  ⟨(.type "tuple"), none, (.seq #[] 0), #[]⟩,
  ⟨.none, none, (.func (fo2 0 0 z242 z242 (defArgs (tp p 81)) (defBody (tp p 81)) (defScope (tp p 81)) .none .none .none .none none .none .none)), #[]⟩,
  ⟨(.type "code"), none, (.fields #[(.str z242 704), (.str z242 705), (.str z165 706), (.int 271 0), (.int 4 0), (.int 0 0), (.int 0 0), (.int 3 0), (.ref 360), (.bool true), (.int 181 0), (.ref 361), .none, (.ref 362), (.ref 363), (.ref 364), (.int 711 0), (.int 271 0), (.str z165 712)]), #[]⟩,
  ⟨(.type "function"), none, (.func (PySem.W.fnOf z242 z242 (defArgs (tp p 81)) (defBody (tp p 81)) (defScope (tp p 81)) .none .none .none (.str z330 662) none (.ref 365) .none)), #[]⟩,
  ⟨(.type "tuple"), none, (.seq #[] 0), #[]⟩,
  ⟨.none, none, (.fields #[]), #[]⟩,
  ⟨(.type "tuple"), none, (.seq #[(.str z302 717), (.str z309 718), (.str z306 719), (.str z307 720)] 0), #[]⟩,
  ⟨(.type "tuple"), none, (.seq #[] 0), #[]⟩,
  ⟨.none, none, (.func (fo2 0 0 z243 z243 (defArgs (tp p 82)) (defBody (tp p 82)) (defScope (tp p 82)) .none .none .none .none none .none .none)), #[]⟩,
  ⟨(.type "code"), none, (.fields #[(.str z243 714), (.str z243 715), (.str z165 716), (.int 273 0), (.int 4 0), (.int 0 0), (.int 0 0), (.int 3 0), (.ref 367), (.bool true), (.int 181 0), (.ref 368), .none, (.ref 369), (.ref 370), (.ref 371), (.int 721 0), (.int 273 0), (.str z165 722)]), #[]⟩,
  ⟨(.type "function"), none, (.func (PySem.W.fnOf z243 z243 (defArgs (tp p 82)) (defBody (tp p 82)) (defScope (tp p 82)) .none .none .none (.str z330 662) none (.ref 372) .none)), #[]⟩,
  ⟨(.type "tuple"), none, (.seq #[] 0), #[]⟩,
  ⟨.none, none, (.fields #[]), #[]⟩,
  ⟨(.type "tuple"), none, (.seq #[(.str z302 727), (.str z309 728), (.str z306 729), (.str z307 730)] 0), #[]⟩,
  ⟨(.type "tuple"), none, (.seq #[] 0), #[]⟩,
  ⟨.none, none, (.func (fo2 0 0 z244 z244 (defArgs (tp p 83)) (defBody (tp p 83)) (defScope (tp p 83)) .none .none .none .none none .none .none)), #[]⟩,
  ⟨(.type "code"), none, (.fields #[(.str z244 724), (.str z244 725), (.str z165 726), (.int 275 0), (.int 4 0), (.int 0 0), (.int 0 0), (.int 3 0), (.ref 374), (.bool true), (.int 181 0), (.ref 375), .none, (.ref 376), (.ref 377), (.ref 378), (.int 731 0), (.int 275 0), (.str z165 732)]), #[]⟩,
  ⟨(.type "function"), none, (.func (PySem.W.fnOf z244 z244 (defArgs (tp p 83)) (defBody (tp p 83)) (defScope (tp p 83)) .none .none .none (.str z330 662) none (.ref 379) .none)), #[]⟩,
  ⟨(.type "tuple"), none, (.seq #[] 0), #[]⟩,
  ⟨.none, none, (.fields #[]), #[]⟩,
  ⟨(.type "tuple"), none, (.seq #[(.str z302 737), (.str z309 738), (.str z306 739), (.str z307 740)] 0), #[]⟩,
  ⟨(.type "tuple"), none, (.seq #[] 0), #[]⟩,
  ⟨.none, none, (.func (fo2 0 0 z245 z245 (defArgs (tp p 84)) (defBody (tp p 84)) (defScope (tp p 84)) .none .none .none .none none .none .none)), #[]⟩,
  ⟨(.type "code"), none, (.fields #[(.str z245 734), (.str z245 735), (.str z165 736), (.int 277 0), (.int 4 0), (.int 0 0), (.int 0 0), (.int 3 0), (.ref 381), (.bool true), (.int 181 0), (.ref 382), .none, (.ref 383), (.ref 384), (.ref 385), (.int 741 0), (.int 277 0), (.str z165 742)]), #[]⟩,
  ⟨(.type "function"), none, (.func (PySem.W.fnOf z245 z245 (defArgs (tp p 84)) (defBody (tp p 84)) (defScope (tp p 84)) .none .none .none (.str z330 662) none (.ref 386) .none)), #[]⟩,
  ⟨(.type "tuple"), none, (.seq #[] 0), #[]⟩,
  ⟨.none, none, (.fields #[]), #[]⟩,
  ⟨(.type "tuple"), none, (.seq #[(.str z302 747), (.str z309 748), (.str z306 749), (.str z307 750)] 0), #[]⟩,
  ⟨(.type "tuple"), none, (.seq #[] 0), #[]⟩,
  ⟨.none, none, (.func (fo2 0 0 z246 z246 (defArgs (tp p 85)) (defBody (tp p 85)) (defScope (tp p 85)) .none .none .none .none none .none .none)), #[]⟩,
  ⟨(.type "code"), none, (.fields #[(.str z246 744), (.str z246 745), (.str z165 746), (.int 279 0), (.int 4 0), (.int 0 0), (.int 0 0), (.int 3 0), (.ref 388), (.bool true), (.int 181 0), (.ref 389), .none, (.ref 390), (.ref 391), (.ref 392), (.int 751 0), (.int 279 0), (.str z165 752)]), #[]⟩,
  ⟨(.type "function"), none, (.func (PySem.W.fnOf z246 z246 (defArgs (tp p 85)) (defBody (tp p 85)) (defScope (tp p 85)) .none .none .none (.str z330 662) none (.ref 393) .none)), #[]⟩,
  ⟨(.type "tuple"), none, (.seq #[] 0), #[]⟩,
  ⟨.none, none, (.fields #[]), #[]⟩,
  ⟨(.type "tuple"), none, (.seq #[(.str z302 757), (.str z309 758), (.str z306 759), (.str z307 760)] 0), #[]⟩,
  ⟨(.type "tuple"), none, (.seq #[] 0), #[]⟩,
  ⟨.none, none, (.func (fo2 0 0 z247 z247 (defArgs (tp p 86)) (defBody (tp p 86)) (defScope (tp p 86)) .none .none .none .none none .none .none)), #[]⟩,
  ⟨(.type "code"), none, (.fields #[(.str z247 754), (.str z247 755), (.str z165 756), (.int 281 0), (.int 4 0), (.int 0 0), (.int 0 0), (.int 3 0), (.ref 395), (.bool true), (.int 181 0), (.ref 396), .none, (.ref 397), (.ref 398), (.ref 399), (.int 761 0), (.int 281 0), (.str z165 762)]), #[]⟩,
  ⟨(.type "function"), none, (.func (PySem.W.fnOf z247 z247 (defArgs (tp p 86)) (defBody (tp p 86)) (defScope (tp p 86)) .none .none .none (.str z330 662) none (.ref 400) .none)), #[]⟩,
  ⟨(.type "tuple"), none, (.seq #[] 0), #[]⟩,
  ⟨.none, none, (.fields #[]), #[]⟩,
  ⟨(.type "tuple"), none, (.seq #[(.str z302 767), (.str z309 768), (.str z306 769), (.str z307 770), (.str z298 771)] 0), #[]⟩,
  ⟨(.type "tuple"), none, (.seq #[] 0), #[]⟩,
  ⟨.none, none, (.func (fo2 0 0 z248 z248 (defArgs (tp p 87)) (defBody (tp p 87)) (defScope (tp p 87)) .none .none .none .none none .none .none)), #[]⟩,
  ⟨(.type "code"), none, (.fields #[(.str z248 764), (.str z248 765), (.str z165 766), (.int 283 0), (.int 4 0), (.int 0 0), (.int 0 0), (.int 3 0), (.ref 402), (.bool true), (.int 181 0), (.ref 403), .none, (.ref 404), (.ref 405), (.ref 406), (.int 772 0), (.int 283 0), (.str z165 773)]), #[]⟩,
  ⟨(.type "function"), none, (.func (PySem.W.fnOf z248 z248 (defArgs (tp p 87)) (defBody (tp p 87)) (defScope (tp p 87)) .none .none .none (.str z330 662) none (.ref 407) .none)), #[]⟩,
  ⟨(.type "tuple"), none, (.seq #[] 0), #[]⟩,
  ⟨.none, none, (.fields #[]), #[]⟩,
  ⟨(.type "tuple"), none, (.seq #[(.str z302 778), (.str z309 779), (.str z306 780), (.str z307 781), (.str z298 782)] 0), #[]⟩,
  ⟨(.type "tuple"), none, (.seq #[] 0), #[]⟩,
  ⟨.none, none, (.func (fo2 0 0 z249 z249 (defArgs (tp p 88)) (defBody (tp p 88)) (defScope (tp p 88)) .none .none .none .none none .none .none)), #[]⟩,
  ⟨(.type "code"), none, (.fields #[(.str z249 775), (.str z249 776), (.str z165 777), (.int 288 0), (.int 4 0), (.int 0 0), (.int 0 0), (.int 3 0), (.ref 409), (.bool true), (.int 181 0), (.ref 410), .none, (.ref 411), (.ref 412), (.ref 413), (.int 783 0), (.int 288 0), (.str z165 784)]), #[]⟩,
  ⟨(.type "function"), none, (.func (PySem.W.fnOf z249 z249 (defArgs (tp p 88)) (defBody (tp p 88)) (defScope (tp p 88)) .none .none .none (.str z330 662) none (.ref 414) .none)), #[]⟩,
  ⟨(.type "tuple"), none, (.seq #[] 0), #[]⟩,
  ⟨.none, none, (.fields #[]), #[]⟩,
  ⟨(.type "tuple"), none, (.seq #[(.str z302 789), (.str z309 790), (.str z306 791), (.str z307 792)] 0), #[]⟩,
  ⟨(.type "tuple"), none, (.seq #[] 0), #[]⟩]
def ho7 (p : Program) (P : Params) : List Obj := [
  ⟨.none, none, (.func (fo2 0 0 z250 z250 (defArgs (tp p 89)) (defBody (tp p 89)) (defScope (tp p 89)) .none .none .none .none none .none .none)), #[]⟩,
  ⟨(.type "code"), none, (.fields #[(.str z250 786), (.str z250 787), (.str z165 788), (.int 293 0), (.int 4 0), (.int 0 0), (.int 0 0), (.int 3 0), (.ref 416), (.bool true), (.int 181 0), (.ref 417), .none, (.ref 418), (.ref 419), (.ref 420), (.int 793 0), (.int 293 0), (.str z165 794)]), #[]⟩,
  ⟨(.type "function"), none, (.func (PySem.W.fnOf z250 z250 (defArgs (tp p 89)) (defBody (tp p 89)) (defScope (tp p 89)) .none .none .none (.str z330 662) none (.ref 421) .none)), #[]⟩,
  ⟨(.type "tuple"), none, (.seq #[] 0), #[]⟩,
  ⟨.none, none, (.fields #[]), #[]⟩,
  ⟨(.type "tuple"), none, (.seq #[(.str z302 799), (.str z309 800), (.str z306 801), (.str z307 802)] 0), #[]⟩,
  ⟨(.type "tuple"), none, (.seq #[] 0), #[]⟩,
  ⟨.none, none, (.func (fo2 0 0 z251 z251 (defArgs (tp p 90)) (defBody (tp p 90)) (defScope (tp p 90)) .none .none .none .none none .none .none)), #[]⟩,
  ⟨(.type "code"), none, (.fields #[(.str z251 796), (.str z251 797), (.str z165 798), (.int 296 0), (.int 4 0), (.int 0 0), (.int 0 0), (.int 3 0), (.ref 423), (.bool true), (.int 181 0), (.ref 424), .none, (.ref 425), (.ref 426), (.ref 427), (.int 803 0), (.int 296 0), (.str z165 804)]), #[]⟩,
  ⟨(.type "function"), none, (.func (PySem.W.fnOf z251 z251 (defArgs (tp p 90)) (defBody (tp p 90)) (defScope (tp p 90)) .none .none .none (.str z330 662) none (.ref 428) .none)), #[]⟩,
  ⟨(.type "tuple"), none, (.seq #[] 0), #[]⟩,
  ⟨.none, none, (.fields #[]), #[]⟩,
  ⟨(.type "tuple"), none, (.seq #[(.str z302 809), (.str z309 810), (.str z306 811), (.str z307 812), (.str z295 813), (.str z299 814)] 0), #[]⟩,
  ⟨(.type "tuple"), none, (.seq #[] 0), #[]⟩,
  ⟨.none, none, (.func (fo2 0 0 z252 z252 (defArgs (tp p 91)) (defBody (tp p 91)) (defScope (tp p 91)) .none .none .none .none none .none .none)), #[]⟩,
  ⟨(.type "code"), none, (.fields #[(.str z252 806), (.str z252 807), (.str z165 808), (.int 299 0), (.int 4 0), (.int 0 0), (.int 0 0), (.int 3 0), (.ref 430), (.bool true), (.int 181 0), (.ref 431), .none, (.ref 432), (.ref 433), (.ref 434), (.int 815 0), (.int 299 0), (.str z165 816)]), #[]⟩,
  ⟨(.type "function"), none, (.func (PySem.W.fnOf z252 z252 (defArgs (tp p 91)) (defBody (tp p 91)) (defScope (tp p 91)) .none .none .none (.str z330 662) none (.ref 435) .none)), #[]⟩,
  ⟨(.type "tuple"), none, (.seq #[] 0), #[]⟩,
  ⟨.none, none, (.fields #[]), #[]⟩,
  ⟨(.type "tuple"), none, (.seq #[(.str z302 821), (.str z309 822), (.str z306 823), (.str z307 824), (.str z295 825), (.str z312 826)] 0), #[]⟩,
  ⟨(.type "tuple"), none, (.seq #[] 0), #[]⟩,
  ⟨.none, none, (.func (fo2 0 0 z253 z253 (defArgs (tp p 92)) (defBody (tp p 92)) (defScope (tp p 92)) .none .none .none .none none .none .none)), #[]⟩,
  ⟨(.type "code"), none, (.fields #[(.str z253 818), (.str z253 819), (.str z165 820), (.int 304 0), (.int 4 0), (.int 0 0), (.int 0 0), (.int 3 0), (.ref 437), (.bool true), (.int 181 0), (.ref 438), .none, (.ref 439), (.ref 440), (.ref 441), (.int 827 0), (.int 304 0), (.str z165 828)]), #[]⟩,
  ⟨(.type "function"), none, (.func (PySem.W.fnOf z253 z253 (defArgs (tp p 92)) (defBody (tp p 92)) (defScope (tp p 92)) .none .none .none (.str z330 662) none (.ref 442) .none)), #[]⟩,
  ⟨(.type "tuple"), none, (.seq #[] 0), #[]⟩,
  ⟨.none, none, (.fields #[]), #[]⟩,
  ⟨(.type "tuple"), none, (.seq #[(.str z302 833), (.str z309 834), (.str z306 835), (.str z307 836)] 0), #[]⟩,
  ⟨(.type "tuple"), none, (.seq #[] 0), #[]⟩,
  ⟨.none, none, (.func (fo2 0 0 z254 z254 (defArgs (tp p 93)) (defBody (tp p 93)) (defScope (tp p 93)) .none .none .none .none none .none .none)), #[]⟩,
  ⟨(.type "code"), none, (.fields #[(.str z254 830), (.str z254 831), (.str z165 832), (.int 308 0), (.int 4 0), (.int 0 0), (.int 0 0), (.int 3 0), (.ref 444), (.bool true), (.int 181 0), (.ref 445), .none, (.ref 446), (.ref 447), (.ref 448), (.int 837 0), (.int 308 0), (.str z165 838)]), #[]⟩,
  ⟨(.type "function"), none, (.func (PySem.W.fnOf z254 z254 (defArgs (tp p 93)) (defBody (tp p 93)) (defScope (tp p 93)) .none .none .none (.str z330 662) none (.ref 449) .none)), #[]⟩,
  ⟨(.type "tuple"), none, (.seq #[] 0), #[]⟩,
  ⟨.none, none, (.fields #[]), #[]⟩,
  ⟨(.type "tuple"), none, (.seq #[(.str z302 843), (.str z309 844), (.str z306 845), (.str z307 846)] 0), #[]⟩,
  ⟨(.type "tuple"), none, (.seq #[] 0), #[]⟩,
  ⟨.none, none, (.func (fo2 0 0 z255 z255 (defArgs (tp p 94)) (defBody (tp p 94)) (defScope (tp p 94)) .none .none .none .none none .none .none)), #[]⟩,
  ⟨(.type "code"), none, (.fields #[(.str z255 840), (.str z255 841), (.str z165 842), (.int 310 0), (.int 4 0), (.int 0 0), (.int 0 0), (.int 3 0), (.ref 451), (.bool true), (.int 181 0), (.ref 452), .none, (.ref 453), (.ref 454), (.ref 455), (.int 847 0), (.int 310 0), (.str z165 848)]), #[]⟩,
  ⟨(.type "function"), none, (.func (PySem.W.fnOf z255 z255 (defArgs (tp p 94)) (defBody (tp p 94)) (defScope (tp p 94)) .none .none .none (.str z330 662) none (.ref 456) .none)), #[]⟩,
  ⟨(.type "tuple"), none, (.seq #[] 0), #[]⟩,
  ⟨.none, none, (.fields #[]), #[]⟩,
  ⟨(.type "tuple"), none, (.seq #[(.str z302 853), (.str z309 854), (.str z306 855), (.str z307 856)] 0), #[]⟩,
  ⟨(.type "tuple"), none, (.seq #[] 0), #[]⟩,
  ⟨.none, none, (.func (fo2 0 0 z256 z256 (defArgs (tp p 95)) (defBody (tp p 95)) (defScope (tp p 95)) .none .none .none .none none .none .none)), #[]⟩,
  ⟨(.type "code"), none, (.fields #[(.str z256 850), (.str z256 851), (.str z165 852), (.int 312 0), (.int 4 0), (.int 0 0), (.int 0 0), (.int 3 0), (.ref 458), (.bool true), (.int 181 0), (.ref 459), .none, (.ref 460), (.ref 461), (.ref 462), (.int 857 0), (.int 312 0), (.str z165 858)]), #[]⟩,
  ⟨(.type "function"), none, (.func (PySem.W.fnOf z256 z256 (defArgs (tp p 95)) (defBody (tp p 95)) (defScope (tp p 95)) .none .none .none (.str z330 662) none (.ref 463) .none)), #[]⟩,
  ⟨(.type "tuple"), none, (.seq #[] 0), #[]⟩,
  ⟨.none, none, (.fields #[]), #[]⟩,
  ⟨(.type "tuple"), none, (.seq #[(.str z302 863), (.str z309 864), (.str z306 865), (.str z307 866)] 0), #[]⟩,
  ⟨(.type "tuple"), none, (.seq #[] 0), #[]⟩,
  ⟨.none, none, (.func (fo2 0 0 z257 z257 (defArgs (tp p 96)) (defBody (tp p 96)) (defScope (tp p 96)) .none .none .none .none none .none .none)), #[]⟩,
  ⟨(.type "code"), none, (.fields #[(.str z257 860), (.str z257 861), (.str z165 862), (.int 314 0), (.int 4 0), (.int 0 0), (.int 0 0), (.int 3 0), (.ref 465), (.bool true), (.int 181 0), (.ref 466), .none, (.ref 467), (.ref 468), (.ref 469), (.int 867 0), (.int 314 0), (.str z165 868)]), #[]⟩,
  ⟨(.type "function"), none, (.func (PySem.W.fnOf z257 z257 (defArgs (tp p 96)) (defBody (tp p 96)) (defScope (tp p 96)) .none .none .none (.str z330 662) none (.ref 470) .none)), #[]⟩,
  ⟨(.type "tuple"), none, (.seq #[] 0), #[]⟩,
  ⟨.none, none, (.fields #[]), #[]⟩,
  ⟨(.type "tuple"), none, (.seq #[(.str z302 873), (.str z309 874), (.str z306 875), (.str z307 876)] 0), #[]⟩,
  ⟨(.type "tuple"), none, (.seq #[] 0), #[]⟩,
  ⟨.none, none, (.func (fo2 0 0 z258 z258 (defArgs (tp p 97)) (defBody (tp p 97)) (defScope (tp p 97)) .none .none .none .none none .none .none)), #[]⟩,
  ⟨(.type "code"), none, (.fields #[(.str z258 870), (.str z258 871), (.str z165 872), (.int 316 0), (.int 4 0), (.int 0 0), (.int 0 0), (.int 3 0), (.ref 472), (.bool true), (.int 181 0), (.ref 473), .none, (.ref 474), (.ref 475), (.ref 476), (.int 877 0), (.int 316 0), (.str z165 878)]), #[]⟩,
  ⟨(.type "function"), none, (.func (PySem.W.fnOf z258 z258 (defArgs (tp p 97)) (defBody (tp p 97)) (defScope (tp p 97)) .none .none .none (.str z330 662) none (.ref 477) .none)), #[]⟩,
  ⟨(.type "tuple"), none, (.seq #[] 0), #[]⟩]
def ho8 (p : Program) (P : Params) : List Obj := [
  ⟨.none, none, (.fields #[]), #[]⟩,
  ⟨(.type "tuple"), none, (.seq #[(.str z302 883), (.str z309 884), (.str z306 885), (.str z307 886)] 0), #[]⟩,
  ⟨(.type "tuple"), none, (.seq #[] 0), #[]⟩,
  ⟨.none, none, (.func (fo2 0 0 z259 z259 (defArgs (tp p 98)) (defBody (tp p 98)) (defScope (tp p 98)) .none .none .none .none none .none .none)), #[]⟩,
  ⟨(.type "code"), none, (.fields #[(.str z259 880), (.str z259 881), (.str z165 882), (.int 318 0), (.int 4 0), (.int 0 0), (.int 0 0), (.int 3 0), (.ref 479), (.bool true), (.int 181 0), (.ref 480), .none, (.ref 481), (.ref 482), (.ref 483), (.int 887 0), (.int 318 0), (.str z165 888)]), #[]⟩,
  ⟨(.type "function"), none, (.func (PySem.W.fnOf z259 z259 (defArgs (tp p 98)) (defBody (tp p 98)) (defScope (tp p 98)) .none .none .none (.str z330 662) none (.ref 484) .none)), #[]⟩,
  ⟨(.type "tuple"), none, (.seq #[] 0), #[]⟩,
  ⟨.none, none, (.fields #[]), #[]⟩,
  ⟨(.type "tuple"), none, (.seq #[(.str z302 893), (.str z309 894), (.str z306 895), (.str z307 896)] 0), #[]⟩,
  ⟨(.type "tuple"), none, (.seq #[] 0), #[]⟩,
  ⟨.none, none, (.func (fo2 0 0 z260 z260 (defArgs (tp p 99)) (defBody (tp p 99)) (defScope (tp p 99)) .none .none .none .none none .none .none)), #[]⟩,
  ⟨(.type "code"), none, (.fields #[(.str z260 890), (.str z260 891), (.str z165 892), (.int 320 0), (.int 4 0), (.int 0 0), (.int 0 0), (.int 3 0), (.ref 486), (.bool true), (.int 181 0), (.ref 487), .none, (.ref 488), (.ref 489), (.ref 490), (.int 897 0), (.int 320 0), (.str z165 898)]), #[]⟩,
  ⟨(.type "function"), none, (.func (PySem.W.fnOf z260 z260 (defArgs (tp p 99)) (defBody (tp p 99)) (defScope (tp p 99)) .none .none .none (.str z330 662) none (.ref 491) .none)), #[]⟩,
  ⟨(.type "tuple"), none, (.seq #[] 0), #[]⟩,
  ⟨.none, none, (.fields #[]), #[]⟩,
  ⟨(.type "tuple"), none, (.seq #[(.str z302 903), (.str z309 904), (.str z306 905), (.str z307 906)] 0), #[]⟩,
  ⟨(.type "tuple"), none, (.seq #[] 0), #[]⟩,
  ⟨.none, none, (.func (fo2 0 0 z261 z261 (defArgs (tp p 100)) (defBody (tp p 100)) (defScope (tp p 100)) .none .none .none .none none .none .none)), #[]⟩,
  ⟨(.type "code"), none, (.fields #[(.str z261 900), (.str z261 901), (.str z165 902), (.int 322 0), (.int 4 0), (.int 0 0), (.int 0 0), (.int 3 0), (.ref 493), (.bool true), (.int 181 0), (.ref 494), .none, (.ref 495), (.ref 496), (.ref 497), (.int 907 0), (.int 322 0), (.str z165 908)]), #[]⟩,
  ⟨(.type "function"), none, (.func (PySem.W.fnOf z261 z261 (defArgs (tp p 100)) (defBody (tp p 100)) (defScope (tp p 100)) .none .none .none (.str z330 662) none (.ref 498) .none)), #[]⟩,
  ⟨(.type "tuple"), none, (.seq #[] 0), #[]⟩,
  ⟨.none, none, (.fields #[]), #[]⟩,
  ⟨(.type "tuple"), none, (.seq #[(.str z302 913), (.str z309 914), (.str z306 915), (.str z307 916)] 0), #[]⟩,
  ⟨(.type "tuple"), none, (.seq #[] 0), #[]⟩,
  ⟨.none, none, (.func (fo2 0 0 z262 z262 (defArgs (tp p 101)) (defBody (tp p 101)) (defScope (tp p 101)) .none .none .none .none none .none .none)), #[]⟩,
  ⟨(.type "code"), none, (.fields #[(.str z262 910), (.str z262 911), (.str z165 912), (.int 324 0), (.int 4 0), (.int 0 0), (.int 0 0), (.int 3 0), (.ref 500), (.bool true), (.int 181 0), (.ref 501), .none, (.ref 502), (.ref 503), (.ref 504), (.int 917 0), (.int 324 0), (.str z165 918)]), #[]⟩,
  ⟨(.type "function"), none, (.func (PySem.W.fnOf z262 z262 (defArgs (tp p 101)) (defBody (tp p 101)) (defScope (tp p 101)) .none .none .none (.str z330 662) none (.ref 505) .none)), #[]⟩,
  ⟨(.type "tuple"), none, (.seq #[] 0), #[]⟩,
  ⟨.none, none, (.fields #[]), #[]⟩,
  ⟨(.type "tuple"), none, (.seq #[(.str z302 923), (.str z309 924), (.str z306 925), (.str z307 926)] 0), #[]⟩,
  ⟨(.type "tuple"), none, (.seq #[] 0), #[]⟩,
  ⟨.none, none, (.func (fo2 0 0 z263 z263 (defArgs (tp p 102)) (defBody (tp p 102)) (defScope (tp p 102)) .none .none .none .none none .none .none)), #[]⟩,
  ⟨(.type "code"), none, (.fields #[(.str z263 920), (.str z263 921), (.str z165 922), (.int 326 0), (.int 4 0), (.int 0 0), (.int 0 0), (.int 3 0), (.ref 507), (.bool true), (.int 181 0), (.ref 508), .none, (.ref 509), (.ref 510), (.ref 511), (.int 927 0), (.int 326 0), (.str z165 928)]), #[]⟩,
  ⟨(.type "function"), none, (.func (PySem.W.fnOf z263 z263 (defArgs (tp p 102)) (defBody (tp p 102)) (defScope (tp p 102)) .none .none .none (.str z330 662) none (.ref 512) .none)), #[]⟩,
  ⟨(.type "tuple"), none, (.seq #[] 0), #[]⟩,
  ⟨.none, none, (.fields #[]), #[]⟩,
  ⟨(.type "tuple"), none, (.seq #[(.str z302 933), (.str z309 934), (.str z306 935), (.str z307 936)] 0), #[]⟩,
  ⟨(.type "tuple"), none, (.seq #[] 0), #[]⟩,
  ⟨.none, none, (.func (fo2 0 0 z264 z264 (defArgs (tp p 103)) (defBody (tp p 103)) (defScope (tp p 103)) .none .none .none .none none .none .none)), #[]⟩,
  ⟨(.type "code"), none, (.fields #[(.str z264 930), (.str z264 931), (.str z165 932), (.int 328 0), (.int 4 0), (.int 0 0), (.int 0 0), (.int 3 0), (.ref 514), (.bool true), (.int 181 0), (.ref 515), .none, (.ref 516), (.ref 517), (.ref 518), (.int 937 0), (.int 328 0), (.str z165 938)]), #[]⟩,
  ⟨(.type "function"), none, (.func (PySem.W.fnOf z264 z264 (defArgs (tp p 103)) (defBody (tp p 103)) (defScope (tp p 103)) .none .none .none (.str z330 662) none (.ref 519) .none)), #[]⟩,
  ⟨(.type "tuple"), none, (.seq #[] 0), #[]⟩,
  ⟨.none, none, (.fields #[]), #[]⟩,
  ⟨(.type "tuple"), none, (.seq #[(.str z302 943), (.str z309 944), (.str z306 945), (.str z307 946)] 0), #[]⟩,
  ⟨(.type "tuple"), none, (.seq #[] 0), #[]⟩,
  ⟨.none, none, (.func (fo2 0 0 z265 z265 (defArgs (tp p 104)) (defBody (tp p 104)) (defScope (tp p 104)) .none .none .none .none none .none .none)), #[]⟩,
  ⟨(.type "code"), none, (.fields #[(.str z265 940), (.str z265 941), (.str z165 942), (.int 330 0), (.int 4 0), (.int 0 0), (.int 0 0), (.int 3 0), (.ref 521), (.bool true), (.int 181 0), (.ref 522), .none, (.ref 523), (.ref 524), (.ref 525), (.int 947 0), (.int 330 0), (.str z165 948)]), #[]⟩,
  ⟨(.type "function"), none, (.func (PySem.W.fnOf z265 z265 (defArgs (tp p 104)) (defBody (tp p 104)) (defScope (tp p 104)) .none .none .none (.str z330 662) none (.ref 526) .none)), #[]⟩,
  ⟨(.type "tuple"), none, (.seq #[] 0), #[]⟩,
  ⟨.none, none, (.fields #[]), #[]⟩,
  ⟨(.type "tuple"), none, (.seq #[(.str z302 953), (.str z309 954), (.str z306 955), (.str z307 956)] 0), #[]⟩,
  ⟨(.type "tuple"), none, (.seq #[] 0), #[]⟩,
  ⟨.none, none, (.func (fo2 0 0 z266 z266 (defArgs (tp p 105)) (defBody (tp p 105)) (defScope (tp p 105)) .none .none .none .none none .none .none)), #[]⟩,
  ⟨(.type "code"), none, (.fields #[(.str z266 950), (.str z266 951), (.str z165 952), (.int 332 0), (.int 4 0), (.int 0 0), (.int 0 0), (.int 3 0), (.ref 528), (.bool true), (.int 181 0), (.ref 529), .none, (.ref 530), (.ref 531), (.ref 532), (.int 957 0), (.int 332 0), (.str z165 958)]), #[]⟩,
  ⟨(.type "function"), none, (.func (PySem.W.fnOf z266 z266 (defArgs (tp p 105)) (defBody (tp p 105)) (defScope (tp p 105)) .none .none .none (.str z330 662) none (.ref 533) .none)), #[]⟩,
  ⟨(.type "tuple"), none, (.seq #[] 0), #[]⟩,
  ⟨.none, none, (.fields #[]), #[]⟩,
  ⟨(.type "tuple"), none, (.seq #[(.str z302 963), (.str z309 964), (.str z306 965), (.str z307 966)] 0), #[]⟩,
  ⟨(.type "tuple"), none, (.seq #[] 0), #[]⟩,
  ⟨.none, none, (.func (fo2 0 0 z267 z267 (defArgs (tp p 106)) (defBody (tp p 106)) (defScope (tp p 106)) .none .none .none .none none .none .none)), #[]⟩]
def ho9 (p : Program) (P : Params) : List Obj := [
  ⟨(.type "code"), none, (.fields #[(.str z267 960), (.str z267 961), (.str z165 962), (.int 334 0), (.int 4 0), (.int 0 0), (.int 0 0), (.int 3 0), (.ref 535), (.bool true), (.int 181 0), (.ref 536), .none, (.ref 537), (.ref 538), (.ref 539), (.int 967 0), (.int 334 0), (.str z165 968)]), #[]⟩,
  ⟨(.type "function"), none, (.func (PySem.W.fnOf z267 z267 (defArgs (tp p 106)) (defBody (tp p 106)) (defScope (tp p 106)) .none .none .none (.str z330 662) none (.ref 540) .none)), #[]⟩,
  ⟨(.type "tuple"), none, (.seq #[] 0), #[]⟩,
  ⟨.none, none, (.fields #[]), #[]⟩,
  ⟨(.type "tuple"), none, (.seq #[(.str z302 973), (.str z309 974), (.str z306 975), (.str z307 976)] 0), #[]⟩,
  ⟨(.type "tuple"), none, (.seq #[] 0), #[]⟩,
  ⟨.none, none, (.func (fo2 0 0 z268 z268 (defArgs (tp p 107)) (defBody (tp p 107)) (defScope (tp p 107)) .none .none .none .none none .none .none)), #[]⟩,
  ⟨(.type "code"), none, (.fields #[(.str z268 970), (.str z268 971), (.str z165 972), (.int 336 0), (.int 4 0), (.int 0 0), (.int 0 0), (.int 3 0), (.ref 542), (.bool true), (.int 181 0), (.ref 543), .none, (.ref 544), (.ref 545), (.ref 546), (.int 977 0), (.int 336 0), (.str z165 978)]), #[]⟩,
  ⟨(.type "function"), none, (.func (PySem.W.fnOf z268 z268 (defArgs (tp p 107)) (defBody (tp p 107)) (defScope (tp p 107)) .none .none .none (.str z330 662) none (.ref 547) .none)), #[]⟩,
  ⟨(.type "tuple"), none, (.seq #[] 0), #[]⟩,
  ⟨.none, none, (.fields #[]), #[]⟩,
  ⟨(.type "tuple"), none, (.seq #[(.str z302 983), (.str z309 984), (.str z306 985), (.str z307 986)] 0), #[]⟩,
  ⟨(.type "tuple"), none, (.seq #[] 0), #[]⟩,
  ⟨.none, none, (.func (fo2 0 0 z269 z269 (defArgs (tp p 108)) (defBody (tp p 108)) (defScope (tp p 108)) .none .none .none .none none .none .none)), #[]⟩,
  ⟨(.type "code"), none, (.fields #[(.str z269 980), (.str z269 981), (.str z165 982), (.int 338 0), (.int 4 0), (.int 0 0), (.int 0 0), (.int 3 0), (.ref 549), (.bool true), (.int 181 0), (.ref 550), .none, (.ref 551), (.ref 552), (.ref 553), (.int 987 0), (.int 338 0), (.str z165 988)]), #[]⟩,
  ⟨(.type "function"), none, (.func (PySem.W.fnOf z269 z269 (defArgs (tp p 108)) (defBody (tp p 108)) (defScope (tp p 108)) .none .none .none (.str z330 662) none (.ref 554) .none)), #[]⟩,
  ⟨(.type "tuple"), none, (.seq #[(.ref 338), (.ref 345), (.ref 352), (.ref 359), (.ref 366), (.ref 373), (.ref 380), (.ref 387), (.ref 394), (.ref 401), (.ref 408), (.ref 415), (.ref 422), (.ref 429), (.ref 436), (.ref 443), (.ref 450), (.ref 457), (.ref 464), (.ref 471), (.ref 478), (.ref 485), (.ref 492), (.ref 499), (.ref 506), (.ref 513), (.ref 520), (.ref 527), (.ref 534), (.ref 541), (.ref 548), (.ref 555)] 0), #[]⟩,
  ⟨(.type "tuple"), none, (.seq #[(.int 1 995), (.int 2 996), (.int 2 997), (.int 2 998), (.int 2 999), (.int 2 1000), (.int 2 1001), (.int 2 1002), (.int 1 1003), (.int 1 1004), (.int 1 1005), (.int 1 1006), (.int 1 1007), (.int 1 1008), (.int 1 1009), (.int 1 1010), (.int 1 1011), (.int 1 1012), (.int 1 1013), (.int 1 1014), (.int 1 1015), (.int 1 1016), (.int 1 1017), (.int 1 1018), (.int 1 1019), (.int 1 1020), (.int 1 1021), (.int 1 1022), (.int 1 1023), (.int 1 1024), (.int 1 1025), (.int 1 1026), (.int 1 1027), (.int 1 1028), (.int 1 1029), (.int 1 1030), (.int 1 1031), (.int 1 1032), (.int 1 1033), (.int 1 1034), (.int 2 1035), (.int 2 1036), (.int 2 1037), (.int 1 1038), (.int 1 1039), (.int 1 1040), (.int 1 1041), (.int 1 1042), (.int 2 1043), (.int 2 1044), (.int 2 1045), (.int 1 1046), (.int 1 1047), (.int 1 1048), (.int 1 1049), (.int 1 1050), (.int 2 1051), (.int 2 1052), (.int 2 1053), (.int 1 1054), (.int 1 1055), (.int 1 1056), (.int 1 1057), (.int 1 1058)] 0), #[]⟩,
  ⟨(.type "tuple"), none, (.seq #[] 0), #[]⟩,
  ⟨.none, none, (.fields #[]), #[]⟩,
  ⟨(.type "tuple"), none, (.seq #[(.str z302 1063), (.str z331 1064), (.str z332 1065), (.str z295 1066), (.str z333 1067), (.str z334 1068), (.str z307 1069), (.str z335 1070)] 0), #[]⟩,
  ⟨(.type "tuple"), none, (.seq #[] 0), #[]⟩,
  ⟨.none, none, (.func (fo2 0 0 z273 z273 (defArgs (tp p 113)) (defBody (tp p 113)) (defScope (tp p 113)) .none .none .none .none none .none .none)), #[]⟩,
  ⟨(.type "code"), none, (.fields #[(.str z273 1060), (.str z273 1061), (.str z165 1062), (.int 344 0), (.int 1 0), (.int 0 0), (.int 0 0), (.int 3 0), (.ref 558), (.bool true), (.int 181 0), (.ref 559), .none, (.ref 560), (.ref 561), (.ref 562), (.int 1071 0), (.int 344 0), (.str z165 1072)]), #[]⟩,
  ⟨(.type "function"), none, (.func (PySem.W.fnOf z273 z273 (defArgs (tp p 113)) (defBody (tp p 113)) (defScope (tp p 113)) .none .none .none (.str z336 991) none (.ref 563) .none)), #[]⟩,
  ⟨(.type "tuple"), none, (.seq #[] 0), #[]⟩,
  ⟨.none, none, (.fields #[]), #[]⟩,
  ⟨(.type "tuple"), none, (.seq #[(.str z302 1077), (.str z334 1078), (.str z309 1079), (.str z306 1080), (.str z307 1081), (.str z297 1082)] 0), #[]⟩,
  ⟨(.type "tuple"), none, (.seq #[] 0), #[]⟩,
  ⟨.none, none, (.func (fo2 0 0 z274 z274 (defArgs (tp p 114)) (defBody (tp p 114)) (defScope (tp p 114)) .none .none .none .none none .none .none)), #[]⟩,
  ⟨(.type "code"), none, (.fields #[(.str z274 1074), (.str z274 1075), (.str z165 1076), (.int 362 0), (.int 5 0), (.int 0 0), (.int 0 0), (.int 3 0), (.ref 565), (.bool true), (.int 181 0), (.ref 566), .none, (.ref 567), (.ref 568), (.ref 569), (.int 1083 0), (.int 362 0), (.str z165 1084)]), #[]⟩,
  ⟨(.type "function"), none, (.func (PySem.W.fnOf z274 z274 (defArgs (tp p 114)) (defBody (tp p 114)) (defScope (tp p 114)) .none .none .none (.str z336 991) none (.ref 570) .none)), #[]⟩,
  ⟨(.type "tuple"), none, (.seq #[] 0), #[]⟩,
  ⟨.none, none, (.fields #[]), #[]⟩,
  ⟨(.type "tuple"), none, (.seq #[(.str z302 1089), (.str z298 1090), (.str z337 1091), (.str z335 1092)] 0), #[]⟩,
  ⟨(.type "tuple"), none, (.seq #[] 0), #[]⟩,
  ⟨.none, none, (.func (fo2 0 0 z275 z275 (defArgs (tp p 115)) (defBody (tp p 115)) (defScope (tp p 115)) .none .none .none .none none .none .none)), #[]⟩,
  ⟨(.type "code"), none, (.fields #[(.str z275 1086), (.str z275 1087), (.str z165 1088), (.int 376 0), (.int 2 0), (.int 0 0), (.int 0 0), (.int 3 0), (.ref 572), (.bool true), (.int 181 0), (.ref 573), .none, (.ref 574), (.ref 575), (.ref 576), (.int 1093 0), (.int 376 0), (.str z165 1094)]), #[]⟩,
  ⟨(.type "function"), none, (.func (PySem.W.fnOf z275 z275 (defArgs (tp p 115)) (defBody (tp p 115)) (defScope (tp p 115)) .none .none .none (.str z336 991) none (.ref 577) .none)), #[]⟩,
  ⟨(.type "tuple"), none, (.seq #[(.int 1 1100), (.int 3 1101), (.int 3 1102), (.int 2 1103), (.int 1 1104), (.int 2 1105), (.int 3 1106)] 0), #[]⟩,
  ⟨(.type "tuple"), none, (.seq #[] 0), #[]⟩,
  ⟨(.type "builtin_function_or_method"), none, (.fields #[(.builtin "type.__prepare__"), (.type "type")]), #[]⟩,
  ⟨(.type "dict"), none, (.dict #[en P z338 1117 (.str z161 1096), en P z339 1119 (.str z279 1118), en P z340 1121 (.int 389 1120), en P z341 1128 (.ref 593), en P z342 1135 (.ref 600), en P z343 1144 (.ref 607), en P z344 1151 (.ref 608)] 7), #[]⟩,
  ⟨(.type "tuple"), none, (.seq #[] 0), #[]⟩,
  ⟨.none, none, (.fields #[(.int 391 0), (.int 4 0), (.ref 592), (.int 394 0), (.int 4 0), (.ref 599), (.int 402 0), (.int 4 0), (.ref 606)]), #[]⟩,
  ⟨(.type "code"), none, (.fields #[(.str z279 1112), (.str z279 1113), (.str z165 1114), (.int 389 0), (.int 0 0), (.int 0 0), (.int 0 0), (.int 0 0), (.ref 583), (.bool false), (.int 181 0), (.ref 584), .none, .none, .none, .none, (.int 1115 0), (.int 389 0), (.str z165 1116)]), #[]⟩,
  ⟨(.type "frame"), none, .plain, #[(some (.ref 585)), (some (.ref 3)), (some (.ref 582)), none, (some (.str z161 1096)), none, (some (.ref 0))]⟩,
  ⟨(.type "tuple"), none, (.seq #[] 0), #[]⟩,
  ⟨.none, none, (.fields #[]), #[]⟩,
  ⟨(.type "tuple"), none, (.seq #[(.str z345 1125)] 0), #[]⟩,
  ⟨(.type "tuple"), none, (.seq #[] 0), #[]⟩,
  ⟨.none, none, (.func (fo2 0 0 z341 z346 (defArgs (inClass (tp p 120) 0)) (defBody (inClass (tp p 120) 0)) (defScope (inClass (tp p 120) 0)) .none .none .none .none none .none .none)), #[]⟩,
  ⟨(.type "code"), none, (.fields #[(.str z341 1122), (.str z346 1123), (.str z165 1124), (.int 391 0), (.int 1 0), (.int 0 0), (.int 0 0), (.int 3 0), (.ref 587), (.bool true), (.int 181 0), (.ref 588), .none, (.ref 589), (.ref 590), (.ref 591), (.int 1126 0), (.int 391 0), (.str z165 1127)]), #[]⟩,
  ⟨(.type "function"), none, (.func (PySem.W.fnOf z341 z346 (defArgs (inClass (tp p 120) 0)) (defBody (inClass (tp p 120) 0)) (defScope (inClass (tp p 120) 0)) .none .none .none (.str z161 1096) none (.ref 592) .none)), #[]⟩,
  ⟨(.type "tuple"), none, (.seq #[] 0), #[]⟩,
  ⟨.none, none, (.fields #[]), #[]⟩,
  ⟨(.type "tuple"), none, (.seq #[(.str z345 1132)] 0), #[]⟩,
  ⟨(.type "tuple"), none, (.seq #[] 0), #[]⟩,
  ⟨.none, none, (.func (fo2 0 0 z342 z347 (defArgs (inClass (tp p 120) 1)) (defBody (inClass (tp p 120) 1)) (defScope (inClass (tp p 120) 1)) .none .none .none .none none .none .none)), #[]⟩,
  ⟨(.type "code"), none, (.fields #[(.str z342 1129), (.str z347 1130), (.str z165 1131), (.int 394 0), (.int 1 0), (.int 0 0), (.int 0 0), (.int 3 0), (.ref 594), (.bool true), (.int 181 0), (.ref 595), .none, (.ref 596), (.ref 597), (.ref 598), (.int 1133 0), (.int 394 0), (.str z165 1134)]), #[]⟩]
def ho10 (p : Program) (P : Params) : List Obj := [
  ⟨(.type "function"), none, (.func (PySem.W.fnOf z342 z347 (defArgs (inClass (tp p 120) 1)) (defBody (inClass (tp p 120) 1)) (defScope (inClass (tp p 120) 1)) .none .none .none (.str z161 1096) none (.ref 599) .none)), #[]⟩,
  ⟨(.type "tuple"), none, (.seq #[] 0), #[]⟩,
  ⟨.none, none, (.fields #[]), #[]⟩,
  ⟨(.type "tuple"), none, (.seq #[(.str z345 1139), (.str z309 1140), (.str z297 1141)] 0), #[]⟩,
  ⟨(.type "tuple"), none, (.seq #[] 0), #[]⟩,
  ⟨.none, none, (.func (fo2 0 0 z343 z348 (defArgs (inClass (tp p 120) 2)) (defBody (inClass (tp p 120) 2)) (defScope (inClass (tp p 120) 2)) .none .none .none .none none .none .none)), #[]⟩,
  ⟨(.type "code"), none, (.fields #[(.str z343 1136), (.str z348 1137), (.str z165 1138), (.int 402 0), (.int 3 0), (.int 0 0), (.int 0 0), (.int 3 0), (.ref 601), (.bool true), (.int 181 0), (.ref 602), .none, (.ref 603), (.ref 604), (.ref 605), (.int 1142 0), (.int 402 0), (.str z165 1143)]), #[]⟩,
  ⟨(.type "function"), none, (.func (PySem.W.fnOf z343 z348 (defArgs (inClass (tp p 120) 2)) (defBody (inClass (tp p 120) 2)) (defScope (inClass (tp p 120) 2)) .none .none .none (.str z161 1096) none (.ref 606) .none)), #[]⟩,
  ⟨(.type "tuple"), none, (.seq #[(.str z291 1145), (.str z331 1146), (.str z292 1147), (.str z349 1148), (.str z335 1149), (.str z350 1150)] 0), #[]⟩,
  ⟨(.type "dict"), none, (.dict #[en P z338 1117 (.str z161 1096), en P z340 1121 (.int 389 1120), en P z341 1128 (.ref 593), en P z342 1135 (.ref 600), en P z343 1144 (.ref 607), en P z344 1151 (.ref 608), en P z351 1153 (.ref 611), en P z352 1155 (.ref 612), en P z2 1156 .none] 4), #[]⟩,
  ⟨(.type "type"), none, (.cls ⟨z279, [(.type "object")], [(.ref 610), (.type "object")], 609, z279, true, [], [], false, none, false⟩), #[none, none, (some (.str z279 1110)), (some (.str z279 1118)), (some (.builtin "object.__new__")), (some (.bool true))]⟩,
  ⟨(.type "getset_descriptor"), none, (.fields #[(.str z351 1152), (.ref 610), (.builtin "function.__dict__"), (.builtin "function.__dict__#set")]), #[]⟩,
  ⟨(.type "getset_descriptor"), none, (.fields #[(.str z352 1154), (.ref 610), (.builtin "ExceptionGroup.__weakref__"), .none]), #[]⟩,
  ⟨(.type "super"), none, (.fields #[(.ref 610), (.ref 610), (.ref 610)]), #[]⟩,
  ⟨(.type "builtin_function_or_method"), none, (.fields #[(.builtin "object.__init_subclass__"), (.ref 610)]), #[]⟩,
  ⟨(.type "tuple"), none, (.seq #[] 0), #[]⟩,
  ⟨.none, none, (.fields #[]), #[]⟩,
  ⟨(.type "tuple"), none, (.seq #[(.str z302 1162), (.str z353 1163)] 0), #[]⟩,
  ⟨(.type "tuple"), none, (.seq #[] 0), #[]⟩,
  ⟨.none, none, (.func (fo2 0 0 z280 z280 (defArgs (tp p 121)) (defBody (tp p 121)) (defScope (tp p 121)) .none .none .none .none none .none .none)), #[]⟩,
  ⟨(.type "code"), none, (.fields #[(.str z280 1159), (.str z280 1160), (.str z165 1161), (.int 405 0), (.int 2 0), (.int 0 0), (.int 0 0), (.int 3 0), (.ref 615), (.bool true), (.int 181 0), (.ref 616), .none, (.ref 617), (.ref 618), (.ref 619), (.int 1164 0), (.int 405 0), (.str z165 1165)]), #[]⟩,
  ⟨(.type "function"), none, (.func (PySem.W.fnOf z280 z280 (defArgs (tp p 121)) (defBody (tp p 121)) (defScope (tp p 121)) .none .none .none (.str z161 1096) none (.ref 620) .none)), #[]⟩,
  ⟨(.type "tuple"), none, (.seq #[] 0), #[]⟩,
  ⟨.none, none, (.fields #[]), #[]⟩,
  ⟨(.type "tuple"), none, (.seq #[(.str z302 1170), (.str z353 1171), (.str z331 1172), (.str z354 1173), (.str z307 1174), (.str z295 1175)] 0), #[]⟩,
  ⟨(.type "tuple"), none, (.seq #[] 0), #[]⟩,
  ⟨.none, none, (.func (fo2 0 0 z281 z281 (defArgs (tp p 122)) (defBody (tp p 122)) (defScope (tp p 122)) .none .none .none .none none .none .none)), #[]⟩,
  ⟨(.type "code"), none, (.fields #[(.str z281 1167), (.str z281 1168), (.str z165 1169), (.int 408 0), (.int 2 0), (.int 0 0), (.int 0 0), (.int 3 0), (.ref 622), (.bool true), (.int 181 0), (.ref 623), .none, (.ref 624), (.ref 625), (.ref 626), (.int 1176 0), (.int 408 0), (.str z165 1177)]), #[]⟩,
  ⟨(.type "function"), none, (.func (PySem.W.fnOf z281 z281 (defArgs (tp p 122)) (defBody (tp p 122)) (defScope (tp p 122)) .none .none .none (.str z161 1096) none (.ref 627) .none)), #[]⟩,
  ⟨(.type "tuple"), none, (.seq #[] 0), #[]⟩,
  ⟨.none, none, (.fields #[]), #[]⟩,
  ⟨(.type "tuple"), none, (.seq #[(.str z302 1182), (.str z353 1183), (.str z331 1184), (.str z298 1185)] 0), #[]⟩,
  ⟨(.type "tuple"), none, (.seq #[] 0), #[]⟩,
  ⟨.none, none, (.func (fo2 0 0 z282 z282 (defArgs (tp p 123)) (defBody (tp p 123)) (defScope (tp p 123)) .none .none .none .none none .none .none)), #[]⟩,
  ⟨(.type "code"), none, (.fields #[(.str z282 1179), (.str z282 1180), (.str z165 1181), (.int 416 0), (.int 2 0), (.int 0 0), (.int 0 0), (.int 3 0), (.ref 629), (.bool true), (.int 181 0), (.ref 630), .none, (.ref 631), (.ref 632), (.ref 633), (.int 1186 0), (.int 416 0), (.str z165 1187)]), #[]⟩,
  ⟨(.type "function"), none, (.func (PySem.W.fnOf z282 z282 (defArgs (tp p 123)) (defBody (tp p 123)) (defScope (tp p 123)) .none .none .none (.str z161 1096) none (.ref 634) .none)), #[]⟩,
  ⟨(.type "tuple"), none, (.seq #[] 0), #[]⟩,
  ⟨.none, none, (.fields #[]), #[]⟩,
  ⟨(.type "tuple"), none, (.seq #[(.str z302 1192), (.str z353 1193)] 0), #[]⟩,
  ⟨(.type "tuple"), none, (.seq #[] 0), #[]⟩,
  ⟨.none, none, (.func (fo2 0 0 z283 z283 (defArgs (tp p 124)) (defBody (tp p 124)) (defScope (tp p 124)) .none .none .none .none none .none .none)), #[]⟩,
  ⟨(.type "code"), none, (.fields #[(.str z283 1189), (.str z283 1190), (.str z165 1191), (.int 422 0), (.int 2 0), (.int 0 0), (.int 0 0), (.int 3 0), (.ref 636), (.bool true), (.int 181 0), (.ref 637), .none, (.ref 638), (.ref 639), (.ref 640), (.int 1194 0), (.int 422 0), (.str z165 1195)]), #[]⟩,
  ⟨(.type "function"), none, (.func (PySem.W.fnOf z283 z283 (defArgs (tp p 124)) (defBody (tp p 124)) (defScope (tp p 124)) .none .none .none (.str z161 1096) none (.ref 641) .none)), #[]⟩,
  ⟨(.type "tuple"), none, (.seq #[] 0), #[]⟩,
  ⟨.none, none, (.fields #[]), #[]⟩,
  ⟨(.type "tuple"), none, (.seq #[(.str z302 1200), (.str z353 1201)] 0), #[]⟩,
  ⟨(.type "tuple"), none, (.seq #[] 0), #[]⟩,
  ⟨.none, none, (.func (fo2 0 0 z284 z284 (defArgs (tp p 125)) (defBody (tp p 125)) (defScope (tp p 125)) .none .none .none .none none .none .none)), #[]⟩,
  ⟨(.type "code"), none, (.fields #[(.str z284 1197), (.str z284 1198), (.str z165 1199), (.int 426 0), (.int 2 0), (.int 0 0), (.int 0 0), (.int 3 0), (.ref 643), (.bool true), (.int 181 0), (.ref 644), .none, (.ref 645), (.ref 646), (.ref 647), (.int 1202 0), (.int 426 0), (.str z165 1203)]), #[]⟩,
  ⟨(.type "function"), none, (.func (PySem.W.fnOf z284 z284 (defArgs (tp p 125)) (defBody (tp p 125)) (defScope (tp p 125)) .none .none .none (.str z161 1096) none (.ref 648) .none)), #[]⟩,
  ⟨(.type "tuple"), none, (.seq #[] 0), #[]⟩,
  ⟨.none, none, (.fields #[]), #[]⟩,
  ⟨(.type "tuple"), none, (.seq #[(.str z302 1208), (.str z353 1209)] 0), #[]⟩,
  ⟨(.type "tuple"), none, (.seq #[] 0), #[]⟩,
  ⟨.none, none, (.func (fo2 0 0 z285 z285 (defArgs (tp p 126)) (defBody (tp p 126)) (defScope (tp p 126)) .none .none .none .none none .none .none)), #[]⟩,
  ⟨(.type "code"), none, (.fields #[(.str z285 1205), (.str z285 1206), (.str z165 1207), (.int 428 0), (.int 2 0), (.int 0 0), (.int 0 0), (.int 3 0), (.ref 650), (.bool true), (.int 181 0), (.ref 651), .none, (.ref 652), (.ref 653), (.ref 654), (.int 1210 0), (.int 428 0), (.str z165 1211)]), #[]⟩,
  ⟨(.type "function"), none, (.func (PySem.W.fnOf z285 z285 (defArgs (tp p 126)) (defBody (tp p 126)) (defScope (tp p 126)) .none .none .none (.str z161 1096) none (.ref 655) .none)), #[]⟩,
  ⟨(.type "tuple"), none, (.seq #[] 0), #[]⟩,
  ⟨.none, none, (.fields #[]), #[]⟩,
  ⟨(.type "tuple"), none, (.seq #[(.str z302 1216), (.str z353 1217)] 0), #[]⟩]
def ho11 (p : Program) (P : Params) : List Obj := [
  ⟨(.type "tuple"), none, (.seq #[] 0), #[]⟩,
  ⟨.none, none, (.func (fo2 0 0 z286 z286 (defArgs (tp p 127)) (defBody (tp p 127)) (defScope (tp p 127)) .none .none .none .none none .none .none)), #[]⟩,
  ⟨(.type "code"), none, (.fields #[(.str z286 1213), (.str z286 1214), (.str z165 1215), (.int 432 0), (.int 2 0), (.int 0 0), (.int 0 0), (.int 3 0), (.ref 657), (.bool true), (.int 181 0), (.ref 658), .none, (.ref 659), (.ref 660), (.ref 661), (.int 1218 0), (.int 432 0), (.str z165 1219)]), #[]⟩,
  ⟨(.type "function"), none, (.func (PySem.W.fnOf z286 z286 (defArgs (tp p 127)) (defBody (tp p 127)) (defScope (tp p 127)) .none .none .none (.str z161 1096) none (.ref 662) .none)), #[]⟩,
  ⟨(.type "tuple"), none, (.seq #[(.ref 621), (.ref 628), (.ref 635), (.ref 642), (.ref 649), (.ref 656), (.ref 663)] 0), #[]⟩,
  ⟨(.type "tuple"), none, (.seq #[] 0), #[]⟩,
  ⟨.none, none, (.fields #[]), #[]⟩,
  ⟨(.type "tuple"), none, (.seq #[(.str z355 1225), (.str z302 1226), (.str z356 1227), (.str z331 1228), (.str z328 1229), (.str z357 1230)] 0), #[]⟩,
  ⟨(.type "tuple"), none, (.seq #[] 0), #[]⟩,
  ⟨.none, none, (.func (fo2 0 0 z288 z288 (defArgs (tp p 129)) (defBody (tp p 129)) (defScope (tp p 129)) .none .none .none .none none .none .none)), #[]⟩,
  ⟨(.type "code"), none, (.fields #[(.str z288 1222), (.str z288 1223), (.str z165 1224), (.int 438 0), (.int 1 0), (.int 0 0), (.int 0 0), (.int 3 0), (.ref 665), (.bool true), (.int 181 0), (.ref 666), .none, (.ref 667), (.ref 668), (.ref 669), (.int 1231 0), (.int 438 0), (.str z165 1232)]), #[]⟩,
  ⟨(.type "function"), none, (.func (PySem.W.fnOf z288 z288 (defArgs (tp p 129)) (defBody (tp p 129)) (defScope (tp p 129)) .none .none .none (.str z161 1096) none (.ref 670) .none)), #[]⟩,
  ⟨(.type "tuple"), none, (.seq #[] 0), #[]⟩,
  ⟨.none, none, (.fields #[]), #[]⟩,
  ⟨(.type "tuple"), none, (.seq #[(.str z355 1237), (.str z331 1238)] 0), #[]⟩,
  ⟨(.type "tuple"), none, (.seq #[] 0), #[]⟩,
  ⟨.none, none, (.func (fo2 0 0 z289 z289 (defArgs (tp p 130)) (defBody (tp p 130)) (defScope (tp p 130)) .none .none .none .none none .none .none)), #[]⟩,
  ⟨(.type "code"), none, (.fields #[(.str z289 1234), (.str z289 1235), (.str z165 1236), (.int 449 0), (.int 2 0), (.int 0 0), (.int 0 0), (.int 3 0), (.ref 672), (.bool true), (.int 181 0), (.ref 673), .none, (.ref 674), (.ref 675), (.ref 676), (.int 1239 0), (.int 449 0), (.str z165 1240)]), #[]⟩,
  ⟨(.type "function"), none, (.func (PySem.W.fnOf z289 z289 (defArgs (tp p 130)) (defBody (tp p 130)) (defScope (tp p 130)) .none .none .none (.str z161 1096) none (.ref 677) .none)), #[]⟩]
def HOs (p : Program) (P : Params) : List Obj := ho0 p P ++ (ho1 p P ++ (ho2 p P ++ (ho3 p P ++ (ho4 p P ++ (ho5 p P ++ (ho6 p P ++ (ho7 p P ++ (ho8 p P ++ (ho9 p P ++ (ho10 p P ++ (ho11 p P)))))))))))
def HH (p : Program) (P : Params) : Heap := { objs := ⟨HOs p P⟩ }
def KK (p : Program) (P : Params) : PySem.W.Frag := (List.range 679).zip (HOs p P)
def QQ (p : Program) : Program := { p with main := { p.main with body := ((((((((p.main.body.eraseIdx 116).eraseIdx 110).eraseIdx 76).eraseIdx 65).eraseIdx 40).eraseIdx 29).eraseIdx 16).eraseIdx 0) } }
def lse : List Str := ["SUMS", "JUMPS", "RESULTS", "CALLS"]
end Sx
end
set_option Elab.async false
set_option linter.all false
set_option maxRecDepth 100000
set_option maxHeartbeats 4000000
lay_quick PySem.Challenge.pw_sixtybit_s01_answers
namespace Sx
open PySem
abbrev pw : Program := PySem.Challenge.pw_sixtybit_s01_answers
theorem run_top (w : World) (os : OsState) : PySem.W.topRun treeTable PySem.Challenge.pw_sixtybit_s01_answers w 11 (some (.ref 6)) 4000 ⟨PySem.W.boot_heap w.params, ⟨[]⟩, PySem.W.boot_drawn, PySem.W.boot_toks, os⟩ (PySem.W.topStub PySem.Challenge.pw_sixtybit_s01_answers) = some ⟨HH PySem.Challenge.pw_sixtybit_s01_answers w.params, ⟨[]⟩, {}, 1242, os⟩ := by
  rw [PySem.W.Fast.te14082659384304107361, PySem.W.Fast.te14364793385576792824, PySem.W.Fast.te17796767978563829583]
  kernel_rfl
end Sx
set_option Elab.async false
set_option linter.all false
set_option maxRecDepth 100000
set_option maxHeartbeats 4000000
namespace Sx
open PySem PySem.W PyProof.Rows
theorem opened_top (w : World) : (PySem.W.fencedOpening treeTable PySem.Challenge.pw_sixtybit_s01_answers w 8000).map (fun s => (s.heap, s.gens, s.drawn, s.toks)) = some (PySem.W.boot_heap w.params, ⟨[]⟩, PySem.W.boot_drawn, PySem.W.boot_toks) :=
  PySem.W.boot_open (by kernel_rfl) (by decide) (fun s => by kernel_rfl) w
theorem size_top (w : World) : ((PySem.W.boot_heap w.params).isNs mainGlobals && (⟨[]⟩ : Array GenState).size == 0, (PySem.W.boot_heap w.params).objs.size, (PySem.W.boot_heap w.params).nsMap mainGlobals "__annotations__") = (true, 11, some (.ref 6)) := by
  kernel_rfl
theorem look1 (w : World) (os : OsState) : (staticsOk (importedModules PySem.Challenge.pw_sixtybit_s01_answers.main.body) (PySem.W.boot_heap w.params) (HH PySem.Challenge.pw_sixtybit_s01_answers w.params) && namesBound PySem.Challenge.pw_sixtybit_s01_answers (HH PySem.Challenge.pw_sixtybit_s01_answers w.params) && gensDone ⟨HH PySem.Challenge.pw_sixtybit_s01_answers w.params, ⟨[]⟩, {}, 1242, os⟩ && laidKept (PySem.W.boot_heap w.params) (HH PySem.Challenge.pw_sixtybit_s01_answers w.params)) = true := by
  rw [PySem.W.Fast.te17796767978563829583]
  kernel_rfl
theorem lk_c0 (w : World) (os : OsState) : seen ((recsOf (QQ PySem.Challenge.pw_sixtybit_s01_answers)).map (·.name)) (ownsOf (QQ PySem.Challenge.pw_sixtybit_s01_answers)) [] ⟨(HH PySem.Challenge.pw_sixtybit_s01_answers w.params), #[], {}, 1242, os⟩ = expectedOf (QQ PySem.Challenge.pw_sixtybit_s01_answers) := by
  rw [PySem.W.Fast.te5160383126252970620, PySem.W.Fast.te3399658132070893891, PySem.W.Fast.te5991557255702980513, PySem.W.Fast.te17796767978563829583]
  kernel_rfl
theorem lk_c1 (w : World) (os : OsState) : (HH PySem.Challenge.pw_sixtybit_s01_answers w.params).bltView = bltViewBooted := by
  rw [PySem.W.Fast.te17796767978563829583]
  kernel_rfl
theorem lk_c2a (w : World) (os : OsState) : (HH PySem.Challenge.pw_sixtybit_s01_answers w.params).keysOk (looseW (QQ PySem.Challenge.pw_sixtybit_s01_answers) lse) ((recsOf (QQ PySem.Challenge.pw_sixtybit_s01_answers)).map (·.name)) ((litsOf (QQ PySem.Challenge.pw_sixtybit_s01_answers)).map (·.1)) ((clssOf (QQ PySem.Challenge.pw_sixtybit_s01_answers) (looseW (QQ PySem.Challenge.pw_sixtybit_s01_answers) lse)).map (·.name)) = true := by
  rw [PySem.W.Fast.te10880121769531294198, PySem.W.Fast.te821141287760084731, PySem.W.Fast.te3399658132070893891, PySem.W.Fast.te7409074990110511671, PySem.W.Fast.te13664370479719496447, PySem.W.Fast.te17796767978563829583]
  kernel_rfl
theorem lk_c2b (w : World) (os : OsState) : (HH PySem.Challenge.pw_sixtybit_s01_answers w.params).accountedOkI (importedModules PySem.Challenge.pw_sixtybit_s01_answers.main.body) = true := by
  rw [PySem.W.Fast.te14722251495701143533, PySem.W.Fast.te17796767978563829583]
  kernel_rfl
theorem lk_c2c (w : World) (os : OsState) : ((HH PySem.Challenge.pw_sixtybit_s01_answers w.params).isNs mainGlobals && (HH PySem.Challenge.pw_sixtybit_s01_answers w.params).isNs builtinsNs) = true := by
  rw [PySem.W.Fast.te17796767978563829583]
  kernel_rfl
theorem lk_c2d (w : World) (os : OsState) : tablesOk (QQ PySem.Challenge.pw_sixtybit_s01_answers) (HH PySem.Challenge.pw_sixtybit_s01_answers w.params) = true := by
  rw [PySem.W.Fast.te10994771534591457954, PySem.W.Fast.te17796767978563829583]
  kernel_rfl
theorem lk_c2e (w : World) (os : OsState) : (xlAt (QQ PySem.Challenge.pw_sixtybit_s01_answers) [] (⟨HH PySem.Challenge.pw_sixtybit_s01_answers w.params, ⟨[]⟩, {}, 1242, os⟩ : Shared) && recOk [] (⟨HH PySem.Challenge.pw_sixtybit_s01_answers w.params, ⟨[]⟩, {}, 1242, os⟩ : Shared)) = true := by
  rw [PySem.W.Fast.te17796767978563829583]
  kernel_rfl
theorem lk_c3 (w : World) (os : OsState) : tabsOk (QQ PySem.Challenge.pw_sixtybit_s01_answers) (⟨HH PySem.Challenge.pw_sixtybit_s01_answers w.params, ⟨[]⟩, {}, 1242, os⟩ : Shared) = true := by
  rw [PySem.W.Fast.te479339242167458305, PySem.W.Fast.te17796767978563829583]
  kernel_rfl
theorem lk_c4 (w : World) (os : OsState) : pinSeenD (QQ PySem.Challenge.pw_sixtybit_s01_answers) (drecsOf (QQ PySem.Challenge.pw_sixtybit_s01_answers)) (⟨HH PySem.Challenge.pw_sixtybit_s01_answers w.params, ⟨[]⟩, {}, 1242, os⟩ : Shared) = pinGoodD (drecsOf (QQ PySem.Challenge.pw_sixtybit_s01_answers)) := by
  rw [PySem.W.Fast.te16090120013241838585, PySem.W.Fast.te3247288618530077131, PySem.W.Fast.te17796767978563829583]
  kernel_rfl
theorem lk_c5 (w : World) (os : OsState) : plainSeenE (QQ PySem.Challenge.pw_sixtybit_s01_answers) (looseW (QQ PySem.Challenge.pw_sixtybit_s01_answers) lse) (⟨HH PySem.Challenge.pw_sixtybit_s01_answers w.params, ⟨[]⟩, {}, 1242, os⟩ : Shared) = plainGoodE (QQ PySem.Challenge.pw_sixtybit_s01_answers) (looseW (QQ PySem.Challenge.pw_sixtybit_s01_answers) lse) := by
  rw [PySem.W.Fast.te2386780881361962483, PySem.W.Fast.te821141287760084731, PySem.W.Fast.te17796767978563829583]
  kernel_rfl
theorem lk_c6 (w : World) (os : OsState) : plainSeenD (QQ PySem.Challenge.pw_sixtybit_s01_answers) lse (⟨HH PySem.Challenge.pw_sixtybit_s01_answers w.params, ⟨[]⟩, {}, 1242, os⟩ : Shared) = plainGoodD (QQ PySem.Challenge.pw_sixtybit_s01_answers) lse := by
  rw [PySem.W.Fast.te11698064438423848299, PySem.W.Fast.te17796767978563829583]
  kernel_rfl
theorem lk_c7 (w : World) (os : OsState) : wideSeen (QQ PySem.Challenge.pw_sixtybit_s01_answers) (⟨HH PySem.Challenge.pw_sixtybit_s01_answers w.params, ⟨[]⟩, {}, 1242, os⟩ : Shared) = wideGood (QQ PySem.Challenge.pw_sixtybit_s01_answers) := by
  rw [PySem.W.Fast.te7317090234206586261, PySem.W.Fast.te17796767978563829583]
  kernel_rfl
theorem lk_c8 (w : World) (os : OsState) : clsSeenW (QQ PySem.Challenge.pw_sixtybit_s01_answers) lse (⟨HH PySem.Challenge.pw_sixtybit_s01_answers w.params, ⟨[]⟩, {}, 1242, os⟩ : Shared) = clsGoodW (QQ PySem.Challenge.pw_sixtybit_s01_answers) lse := by
  rw [PySem.W.Fast.te7369524293546568484, PySem.W.Fast.te17796767978563829583]
  kernel_rfl
end Sx
set_option Elab.async false
set_option linter.all false
set_option maxRecDepth 100000
set_option maxHeartbeats 4000000
namespace Sx
open PySem PySem.W PyProof.Rows
def Xt (s : Shared) : Bool := xlAt (QQ PySem.Challenge.pw_sixtybit_s01_answers) [] s && recOk [] s
theorem seen_all (w : World) (os : OsState) : openSeen (QQ PySem.Challenge.pw_sixtybit_s01_answers) lse (importedModules PySem.Challenge.pw_sixtybit_s01_answers.main.body) Xt true ⟨HH PySem.Challenge.pw_sixtybit_s01_answers w.params, ⟨[]⟩, {}, 1242, os⟩ = openGood (QQ PySem.Challenge.pw_sixtybit_s01_answers) lse := by
  have h := Bool.and_eq_true_iff.mp (lk_c2c w os)
  have hx : Xt ⟨HH PySem.Challenge.pw_sixtybit_s01_answers w.params, ⟨[]⟩, {}, 1242, os⟩ = true := lk_c2e w os
  have hb : ((HH PySem.Challenge.pw_sixtybit_s01_answers w.params).keysOk (looseW (QQ PySem.Challenge.pw_sixtybit_s01_answers) lse) ((recsOf (QQ PySem.Challenge.pw_sixtybit_s01_answers)).map (·.name)) ((litsOf (QQ PySem.Challenge.pw_sixtybit_s01_answers)).map (·.1)) ((clssOf (QQ PySem.Challenge.pw_sixtybit_s01_answers) (looseW (QQ PySem.Challenge.pw_sixtybit_s01_answers) lse)).map (·.name)) && (HH PySem.Challenge.pw_sixtybit_s01_answers w.params).accountedOkI (importedModules PySem.Challenge.pw_sixtybit_s01_answers.main.body) && (HH PySem.Challenge.pw_sixtybit_s01_answers w.params).isNs mainGlobals && (HH PySem.Challenge.pw_sixtybit_s01_answers w.params).isNs builtinsNs && tablesOk (QQ PySem.Challenge.pw_sixtybit_s01_answers) (HH PySem.Challenge.pw_sixtybit_s01_answers w.params) && Xt ⟨HH PySem.Challenge.pw_sixtybit_s01_answers w.params, ⟨[]⟩, {}, 1242, os⟩ && true) = true := by
    rw [lk_c2a w os, lk_c2b w os, h.1, h.2, lk_c2d w os, hx]; rfl
  have e0 := lk_c0 w os
  have e1 := lk_c1 w os
  have e3 := lk_c3 w os
  have e4 := lk_c4 w os
  have e5 := lk_c5 w os
  have e6 := lk_c6 w os
  have e7 := lk_c7 w os
  have e8 := lk_c8 w os
  show (seen ((recsOf (QQ PySem.Challenge.pw_sixtybit_s01_answers)).map (·.name)) (ownsOf (QQ PySem.Challenge.pw_sixtybit_s01_answers)) [] ⟨HH PySem.Challenge.pw_sixtybit_s01_answers w.params, #[], {}, 1242, os⟩, (HH PySem.Challenge.pw_sixtybit_s01_answers w.params).bltView,
    ((HH PySem.Challenge.pw_sixtybit_s01_answers w.params).keysOk (looseW (QQ PySem.Challenge.pw_sixtybit_s01_answers) lse) ((recsOf (QQ PySem.Challenge.pw_sixtybit_s01_answers)).map (·.name)) ((litsOf (QQ PySem.Challenge.pw_sixtybit_s01_answers)).map (·.1)) ((clssOf (QQ PySem.Challenge.pw_sixtybit_s01_answers) (looseW (QQ PySem.Challenge.pw_sixtybit_s01_answers) lse)).map (·.name)) && (HH PySem.Challenge.pw_sixtybit_s01_answers w.params).accountedOkI (importedModules PySem.Challenge.pw_sixtybit_s01_answers.main.body) && (HH PySem.Challenge.pw_sixtybit_s01_answers w.params).isNs mainGlobals && (HH PySem.Challenge.pw_sixtybit_s01_answers w.params).isNs builtinsNs && tablesOk (QQ PySem.Challenge.pw_sixtybit_s01_answers) (HH PySem.Challenge.pw_sixtybit_s01_answers w.params) && Xt ⟨HH PySem.Challenge.pw_sixtybit_s01_answers w.params, ⟨[]⟩, {}, 1242, os⟩ && true),
    tabsOk (QQ PySem.Challenge.pw_sixtybit_s01_answers) ⟨HH PySem.Challenge.pw_sixtybit_s01_answers w.params, ⟨[]⟩, {}, 1242, os⟩, pinSeenD (QQ PySem.Challenge.pw_sixtybit_s01_answers) (drecsOf (QQ PySem.Challenge.pw_sixtybit_s01_answers)) ⟨HH PySem.Challenge.pw_sixtybit_s01_answers w.params, ⟨[]⟩, {}, 1242, os⟩, plainSeenE (QQ PySem.Challenge.pw_sixtybit_s01_answers) (looseW (QQ PySem.Challenge.pw_sixtybit_s01_answers) lse) ⟨HH PySem.Challenge.pw_sixtybit_s01_answers w.params, ⟨[]⟩, {}, 1242, os⟩, plainSeenD (QQ PySem.Challenge.pw_sixtybit_s01_answers) lse ⟨HH PySem.Challenge.pw_sixtybit_s01_answers w.params, ⟨[]⟩, {}, 1242, os⟩, wideSeen (QQ PySem.Challenge.pw_sixtybit_s01_answers) ⟨HH PySem.Challenge.pw_sixtybit_s01_answers w.params, ⟨[]⟩, {}, 1242, os⟩, clsSeenW (QQ PySem.Challenge.pw_sixtybit_s01_answers) lse ⟨HH PySem.Challenge.pw_sixtybit_s01_answers w.params, ⟨[]⟩, {}, 1242, os⟩) = openGood (QQ PySem.Challenge.pw_sixtybit_s01_answers) lse
  rw [e0, e1, hb, e3, e4, e5, e6, e7, e8]
  rfl
def as : List Addr := List.range 679
def KP (P : Params) : Frag := KK PySem.Challenge.pw_sixtybit_s01_answers P
theorem as_KP (P : Params) : as = (KP P).map (·.1) := by kernel_rfl
theorem got_KP (w : World) : as.map (HH PySem.Challenge.pw_sixtybit_s01_answers w.params).get? = (KP w.params).map fun p => some p.2 := by kernel_rfl
theorem left_top : LeftO PySem.Challenge.pw_sixtybit_s01_answers (QQ PySem.Challenge.pw_sixtybit_s01_answers) lse Xt (fun s => as.map s.heap.get?) (fun w => (KP w.params).map fun p => some p.2) 8000 :=
  LeftO.of_pieces (H₀ := boot_heap) (H₁ := HH PySem.Challenge.pw_sixtybit_s01_answers) (gs₀ := ⟨[]⟩) (gs₁ := ⟨[]⟩) (d₀ := boot_drawn) (d₁ := {}) (k₀ := boot_toks) (k₁ := 1242) (m₀ := 11) (ann := some (.ref 6)) (M := 4000) opened_top size_top run_top (by decide)
    fun w => funext fun os => Prod.ext (look1 w os) (Prod.ext (seen_all w os) (got_KP w))
end Sx
set_option Elab.async false
set_option linter.all false
set_option maxRecDepth 100000
set_option maxHeartbeats 4000000
namespace Sx
open PySem L2
section
variable {P : Params} {h : Heap} {mg : Str → Option Value}
theorem fc_ONES60 (X : (KP P).In h) (G : h.Ns mainGlobals mg) : ∃ t, mg "ONES60" = some (Value.int 1152921504606846975 t) := const_mk X G (t := 189) (by kernel_rfl)
theorem fc_SIGN60 (X : (KP P).In h) (G : h.Ns mainGlobals mg) : ∃ t, mg "SIGN60" = some (Value.int 576460752303423488 t) := const_mk X G (t := 191) (by kernel_rfl)
theorem fc_ONES18 (X : (KP P).In h) (G : h.Ns mainGlobals mg) : ∃ t, mg "ONES18" = some (Value.int 262143 t) := const_mk X G (t := 193) (by kernel_rfl)
theorem fc_SIGN18 (X : (KP P).In h) (G : h.Ns mainGlobals mg) : ∃ t, mg "SIGN18" = some (Value.int 131072 t) := const_mk X G (t := 195) (by kernel_rfl)
theorem fc_MEMORY_WORDS (X : (KP P).In h) (G : h.Ns mainGlobals mg) : ∃ t, mg "MEMORY_WORDS" = some (Value.int 65536 t) := const_mk X G (t := 197) (by kernel_rfl)
theorem fc_FIRST_B (X : (KP P).In h) (G : h.Ns mainGlobals mg) : ∃ t, mg "FIRST_B" = some (Value.int 8 t) := const_mk X G (t := 281) (by kernel_rfl)
theorem fc_FIRST_X (X : (KP P).In h) (G : h.Ns mainGlobals mg) : ∃ t, mg "FIRST_X" = some (Value.int 16 t) := const_mk X G (t := 283) (by kernel_rfl)
theorem fc_NEXT_WORD (X : (KP P).In h) (G : h.Ns mainGlobals mg) : ∃ t, mg "NEXT_WORD" = some (Value.int 24 t) := const_mk X G (t := 285) (by kernel_rfl)
theorem fc_LAST_TOLD (X : (KP P).In h) (G : h.Ns mainGlobals mg) : ∃ t, mg "LAST_TOLD" = some (Value.int 25 t) := const_mk X G (t := 287) (by kernel_rfl)
theorem fc_LAST_SET (X : (KP P).In h) (G : h.Ns mainGlobals mg) : ∃ t, mg "LAST_SET" = some (Value.int 24 t) := const_mk X G (t := 289) (by kernel_rfl)
theorem fc_DONE (X : (KP P).In h) (G : h.Ns mainGlobals mg) : ∃ t, mg "DONE" = some (Value.int 0 t) := const_mk X G (t := 308) (by kernel_rfl)
theorem fc_STOPPED (X : (KP P).In h) (G : h.Ns mainGlobals mg) : ∃ t, mg "STOPPED" = some (Value.int 1 t) := const_mk X G (t := 310) (by kernel_rfl)
theorem fc_NO_WORD (X : (KP P).In h) (G : h.Ns mainGlobals mg) : ∃ t, mg "NO_WORD" = some (Value.int 2 t) := const_mk X G (t := 312) (by kernel_rfl)
theorem fc_CUT_OFF (X : (KP P).In h) (G : h.Ns mainGlobals mg) : ∃ t, mg "CUT_OFF" = some (Value.int 3 t) := const_mk X G (t := 314) (by kernel_rfl)
theorem fc_NO_INSTRUCTION (X : (KP P).In h) (G : h.Ns mainGlobals mg) : ∃ t, mg "NO_INSTRUCTION" = some (Value.int 4 t) := const_mk X G (t := 316) (by kernel_rfl)
theorem fc_INFINITE (X : (KP P).In h) (G : h.Ns mainGlobals mg) : ∃ t, mg "INFINITE" = some (Value.int 2047 t) := const_mk X G (t := 404) (by kernel_rfl)
theorem fc_INDEFINITE (X : (KP P).In h) (G : h.Ns mainGlobals mg) : ∃ t, mg "INDEFINITE" = some (Value.int 1023 t) := const_mk X G (t := 406) (by kernel_rfl)
theorem fc_INFINITE_WORD (X : (KP P).In h) (G : h.Ns mainGlobals mg) : ∃ t, mg "INFINITE_WORD" = some (Value.int 576179277326712832 t) := const_mk X G (t := 408) (by kernel_rfl)
theorem fc_INDEFINITE_WORD (X : (KP P).In h) (G : h.Ns mainGlobals mg) : ∃ t, mg "INDEFINITE_WORD" = some (Value.int 287948901175001088 t) := const_mk X G (t := 410) (by kernel_rfl)
theorem fc_COEFFICIENT (X : (KP P).In h) (G : h.Ns mainGlobals mg) : ∃ t, mg "COEFFICIENT" = some (Value.int 281474976710655 t) := const_mk X G (t := 412) (by kernel_rfl)
theorem fc_TOP_BIT (X : (KP P).In h) (G : h.Ns mainGlobals mg) : ∃ t, mg "TOP_BIT" = some (Value.int 140737488355328 t) := const_mk X G (t := 414) (by kernel_rfl)
theorem fc_UPPER (X : (KP P).In h) (G : h.Ns mainGlobals mg) : ∃ t, mg "UPPER" = some (Value.int 0 t) := const_mk X G (t := 416) (by kernel_rfl)
theorem fc_LOWER (X : (KP P).In h) (G : h.Ns mainGlobals mg) : ∃ t, mg "LOWER" = some (Value.int 1 t) := const_mk X G (t := 418) (by kernel_rfl)
theorem fc_ROUNDED (X : (KP P).In h) (G : h.Ns mainGlobals mg) : ∃ t, mg "ROUNDED" = some (Value.int 2 t) := const_mk X G (t := 420) (by kernel_rfl)
theorem fc_MEMORY_PARTS (X : (KP P).In h) (G : h.Ns mainGlobals mg) : ∃ t, mg "MEMORY_PARTS" = some (Value.int 262144 t) := const_mk X G (t := 993) (by kernel_rfl)
theorem fc_LOAD (X : (KP P).In h) (G : h.Ns mainGlobals mg) : ∃ t, mg "LOAD" = some (Value.int 1 t) := const_mk X G (t := 1098) (by kernel_rfl)
theorem fc_MOST_STEPS (X : (KP P).In h) (G : h.Ns mainGlobals mg) : ∃ t, mg "MOST_STEPS" = some (Value.int 10000000 t) := const_mk X G (t := 1108) (by kernel_rfl)
theorem ft_SUMS (X : (KP P).In h) (G : h.Ns mainGlobals mg) : Tab (KP P) mg "SUMS" ["a_plus_number", "b_plus_number", "x_plus_number", "x_plus_b", "a_plus_b", "a_minus_b", "b_plus_b", "b_minus_b"] := tab_mk X G (a := 155) (od := none) (osl := #[]) (its := #[(.ref 105), (.ref 112), (.ref 119), (.ref 126), (.ref 133), (.ref 140), (.ref 147), (.ref 154)]) (n := 0) (by kernel_rfl) (by kernel_rfl) (by kernel_rfl) (by kernel_rfl) (by decide +kernel)
theorem ft_JUMPS (X : (KP P).In h) (G : h.Ns mainGlobals mg) : Tab (KP P) mg "JUMPS" ["stop", "leave_way_back", "go_on_from_b", "go_on_by_x", "go_on_if_same", "go_on_unless_same", "go_on_unless_less", "go_on_if_less"] := tab_mk X G (a := 331) (od := none) (osl := #[]) (its := #[(.ref 274), (.ref 281), (.ref 288), (.ref 295), (.ref 302), (.ref 309), (.ref 316), (.ref 323)]) (n := 0) (by kernel_rfl) (by kernel_rfl) (by kernel_rfl) (by kernel_rfl) (by decide +kernel)
theorem ft_RESULTS (X : (KP P).In h) (G : h.Ns mainGlobals mg) : Tab (KP P) mg "RESULTS" ["copied", "both", "either", "one_alone", "complement", "both_complement", "either_complement", "one_alone_complement", "left_by_jk", "right_by_jk", "left_by_b", "right_by_b", "normalize", "normalize_rounded", "unpack", "pack", "upper_total", "upper_difference", "lower_total", "lower_difference", "rounded_total", "rounded_difference", "whole_total", "whole_difference", "upper_product", "rounded_product", "lower_product", "mask", "plain_quotient", "rounded_quotient", "unchanged", "count_of_ones"] := tab_mk X G (a := 556) (od := none) (osl := #[]) (its := #[(.ref 338), (.ref 345), (.ref 352), (.ref 359), (.ref 366), (.ref 373), (.ref 380), (.ref 387), (.ref 394), (.ref 401), (.ref 408), (.ref 415), (.ref 422), (.ref 429), (.ref 436), (.ref 443), (.ref 450), (.ref 457), (.ref 464), (.ref 471), (.ref 478), (.ref 485), (.ref 492), (.ref 499), (.ref 506), (.ref 513), (.ref 520), (.ref 527), (.ref 534), (.ref 541), (.ref 548), (.ref 555)]) (n := 0) (by kernel_rfl) (by kernel_rfl) (by kernel_rfl) (by kernel_rfl) (by decide +kernel)
theorem ft_PARTS (X : (KP P).In h) (G : h.Ns mainGlobals mg) : TabI (KP P) mg "PARTS" [1, 2, 2, 2, 2, 2, 2, 2, 1, 1, 1, 1, 1, 1, 1, 1, 1, 1, 1, 1, 1, 1, 1, 1, 1, 1, 1, 1, 1, 1, 1, 1, 1, 1, 1, 1, 1, 1, 1, 1, 2, 2, 2, 1, 1, 1, 1, 1, 2, 2, 2, 1, 1, 1, 1, 1, 2, 2, 2, 1, 1, 1, 1, 1] := tabi_mk X G (a := 557) (od := none) (osl := #[]) (its := #[(.int 1 995), (.int 2 996), (.int 2 997), (.int 2 998), (.int 2 999), (.int 2 1000), (.int 2 1001), (.int 2 1002), (.int 1 1003), (.int 1 1004), (.int 1 1005), (.int 1 1006), (.int 1 1007), (.int 1 1008), (.int 1 1009), (.int 1 1010), (.int 1 1011), (.int 1 1012), (.int 1 1013), (.int 1 1014), (.int 1 1015), (.int 1 1016), (.int 1 1017), (.int 1 1018), (.int 1 1019), (.int 1 1020), (.int 1 1021), (.int 1 1022), (.int 1 1023), (.int 1 1024), (.int 1 1025), (.int 1 1026), (.int 1 1027), (.int 1 1028), (.int 1 1029), (.int 1 1030), (.int 1 1031), (.int 1 1032), (.int 1 1033), (.int 1 1034), (.int 2 1035), (.int 2 1036), (.int 2 1037), (.int 1 1038), (.int 1 1039), (.int 1 1040), (.int 1 1041), (.int 1 1042), (.int 2 1043), (.int 2 1044), (.int 2 1045), (.int 1 1046), (.int 1 1047), (.int 1 1048), (.int 1 1049), (.int 1 1050), (.int 2 1051), (.int 2 1052), (.int 2 1053), (.int 1 1054), (.int 1 1055), (.int 1 1056), (.int 1 1057), (.int 1 1058)]) (n := 0) (by kernel_rfl) (by kernel_rfl) (by kernel_rfl) (by decide +kernel)
theorem ft_LENGTHS (X : (KP P).In h) (G : h.Ns mainGlobals mg) : TabI (KP P) mg "LENGTHS" [1, 3, 3, 2, 1, 2, 3] := tabi_mk X G (a := 579) (od := none) (osl := #[]) (its := #[(.int 1 1100), (.int 3 1101), (.int 3 1102), (.int 2 1103), (.int 1 1104), (.int 2 1105), (.int 3 1106)]) (n := 0) (by kernel_rfl) (by kernel_rfl) (by kernel_rfl) (by decide +kernel)
theorem ft_CALLS (X : (KP P).In h) (G : h.Ns mainGlobals mg) : Tab (KP P) mg "CALLS" ["begin_anew", "load", "look", "run_steps", "why_ended", "tell_number", "set_number"] := tab_mk X G (a := 664) (od := none) (osl := #[]) (its := #[(.ref 621), (.ref 628), (.ref 635), (.ref 642), (.ref 649), (.ref 656), (.ref 663)]) (n := 0) (by kernel_rfl) (by kernel_rfl) (by kernel_rfl) (by kernel_rfl) (by decide +kernel)
theorem fd_plus (X : (KP P).In h) (G : h.Ns mainGlobals mg) : Dx (KP P) mg "plus" s_plus ["a", "b", "ones"] := dx_mk X G (f := 21) (oc := .type "function") (od := none) (osl := #[]) (kV := .none) (doc := .none) (pm := (.str z294 187)) (an := none) (cdv := (.ref 20)) (ct := .none) (by kernel_rfl) (by kernel_rfl) (by kernel_rfl) (by kernel_rfl) (fun _ _ _ _ _ _ us hl => match us, hl with | [_, _, _], _ => rfl)
theorem fd_minus (X : (KP P).In h) (G : h.Ns mainGlobals mg) : Dx (KP P) mg "minus" s_minus ["a", "b", "ones"] := dx_mk X G (f := 28) (oc := .type "function") (od := none) (osl := #[]) (kV := .none) (doc := .none) (pm := (.str z294 187)) (an := none) (cdv := (.ref 27)) (ct := .none) (by kernel_rfl) (by kernel_rfl) (by kernel_rfl) (by kernel_rfl) (fun _ _ _ _ _ _ us hl => match us, hl with | [_, _, _], _ => rfl)
theorem fd_below_zero (X : (KP P).In h) (G : h.Ns mainGlobals mg) : Dx (KP P) mg "below_zero" s_below_zero ["word"] := dx_mk X G (f := 35) (oc := .type "function") (od := none) (osl := #[]) (kV := .none) (doc := .none) (pm := (.str z294 187)) (an := none) (cdv := (.ref 34)) (ct := .none) (by kernel_rfl) (by kernel_rfl) (by kernel_rfl) (by kernel_rfl) (fun _ _ _ _ _ _ us hl => match us, hl with | [_], _ => rfl)
theorem fd_size_of (X : (KP P).In h) (G : h.Ns mainGlobals mg) : Dx (KP P) mg "size_of" s_size_of ["word"] := dx_mk X G (f := 42) (oc := .type "function") (od := none) (osl := #[]) (kV := .none) (doc := .none) (pm := (.str z294 187)) (an := none) (cdv := (.ref 41)) (ct := .none) (by kernel_rfl) (by kernel_rfl) (by kernel_rfl) (by kernel_rfl) (fun _ _ _ _ _ _ us hl => match us, hl with | [_], _ => rfl)
theorem fd_with_sign (X : (KP P).In h) (G : h.Ns mainGlobals mg) : Dx (KP P) mg "with_sign" s_with_sign ["word", "negative"] := dx_mk X G (f := 49) (oc := .type "function") (od := none) (osl := #[]) (kV := .none) (doc := .none) (pm := (.str z294 187)) (an := none) (cdv := (.ref 48)) (ct := .none) (by kernel_rfl) (by kernel_rfl) (by kernel_rfl) (by kernel_rfl) (fun _ _ _ _ _ _ us hl => match us, hl with | [_, _], _ => rfl)
theorem fd_in_60_bits (X : (KP P).In h) (G : h.Ns mainGlobals mg) : Dx (KP P) mg "in_60_bits" s_in_60_bits ["number"] := dx_mk X G (f := 56) (oc := .type "function") (od := none) (osl := #[]) (kV := .none) (doc := .none) (pm := (.str z294 187)) (an := none) (cdv := (.ref 55)) (ct := .none) (by kernel_rfl) (by kernel_rfl) (by kernel_rfl) (by kernel_rfl) (fun _ _ _ _ _ _ us hl => match us, hl with | [_], _ => rfl)
theorem fd_left_around (X : (KP P).In h) (G : h.Ns mainGlobals mg) : Dx (KP P) mg "left_around" s_left_around ["word", "n"] := dx_mk X G (f := 63) (oc := .type "function") (od := none) (osl := #[]) (kV := .none) (doc := .none) (pm := (.str z294 187)) (an := none) (cdv := (.ref 62)) (ct := .none) (by kernel_rfl) (by kernel_rfl) (by kernel_rfl) (by kernel_rfl) (fun _ _ _ _ _ _ us hl => match us, hl with | [_, _], _ => rfl)
theorem fd_right_with_sign (X : (KP P).In h) (G : h.Ns mainGlobals mg) : Dx (KP P) mg "right_with_sign" s_right_with_sign ["word", "n"] := dx_mk X G (f := 70) (oc := .type "function") (od := none) (osl := #[]) (kV := .none) (doc := .none) (pm := (.str z294 187)) (an := none) (cdv := (.ref 69)) (ct := .none) (by kernel_rfl) (by kernel_rfl) (by kernel_rfl) (by kernel_rfl) (fun _ _ _ _ _ _ us hl => match us, hl with | [_, _], _ => rfl)
theorem fd_ones_in (X : (KP P).In h) (G : h.Ns mainGlobals mg) : Dx (KP P) mg "ones_in" s_ones_in ["word"] := dx_mk X G (f := 77) (oc := .type "function") (od := none) (osl := #[]) (kV := .none) (doc := .none) (pm := (.str z294 187)) (an := none) (cdv := (.ref 76)) (ct := .none) (by kernel_rfl) (by kernel_rfl) (by kernel_rfl) (by kernel_rfl) (fun _ _ _ _ _ _ us hl => match us, hl with | [_], _ => rfl)
theorem fd_upper_ones (X : (KP P).In h) (G : h.Ns mainGlobals mg) : Dx (KP P) mg "upper_ones" s_upper_ones ["n"] := dx_mk X G (f := 84) (oc := .type "function") (od := none) (osl := #[]) (kV := .none) (doc := .none) (pm := (.str z294 187)) (an := none) (cdv := (.ref 83)) (ct := .none) (by kernel_rfl) (by kernel_rfl) (by kernel_rfl) (by kernel_rfl) (fun _ _ _ _ _ _ us hl => match us, hl with | [_], _ => rfl)
theorem fd_number_in (X : (KP P).In h) (G : h.Ns mainGlobals mg) : Dx (KP P) mg "number_in" s_number_in ["m", "which"] := dx_mk X G (f := 91) (oc := .type "function") (od := none) (osl := #[]) (kV := .none) (doc := .none) (pm := (.str z304 279)) (an := none) (cdv := (.ref 90)) (ct := .none) (by kernel_rfl) (by kernel_rfl) (by kernel_rfl) (by kernel_rfl) (fun _ _ _ _ _ _ us hl => match us, hl with | [_, _], _ => rfl)
theorem fd_put_number (X : (KP P).In h) (G : h.Ns mainGlobals mg) : Dx (KP P) mg "put_number" s_put_number ["m", "which", "value"] := dx_mk X G (f := 98) (oc := .type "function") (od := none) (osl := #[]) (kV := .none) (doc := .none) (pm := (.str z304 279)) (an := none) (cdv := (.ref 97)) (ct := .none) (by kernel_rfl) (by kernel_rfl) (by kernel_rfl) (by kernel_rfl) (fun _ _ _ _ _ _ us hl => match us, hl with | [_, _, _], _ => rfl)
theorem fd_a_plus_number (X : (KP P).In h) (G : h.Ns mainGlobals mg) : Dx (KP P) mg "a_plus_number" s_a_plus_number ["m", "j", "k"] := dx_mk X G (f := 105) (oc := .type "function") (od := none) (osl := #[]) (kV := .none) (doc := .none) (pm := (.str z308 318)) (an := none) (cdv := (.ref 104)) (ct := .none) (by kernel_rfl) (by kernel_rfl) (by kernel_rfl) (by kernel_rfl) (fun _ _ _ _ _ _ us hl => match us, hl with | [_, _, _], _ => rfl)
theorem fd_b_plus_number (X : (KP P).In h) (G : h.Ns mainGlobals mg) : Dx (KP P) mg "b_plus_number" s_b_plus_number ["m", "j", "k"] := dx_mk X G (f := 112) (oc := .type "function") (od := none) (osl := #[]) (kV := .none) (doc := .none) (pm := (.str z308 318)) (an := none) (cdv := (.ref 111)) (ct := .none) (by kernel_rfl) (by kernel_rfl) (by kernel_rfl) (by kernel_rfl) (fun _ _ _ _ _ _ us hl => match us, hl with | [_, _, _], _ => rfl)
theorem fd_x_plus_number (X : (KP P).In h) (G : h.Ns mainGlobals mg) : Dx (KP P) mg "x_plus_number" s_x_plus_number ["m", "j", "k"] := dx_mk X G (f := 119) (oc := .type "function") (od := none) (osl := #[]) (kV := .none) (doc := .none) (pm := (.str z308 318)) (an := none) (cdv := (.ref 118)) (ct := .none) (by kernel_rfl) (by kernel_rfl) (by kernel_rfl) (by kernel_rfl) (fun _ _ _ _ _ _ us hl => match us, hl with | [_, _, _], _ => rfl)
theorem fd_x_plus_b (X : (KP P).In h) (G : h.Ns mainGlobals mg) : Dx (KP P) mg "x_plus_b" s_x_plus_b ["m", "j", "k"] := dx_mk X G (f := 126) (oc := .type "function") (od := none) (osl := #[]) (kV := .none) (doc := .none) (pm := (.str z308 318)) (an := none) (cdv := (.ref 125)) (ct := .none) (by kernel_rfl) (by kernel_rfl) (by kernel_rfl) (by kernel_rfl) (fun _ _ _ _ _ _ us hl => match us, hl with | [_, _, _], _ => rfl)
theorem fd_a_plus_b (X : (KP P).In h) (G : h.Ns mainGlobals mg) : Dx (KP P) mg "a_plus_b" s_a_plus_b ["m", "j", "k"] := dx_mk X G (f := 133) (oc := .type "function") (od := none) (osl := #[]) (kV := .none) (doc := .none) (pm := (.str z308 318)) (an := none) (cdv := (.ref 132)) (ct := .none) (by kernel_rfl) (by kernel_rfl) (by kernel_rfl) (by kernel_rfl) (fun _ _ _ _ _ _ us hl => match us, hl with | [_, _, _], _ => rfl)
theorem fd_a_minus_b (X : (KP P).In h) (G : h.Ns mainGlobals mg) : Dx (KP P) mg "a_minus_b" s_a_minus_b ["m", "j", "k"] := dx_mk X G (f := 140) (oc := .type "function") (od := none) (osl := #[]) (kV := .none) (doc := .none) (pm := (.str z308 318)) (an := none) (cdv := (.ref 139)) (ct := .none) (by kernel_rfl) (by kernel_rfl) (by kernel_rfl) (by kernel_rfl) (fun _ _ _ _ _ _ us hl => match us, hl with | [_, _, _], _ => rfl)
theorem fd_b_plus_b (X : (KP P).In h) (G : h.Ns mainGlobals mg) : Dx (KP P) mg "b_plus_b" s_b_plus_b ["m", "j", "k"] := dx_mk X G (f := 147) (oc := .type "function") (od := none) (osl := #[]) (kV := .none) (doc := .none) (pm := (.str z308 318)) (an := none) (cdv := (.ref 146)) (ct := .none) (by kernel_rfl) (by kernel_rfl) (by kernel_rfl) (by kernel_rfl) (fun _ _ _ _ _ _ us hl => match us, hl with | [_, _, _], _ => rfl)
theorem fd_b_minus_b (X : (KP P).In h) (G : h.Ns mainGlobals mg) : Dx (KP P) mg "b_minus_b" s_b_minus_b ["m", "j", "k"] := dx_mk X G (f := 154) (oc := .type "function") (od := none) (osl := #[]) (kV := .none) (doc := .none) (pm := (.str z308 318)) (an := none) (cdv := (.ref 153)) (ct := .none) (by kernel_rfl) (by kernel_rfl) (by kernel_rfl) (by kernel_rfl) (fun _ _ _ _ _ _ us hl => match us, hl with | [_, _, _], _ => rfl)
theorem fd_set_a (X : (KP P).In h) (G : h.Ns mainGlobals mg) : Dx (KP P) mg "set_a" s_set_a ["m", "i", "address"] := dx_mk X G (f := 162) (oc := .type "function") (od := none) (osl := #[]) (kV := .none) (doc := .none) (pm := (.str z308 318)) (an := none) (cdv := (.ref 161)) (ct := .none) (by kernel_rfl) (by kernel_rfl) (by kernel_rfl) (by kernel_rfl) (fun _ _ _ _ _ _ us hl => match us, hl with | [_, _, _], _ => rfl)
theorem fd_exponent_field (X : (KP P).In h) (G : h.Ns mainGlobals mg) : Dx (KP P) mg "exponent_field" s_exponent_field ["word"] := dx_mk X G (f := 169) (oc := .type "function") (od := none) (osl := #[]) (kV := .none) (doc := .none) (pm := (.str z311 402)) (an := none) (cdv := (.ref 168)) (ct := .none) (by kernel_rfl) (by kernel_rfl) (by kernel_rfl) (by kernel_rfl) (fun _ _ _ _ _ _ us hl => match us, hl with | [_], _ => rfl)
theorem fd_exponent (X : (KP P).In h) (G : h.Ns mainGlobals mg) : Dx (KP P) mg "exponent" s_exponent ["field"] := dx_mk X G (f := 176) (oc := .type "function") (od := none) (osl := #[]) (kV := .none) (doc := .none) (pm := (.str z311 402)) (an := none) (cdv := (.ref 175)) (ct := .none) (by kernel_rfl) (by kernel_rfl) (by kernel_rfl) (by kernel_rfl) (fun _ _ _ _ _ _ us hl => match us, hl with | [_], _ => rfl)
theorem fd_coefficient (X : (KP P).In h) (G : h.Ns mainGlobals mg) : Dx (KP P) mg "coefficient" s_coefficient ["word"] := dx_mk X G (f := 183) (oc := .type "function") (od := none) (osl := #[]) (kV := .none) (doc := .none) (pm := (.str z311 402)) (an := none) (cdv := (.ref 182)) (ct := .none) (by kernel_rfl) (by kernel_rfl) (by kernel_rfl) (by kernel_rfl) (fun _ _ _ _ _ _ us hl => match us, hl with | [_], _ => rfl)
theorem fd_is_zero (X : (KP P).In h) (G : h.Ns mainGlobals mg) : Dx (KP P) mg "is_zero" s_is_zero ["word"] := dx_mk X G (f := 190) (oc := .type "function") (od := none) (osl := #[]) (kV := .none) (doc := .none) (pm := (.str z311 402)) (an := none) (cdv := (.ref 189)) (ct := .none) (by kernel_rfl) (by kernel_rfl) (by kernel_rfl) (by kernel_rfl) (fun _ _ _ _ _ _ us hl => match us, hl with | [_], _ => rfl)
theorem fd_infinite (X : (KP P).In h) (G : h.Ns mainGlobals mg) : Dx (KP P) mg "infinite" s_infinite ["negative"] := dx_mk X G (f := 197) (oc := .type "function") (od := none) (osl := #[]) (kV := .none) (doc := .none) (pm := (.str z311 402)) (an := none) (cdv := (.ref 196)) (ct := .none) (by kernel_rfl) (by kernel_rfl) (by kernel_rfl) (by kernel_rfl) (fun _ _ _ _ _ _ us hl => match us, hl with | [_], _ => rfl)
theorem fd_as_word (X : (KP P).In h) (G : h.Ns mainGlobals mg) : Dx (KP P) mg "as_word" s_as_word ["negative", "c", "e"] := dx_mk X G (f := 204) (oc := .type "function") (od := none) (osl := #[]) (kV := .none) (doc := .none) (pm := (.str z311 402)) (an := none) (cdv := (.ref 203)) (ct := .none) (by kernel_rfl) (by kernel_rfl) (by kernel_rfl) (by kernel_rfl) (fun _ _ _ _ _ _ us hl => match us, hl with | [_, _, _], _ => rfl)
theorem fd_half (X : (KP P).In h) (G : h.Ns mainGlobals mg) : Dx (KP P) mg "half" s_half ["which", "negative", "r", "f"] := dx_mk X G (f := 211) (oc := .type "function") (od := none) (osl := #[]) (kV := .none) (doc := .none) (pm := (.str z311 402)) (an := none) (cdv := (.ref 210)) (ct := .none) (by kernel_rfl) (by kernel_rfl) (by kernel_rfl) (by kernel_rfl) (fun _ _ _ _ _ _ us hl => match us, hl with | [_, _, _, _], _ => rfl)
theorem fd_total (X : (KP P).In h) (G : h.Ns mainGlobals mg) : Dx (KP P) mg "total" s_total ["which", "left", "right"] := dx_mk X G (f := 218) (oc := .type "function") (od := none) (osl := #[]) (kV := .none) (doc := .none) (pm := (.str z311 402)) (an := none) (cdv := (.ref 217)) (ct := .none) (by kernel_rfl) (by kernel_rfl) (by kernel_rfl) (by kernel_rfl) (fun _ _ _ _ _ _ us hl => match us, hl with | [_, _, _], _ => rfl)
theorem fd_infinite_total (X : (KP P).In h) (G : h.Ns mainGlobals mg) : Dx (KP P) mg "infinite_total" s_infinite_total ["left", "right", "fields"] := dx_mk X G (f := 225) (oc := .type "function") (od := none) (osl := #[]) (kV := .none) (doc := .none) (pm := (.str z311 402)) (an := none) (cdv := (.ref 224)) (ct := .none) (by kernel_rfl) (by kernel_rfl) (by kernel_rfl) (by kernel_rfl) (fun _ _ _ _ _ _ us hl => match us, hl with | [_, _, _], _ => rfl)
theorem fd_aligned (X : (KP P).In h) (G : h.Ns mainGlobals mg) : Dx (KP P) mg "aligned" s_aligned ["word", "n"] := dx_mk X G (f := 232) (oc := .type "function") (od := none) (osl := #[]) (kV := .none) (doc := .none) (pm := (.str z311 402)) (an := none) (cdv := (.ref 231)) (ct := .none) (by kernel_rfl) (by kernel_rfl) (by kernel_rfl) (by kernel_rfl) (fun _ _ _ _ _ _ us hl => match us, hl with | [_, _], _ => rfl)
theorem fd_product (X : (KP P).In h) (G : h.Ns mainGlobals mg) : Dx (KP P) mg "product" s_product ["which", "left", "right"] := dx_mk X G (f := 239) (oc := .type "function") (od := none) (osl := #[]) (kV := .none) (doc := .none) (pm := (.str z311 402)) (an := none) (cdv := (.ref 238)) (ct := .none) (by kernel_rfl) (by kernel_rfl) (by kernel_rfl) (by kernel_rfl) (fun _ _ _ _ _ _ us hl => match us, hl with | [_, _, _], _ => rfl)
theorem fd_quotient (X : (KP P).In h) (G : h.Ns mainGlobals mg) : Dx (KP P) mg "quotient" s_quotient ["rounded", "left", "right"] := dx_mk X G (f := 246) (oc := .type "function") (od := none) (osl := #[]) (kV := .none) (doc := .none) (pm := (.str z311 402)) (an := none) (cdv := (.ref 245)) (ct := .none) (by kernel_rfl) (by kernel_rfl) (by kernel_rfl) (by kernel_rfl) (fun _ _ _ _ _ _ us hl => match us, hl with | [_, _, _], _ => rfl)
theorem fd_finite_quotient (X : (KP P).In h) (G : h.Ns mainGlobals mg) : Dx (KP P) mg "finite_quotient" s_finite_quotient ["rounded", "negative", "c", "d", "e"] := dx_mk X G (f := 253) (oc := .type "function") (od := none) (osl := #[]) (kV := .none) (doc := .none) (pm := (.str z311 402)) (an := none) (cdv := (.ref 252)) (ct := .none) (by kernel_rfl) (by kernel_rfl) (by kernel_rfl) (by kernel_rfl) (fun _ _ _ _ _ _ us hl => match us, hl with | [_, _, _, _, _], _ => rfl)
theorem fd_normalizing_shift (X : (KP P).In h) (G : h.Ns mainGlobals mg) : Dx (KP P) mg "normalizing_shift" s_normalizing_shift ["word"] := dx_mk X G (f := 260) (oc := .type "function") (od := none) (osl := #[]) (kV := .none) (doc := .none) (pm := (.str z311 402)) (an := none) (cdv := (.ref 259)) (ct := .none) (by kernel_rfl) (by kernel_rfl) (by kernel_rfl) (by kernel_rfl) (fun _ _ _ _ _ _ us hl => match us, hl with | [_], _ => rfl)
theorem fd_normalized (X : (KP P).In h) (G : h.Ns mainGlobals mg) : Dx (KP P) mg "normalized" s_normalized ["rounded", "word"] := dx_mk X G (f := 267) (oc := .type "function") (od := none) (osl := #[]) (kV := .none) (doc := .none) (pm := (.str z311 402)) (an := none) (cdv := (.ref 266)) (ct := .none) (by kernel_rfl) (by kernel_rfl) (by kernel_rfl) (by kernel_rfl) (fun _ _ _ _ _ _ us hl => match us, hl with | [_, _], _ => rfl)
theorem fd_stop (X : (KP P).In h) (G : h.Ns mainGlobals mg) : Dx (KP P) mg "stop" s_stop ["m", "i", "j", "k"] := dx_mk X G (f := 274) (oc := .type "function") (od := none) (osl := #[]) (kV := .none) (doc := .none) (pm := (.str z327 569)) (an := none) (cdv := (.ref 273)) (ct := .none) (by kernel_rfl) (by kernel_rfl) (by kernel_rfl) (by kernel_rfl) (fun _ _ _ _ _ _ us hl => match us, hl with | [_, _, _, _], _ => rfl)
theorem fd_leave_way_back (X : (KP P).In h) (G : h.Ns mainGlobals mg) : Dx (KP P) mg "leave_way_back" s_leave_way_back ["m", "i", "j", "k"] := dx_mk X G (f := 281) (oc := .type "function") (od := none) (osl := #[]) (kV := .none) (doc := .none) (pm := (.str z327 569)) (an := none) (cdv := (.ref 280)) (ct := .none) (by kernel_rfl) (by kernel_rfl) (by kernel_rfl) (by kernel_rfl) (fun _ _ _ _ _ _ us hl => match us, hl with | [_, _, _, _], _ => rfl)
theorem fd_go_on_from_b (X : (KP P).In h) (G : h.Ns mainGlobals mg) : Dx (KP P) mg "go_on_from_b" s_go_on_from_b ["m", "i", "j", "k"] := dx_mk X G (f := 288) (oc := .type "function") (od := none) (osl := #[]) (kV := .none) (doc := .none) (pm := (.str z327 569)) (an := none) (cdv := (.ref 287)) (ct := .none) (by kernel_rfl) (by kernel_rfl) (by kernel_rfl) (by kernel_rfl) (fun _ _ _ _ _ _ us hl => match us, hl with | [_, _, _, _], _ => rfl)
theorem fd_go_on_by_x (X : (KP P).In h) (G : h.Ns mainGlobals mg) : Dx (KP P) mg "go_on_by_x" s_go_on_by_x ["m", "i", "j", "k"] := dx_mk X G (f := 295) (oc := .type "function") (od := none) (osl := #[]) (kV := .none) (doc := .none) (pm := (.str z327 569)) (an := none) (cdv := (.ref 294)) (ct := .none) (by kernel_rfl) (by kernel_rfl) (by kernel_rfl) (by kernel_rfl) (fun _ _ _ _ _ _ us hl => match us, hl with | [_, _, _, _], _ => rfl)
theorem fd_go_on_if_same (X : (KP P).In h) (G : h.Ns mainGlobals mg) : Dx (KP P) mg "go_on_if_same" s_go_on_if_same ["m", "i", "j", "k"] := dx_mk X G (f := 302) (oc := .type "function") (od := none) (osl := #[]) (kV := .none) (doc := .none) (pm := (.str z327 569)) (an := none) (cdv := (.ref 301)) (ct := .none) (by kernel_rfl) (by kernel_rfl) (by kernel_rfl) (by kernel_rfl) (fun _ _ _ _ _ _ us hl => match us, hl with | [_, _, _, _], _ => rfl)
theorem fd_go_on_unless_same (X : (KP P).In h) (G : h.Ns mainGlobals mg) : Dx (KP P) mg "go_on_unless_same" s_go_on_unless_same ["m", "i", "j", "k"] := dx_mk X G (f := 309) (oc := .type "function") (od := none) (osl := #[]) (kV := .none) (doc := .none) (pm := (.str z327 569)) (an := none) (cdv := (.ref 308)) (ct := .none) (by kernel_rfl) (by kernel_rfl) (by kernel_rfl) (by kernel_rfl) (fun _ _ _ _ _ _ us hl => match us, hl with | [_, _, _, _], _ => rfl)
theorem fd_go_on_unless_less (X : (KP P).In h) (G : h.Ns mainGlobals mg) : Dx (KP P) mg "go_on_unless_less" s_go_on_unless_less ["m", "i", "j", "k"] := dx_mk X G (f := 316) (oc := .type "function") (od := none) (osl := #[]) (kV := .none) (doc := .none) (pm := (.str z327 569)) (an := none) (cdv := (.ref 315)) (ct := .none) (by kernel_rfl) (by kernel_rfl) (by kernel_rfl) (by kernel_rfl) (fun _ _ _ _ _ _ us hl => match us, hl with | [_, _, _, _], _ => rfl)
theorem fd_go_on_if_less (X : (KP P).In h) (G : h.Ns mainGlobals mg) : Dx (KP P) mg "go_on_if_less" s_go_on_if_less ["m", "i", "j", "k"] := dx_mk X G (f := 323) (oc := .type "function") (od := none) (osl := #[]) (kV := .none) (doc := .none) (pm := (.str z327 569)) (an := none) (cdv := (.ref 322)) (ct := .none) (by kernel_rfl) (by kernel_rfl) (by kernel_rfl) (by kernel_rfl) (fun _ _ _ _ _ _ us hl => match us, hl with | [_, _, _, _], _ => rfl)
theorem fd_word_holds (X : (KP P).In h) (G : h.Ns mainGlobals mg) : Dx (KP P) mg "word_holds" s_word_holds ["word", "i"] := dx_mk X G (f := 330) (oc := .type "function") (od := none) (osl := #[]) (kV := .none) (doc := .none) (pm := (.str z327 569)) (an := none) (cdv := (.ref 329)) (ct := .none) (by kernel_rfl) (by kernel_rfl) (by kernel_rfl) (by kernel_rfl) (fun _ _ _ _ _ _ us hl => match us, hl with | [_, _], _ => rfl)
theorem fd_copied (X : (KP P).In h) (G : h.Ns mainGlobals mg) : Dx (KP P) mg "copied" s_copied ["m", "i", "j", "k"] := dx_mk X G (f := 338) (oc := .type "function") (od := none) (osl := #[]) (kV := .none) (doc := .none) (pm := (.str z330 662)) (an := none) (cdv := (.ref 337)) (ct := .none) (by kernel_rfl) (by kernel_rfl) (by kernel_rfl) (by kernel_rfl) (fun _ _ _ _ _ _ us hl => match us, hl with | [_, _, _, _], _ => rfl)
theorem fd_both (X : (KP P).In h) (G : h.Ns mainGlobals mg) : Dx (KP P) mg "both" s_both ["m", "i", "j", "k"] := dx_mk X G (f := 345) (oc := .type "function") (od := none) (osl := #[]) (kV := .none) (doc := .none) (pm := (.str z330 662)) (an := none) (cdv := (.ref 344)) (ct := .none) (by kernel_rfl) (by kernel_rfl) (by kernel_rfl) (by kernel_rfl) (fun _ _ _ _ _ _ us hl => match us, hl with | [_, _, _, _], _ => rfl)
theorem fd_either (X : (KP P).In h) (G : h.Ns mainGlobals mg) : Dx (KP P) mg "either" s_either ["m", "i", "j", "k"] := dx_mk X G (f := 352) (oc := .type "function") (od := none) (osl := #[]) (kV := .none) (doc := .none) (pm := (.str z330 662)) (an := none) (cdv := (.ref 351)) (ct := .none) (by kernel_rfl) (by kernel_rfl) (by kernel_rfl) (by kernel_rfl) (fun _ _ _ _ _ _ us hl => match us, hl with | [_, _, _, _], _ => rfl)
theorem fd_one_alone (X : (KP P).In h) (G : h.Ns mainGlobals mg) : Dx (KP P) mg "one_alone" s_one_alone ["m", "i", "j", "k"] := dx_mk X G (f := 359) (oc := .type "function") (od := none) (osl := #[]) (kV := .none) (doc := .none) (pm := (.str z330 662)) (an := none) (cdv := (.ref 358)) (ct := .none) (by kernel_rfl) (by kernel_rfl) (by kernel_rfl) (by kernel_rfl) (fun _ _ _ _ _ _ us hl => match us, hl with | [_, _, _, _], _ => rfl)
theorem fd_complement (X : (KP P).In h) (G : h.Ns mainGlobals mg) : Dx (KP P) mg "complement" s_complement ["m", "i", "j", "k"] := dx_mk X G (f := 366) (oc := .type "function") (od := none) (osl := #[]) (kV := .none) (doc := .none) (pm := (.str z330 662)) (an := none) (cdv := (.ref 365)) (ct := .none) (by kernel_rfl) (by kernel_rfl) (by kernel_rfl) (by kernel_rfl) (fun _ _ _ _ _ _ us hl => match us, hl with | [_, _, _, _], _ => rfl)
theorem fd_both_complement (X : (KP P).In h) (G : h.Ns mainGlobals mg) : Dx (KP P) mg "both_complement" s_both_complement ["m", "i", "j", "k"] := dx_mk X G (f := 373) (oc := .type "function") (od := none) (osl := #[]) (kV := .none) (doc := .none) (pm := (.str z330 662)) (an := none) (cdv := (.ref 372)) (ct := .none) (by kernel_rfl) (by kernel_rfl) (by kernel_rfl) (by kernel_rfl) (fun _ _ _ _ _ _ us hl => match us, hl with | [_, _, _, _], _ => rfl)
theorem fd_either_complement (X : (KP P).In h) (G : h.Ns mainGlobals mg) : Dx (KP P) mg "either_complement" s_either_complement ["m", "i", "j", "k"] := dx_mk X G (f := 380) (oc := .type "function") (od := none) (osl := #[]) (kV := .none) (doc := .none) (pm := (.str z330 662)) (an := none) (cdv := (.ref 379)) (ct := .none) (by kernel_rfl) (by kernel_rfl) (by kernel_rfl) (by kernel_rfl) (fun _ _ _ _ _ _ us hl => match us, hl with | [_, _, _, _], _ => rfl)
theorem fd_one_alone_complement (X : (KP P).In h) (G : h.Ns mainGlobals mg) : Dx (KP P) mg "one_alone_complement" s_one_alone_complement ["m", "i", "j", "k"] := dx_mk X G (f := 387) (oc := .type "function") (od := none) (osl := #[]) (kV := .none) (doc := .none) (pm := (.str z330 662)) (an := none) (cdv := (.ref 386)) (ct := .none) (by kernel_rfl) (by kernel_rfl) (by kernel_rfl) (by kernel_rfl) (fun _ _ _ _ _ _ us hl => match us, hl with | [_, _, _, _], _ => rfl)
theorem fd_left_by_jk (X : (KP P).In h) (G : h.Ns mainGlobals mg) : Dx (KP P) mg "left_by_jk" s_left_by_jk ["m", "i", "j", "k"] := dx_mk X G (f := 394) (oc := .type "function") (od := none) (osl := #[]) (kV := .none) (doc := .none) (pm := (.str z330 662)) (an := none) (cdv := (.ref 393)) (ct := .none) (by kernel_rfl) (by kernel_rfl) (by kernel_rfl) (by kernel_rfl) (fun _ _ _ _ _ _ us hl => match us, hl with | [_, _, _, _], _ => rfl)
theorem fd_right_by_jk (X : (KP P).In h) (G : h.Ns mainGlobals mg) : Dx (KP P) mg "right_by_jk" s_right_by_jk ["m", "i", "j", "k"] := dx_mk X G (f := 401) (oc := .type "function") (od := none) (osl := #[]) (kV := .none) (doc := .none) (pm := (.str z330 662)) (an := none) (cdv := (.ref 400)) (ct := .none) (by kernel_rfl) (by kernel_rfl) (by kernel_rfl) (by kernel_rfl) (fun _ _ _ _ _ _ us hl => match us, hl with | [_, _, _, _], _ => rfl)
theorem fd_left_by_b (X : (KP P).In h) (G : h.Ns mainGlobals mg) : Dx (KP P) mg "left_by_b" s_left_by_b ["m", "i", "j", "k"] := dx_mk X G (f := 408) (oc := .type "function") (od := none) (osl := #[]) (kV := .none) (doc := .none) (pm := (.str z330 662)) (an := none) (cdv := (.ref 407)) (ct := .none) (by kernel_rfl) (by kernel_rfl) (by kernel_rfl) (by kernel_rfl) (fun _ _ _ _ _ _ us hl => match us, hl with | [_, _, _, _], _ => rfl)
theorem fd_right_by_b (X : (KP P).In h) (G : h.Ns mainGlobals mg) : Dx (KP P) mg "right_by_b" s_right_by_b ["m", "i", "j", "k"] := dx_mk X G (f := 415) (oc := .type "function") (od := none) (osl := #[]) (kV := .none) (doc := .none) (pm := (.str z330 662)) (an := none) (cdv := (.ref 414)) (ct := .none) (by kernel_rfl) (by kernel_rfl) (by kernel_rfl) (by kernel_rfl) (fun _ _ _ _ _ _ us hl => match us, hl with | [_, _, _, _], _ => rfl)
theorem fd_normalize (X : (KP P).In h) (G : h.Ns mainGlobals mg) : Dx (KP P) mg "normalize" s_normalize ["m", "i", "j", "k"] := dx_mk X G (f := 422) (oc := .type "function") (od := none) (osl := #[]) (kV := .none) (doc := .none) (pm := (.str z330 662)) (an := none) (cdv := (.ref 421)) (ct := .none) (by kernel_rfl) (by kernel_rfl) (by kernel_rfl) (by kernel_rfl) (fun _ _ _ _ _ _ us hl => match us, hl with | [_, _, _, _], _ => rfl)
theorem fd_normalize_rounded (X : (KP P).In h) (G : h.Ns mainGlobals mg) : Dx (KP P) mg "normalize_rounded" s_normalize_rounded ["m", "i", "j", "k"] := dx_mk X G (f := 429) (oc := .type "function") (od := none) (osl := #[]) (kV := .none) (doc := .none) (pm := (.str z330 662)) (an := none) (cdv := (.ref 428)) (ct := .none) (by kernel_rfl) (by kernel_rfl) (by kernel_rfl) (by kernel_rfl) (fun _ _ _ _ _ _ us hl => match us, hl with | [_, _, _, _], _ => rfl)
theorem fd_unpack (X : (KP P).In h) (G : h.Ns mainGlobals mg) : Dx (KP P) mg "unpack" s_unpack ["m", "i", "j", "k"] := dx_mk X G (f := 436) (oc := .type "function") (od := none) (osl := #[]) (kV := .none) (doc := .none) (pm := (.str z330 662)) (an := none) (cdv := (.ref 435)) (ct := .none) (by kernel_rfl) (by kernel_rfl) (by kernel_rfl) (by kernel_rfl) (fun _ _ _ _ _ _ us hl => match us, hl with | [_, _, _, _], _ => rfl)
theorem fd_pack (X : (KP P).In h) (G : h.Ns mainGlobals mg) : Dx (KP P) mg "pack" s_pack ["m", "i", "j", "k"] := dx_mk X G (f := 443) (oc := .type "function") (od := none) (osl := #[]) (kV := .none) (doc := .none) (pm := (.str z330 662)) (an := none) (cdv := (.ref 442)) (ct := .none) (by kernel_rfl) (by kernel_rfl) (by kernel_rfl) (by kernel_rfl) (fun _ _ _ _ _ _ us hl => match us, hl with | [_, _, _, _], _ => rfl)
theorem fd_upper_total (X : (KP P).In h) (G : h.Ns mainGlobals mg) : Dx (KP P) mg "upper_total" s_upper_total ["m", "i", "j", "k"] := dx_mk X G (f := 450) (oc := .type "function") (od := none) (osl := #[]) (kV := .none) (doc := .none) (pm := (.str z330 662)) (an := none) (cdv := (.ref 449)) (ct := .none) (by kernel_rfl) (by kernel_rfl) (by kernel_rfl) (by kernel_rfl) (fun _ _ _ _ _ _ us hl => match us, hl with | [_, _, _, _], _ => rfl)
theorem fd_upper_difference (X : (KP P).In h) (G : h.Ns mainGlobals mg) : Dx (KP P) mg "upper_difference" s_upper_difference ["m", "i", "j", "k"] := dx_mk X G (f := 457) (oc := .type "function") (od := none) (osl := #[]) (kV := .none) (doc := .none) (pm := (.str z330 662)) (an := none) (cdv := (.ref 456)) (ct := .none) (by kernel_rfl) (by kernel_rfl) (by kernel_rfl) (by kernel_rfl) (fun _ _ _ _ _ _ us hl => match us, hl with | [_, _, _, _], _ => rfl)
theorem fd_lower_total (X : (KP P).In h) (G : h.Ns mainGlobals mg) : Dx (KP P) mg "lower_total" s_lower_total ["m", "i", "j", "k"] := dx_mk X G (f := 464) (oc := .type "function") (od := none) (osl := #[]) (kV := .none) (doc := .none) (pm := (.str z330 662)) (an := none) (cdv := (.ref 463)) (ct := .none) (by kernel_rfl) (by kernel_rfl) (by kernel_rfl) (by kernel_rfl) (fun _ _ _ _ _ _ us hl => match us, hl with | [_, _, _, _], _ => rfl)
theorem fd_lower_difference (X : (KP P).In h) (G : h.Ns mainGlobals mg) : Dx (KP P) mg "lower_difference" s_lower_difference ["m", "i", "j", "k"] := dx_mk X G (f := 471) (oc := .type "function") (od := none) (osl := #[]) (kV := .none) (doc := .none) (pm := (.str z330 662)) (an := none) (cdv := (.ref 470)) (ct := .none) (by kernel_rfl) (by kernel_rfl) (by kernel_rfl) (by kernel_rfl) (fun _ _ _ _ _ _ us hl => match us, hl with | [_, _, _, _], _ => rfl)
theorem fd_rounded_total (X : (KP P).In h) (G : h.Ns mainGlobals mg) : Dx (KP P) mg "rounded_total" s_rounded_total ["m", "i", "j", "k"] := dx_mk X G (f := 478) (oc := .type "function") (od := none) (osl := #[]) (kV := .none) (doc := .none) (pm := (.str z330 662)) (an := none) (cdv := (.ref 477)) (ct := .none) (by kernel_rfl) (by kernel_rfl) (by kernel_rfl) (by kernel_rfl) (fun _ _ _ _ _ _ us hl => match us, hl with | [_, _, _, _], _ => rfl)
theorem fd_rounded_difference (X : (KP P).In h) (G : h.Ns mainGlobals mg) : Dx (KP P) mg "rounded_difference" s_rounded_difference ["m", "i", "j", "k"] := dx_mk X G (f := 485) (oc := .type "function") (od := none) (osl := #[]) (kV := .none) (doc := .none) (pm := (.str z330 662)) (an := none) (cdv := (.ref 484)) (ct := .none) (by kernel_rfl) (by kernel_rfl) (by kernel_rfl) (by kernel_rfl) (fun _ _ _ _ _ _ us hl => match us, hl with | [_, _, _, _], _ => rfl)
theorem fd_whole_total (X : (KP P).In h) (G : h.Ns mainGlobals mg) : Dx (KP P) mg "whole_total" s_whole_total ["m", "i", "j", "k"] := dx_mk X G (f := 492) (oc := .type "function") (od := none) (osl := #[]) (kV := .none) (doc := .none) (pm := (.str z330 662)) (an := none) (cdv := (.ref 491)) (ct := .none) (by kernel_rfl) (by kernel_rfl) (by kernel_rfl) (by kernel_rfl) (fun _ _ _ _ _ _ us hl => match us, hl with | [_, _, _, _], _ => rfl)
theorem fd_whole_difference (X : (KP P).In h) (G : h.Ns mainGlobals mg) : Dx (KP P) mg "whole_difference" s_whole_difference ["m", "i", "j", "k"] := dx_mk X G (f := 499) (oc := .type "function") (od := none) (osl := #[]) (kV := .none) (doc := .none) (pm := (.str z330 662)) (an := none) (cdv := (.ref 498)) (ct := .none) (by kernel_rfl) (by kernel_rfl) (by kernel_rfl) (by kernel_rfl) (fun _ _ _ _ _ _ us hl => match us, hl with | [_, _, _, _], _ => rfl)
theorem fd_upper_product (X : (KP P).In h) (G : h.Ns mainGlobals mg) : Dx (KP P) mg "upper_product" s_upper_product ["m", "i", "j", "k"] := dx_mk X G (f := 506) (oc := .type "function") (od := none) (osl := #[]) (kV := .none) (doc := .none) (pm := (.str z330 662)) (an := none) (cdv := (.ref 505)) (ct := .none) (by kernel_rfl) (by kernel_rfl) (by kernel_rfl) (by kernel_rfl) (fun _ _ _ _ _ _ us hl => match us, hl with | [_, _, _, _], _ => rfl)
theorem fd_rounded_product (X : (KP P).In h) (G : h.Ns mainGlobals mg) : Dx (KP P) mg "rounded_product" s_rounded_product ["m", "i", "j", "k"] := dx_mk X G (f := 513) (oc := .type "function") (od := none) (osl := #[]) (kV := .none) (doc := .none) (pm := (.str z330 662)) (an := none) (cdv := (.ref 512)) (ct := .none) (by kernel_rfl) (by kernel_rfl) (by kernel_rfl) (by kernel_rfl) (fun _ _ _ _ _ _ us hl => match us, hl with | [_, _, _, _], _ => rfl)
theorem fd_lower_product (X : (KP P).In h) (G : h.Ns mainGlobals mg) : Dx (KP P) mg "lower_product" s_lower_product ["m", "i", "j", "k"] := dx_mk X G (f := 520) (oc := .type "function") (od := none) (osl := #[]) (kV := .none) (doc := .none) (pm := (.str z330 662)) (an := none) (cdv := (.ref 519)) (ct := .none) (by kernel_rfl) (by kernel_rfl) (by kernel_rfl) (by kernel_rfl) (fun _ _ _ _ _ _ us hl => match us, hl with | [_, _, _, _], _ => rfl)
theorem fd_mask (X : (KP P).In h) (G : h.Ns mainGlobals mg) : Dx (KP P) mg "mask" s_mask ["m", "i", "j", "k"] := dx_mk X G (f := 527) (oc := .type "function") (od := none) (osl := #[]) (kV := .none) (doc := .none) (pm := (.str z330 662)) (an := none) (cdv := (.ref 526)) (ct := .none) (by kernel_rfl) (by kernel_rfl) (by kernel_rfl) (by kernel_rfl) (fun _ _ _ _ _ _ us hl => match us, hl with | [_, _, _, _], _ => rfl)
theorem fd_plain_quotient (X : (KP P).In h) (G : h.Ns mainGlobals mg) : Dx (KP P) mg "plain_quotient" s_plain_quotient ["m", "i", "j", "k"] := dx_mk X G (f := 534) (oc := .type "function") (od := none) (osl := #[]) (kV := .none) (doc := .none) (pm := (.str z330 662)) (an := none) (cdv := (.ref 533)) (ct := .none) (by kernel_rfl) (by kernel_rfl) (by kernel_rfl) (by kernel_rfl) (fun _ _ _ _ _ _ us hl => match us, hl with | [_, _, _, _], _ => rfl)
theorem fd_rounded_quotient (X : (KP P).In h) (G : h.Ns mainGlobals mg) : Dx (KP P) mg "rounded_quotient" s_rounded_quotient ["m", "i", "j", "k"] := dx_mk X G (f := 541) (oc := .type "function") (od := none) (osl := #[]) (kV := .none) (doc := .none) (pm := (.str z330 662)) (an := none) (cdv := (.ref 540)) (ct := .none) (by kernel_rfl) (by kernel_rfl) (by kernel_rfl) (by kernel_rfl) (fun _ _ _ _ _ _ us hl => match us, hl with | [_, _, _, _], _ => rfl)
theorem fd_unchanged (X : (KP P).In h) (G : h.Ns mainGlobals mg) : Dx (KP P) mg "unchanged" s_unchanged ["m", "i", "j", "k"] := dx_mk X G (f := 548) (oc := .type "function") (od := none) (osl := #[]) (kV := .none) (doc := .none) (pm := (.str z330 662)) (an := none) (cdv := (.ref 547)) (ct := .none) (by kernel_rfl) (by kernel_rfl) (by kernel_rfl) (by kernel_rfl) (fun _ _ _ _ _ _ us hl => match us, hl with | [_, _, _, _], _ => rfl)
theorem fd_count_of_ones (X : (KP P).In h) (G : h.Ns mainGlobals mg) : Dx (KP P) mg "count_of_ones" s_count_of_ones ["m", "i", "j", "k"] := dx_mk X G (f := 555) (oc := .type "function") (od := none) (osl := #[]) (kV := .none) (doc := .none) (pm := (.str z330 662)) (an := none) (cdv := (.ref 554)) (ct := .none) (by kernel_rfl) (by kernel_rfl) (by kernel_rfl) (by kernel_rfl) (fun _ _ _ _ _ _ us hl => match us, hl with | [_, _, _, _], _ => rfl)
theorem fd_step (X : (KP P).In h) (G : h.Ns mainGlobals mg) : Dx (KP P) mg "step" s_step ["m"] := dx_mk X G (f := 564) (oc := .type "function") (od := none) (osl := #[]) (kV := .none) (doc := .none) (pm := (.str z336 991)) (an := none) (cdv := (.ref 563)) (ct := .none) (by kernel_rfl) (by kernel_rfl) (by kernel_rfl) (by kernel_rfl) (fun _ _ _ _ _ _ us hl => match us, hl with | [_], _ => rfl)
theorem fd_perform (X : (KP P).In h) (G : h.Ns mainGlobals mg) : Dx (KP P) mg "perform" s_perform ["m", "fm", "i", "j", "k"] := dx_mk X G (f := 571) (oc := .type "function") (od := none) (osl := #[]) (kV := .none) (doc := .none) (pm := (.str z336 991)) (an := none) (cdv := (.ref 570)) (ct := .none) (by kernel_rfl) (by kernel_rfl) (by kernel_rfl) (by kernel_rfl) (fun _ _ _ _ _ _ us hl => match us, hl with | [_, _, _, _, _], _ => rfl)
theorem fd_run (X : (KP P).In h) (G : h.Ns mainGlobals mg) : Dx (KP P) mg "run" s_run ["m", "n"] := dx_mk X G (f := 578) (oc := .type "function") (od := none) (osl := #[]) (kV := .none) (doc := .none) (pm := (.str z336 991)) (an := none) (cdv := (.ref 577)) (ct := .none) (by kernel_rfl) (by kernel_rfl) (by kernel_rfl) (by kernel_rfl) (fun _ _ _ _ _ _ us hl => match us, hl with | [_, _], _ => rfl)
theorem fd_begin_anew (X : (KP P).In h) (G : h.Ns mainGlobals mg) : Dx (KP P) mg "begin_anew" s_begin_anew ["m", "call"] := dx_mk X G (f := 621) (oc := .type "function") (od := none) (osl := #[]) (kV := .none) (doc := .none) (pm := (.str z161 1096)) (an := none) (cdv := (.ref 620)) (ct := .none) (by kernel_rfl) (by kernel_rfl) (by kernel_rfl) (by kernel_rfl) (fun _ _ _ _ _ _ us hl => match us, hl with | [_, _], _ => rfl)
theorem fd_load (X : (KP P).In h) (G : h.Ns mainGlobals mg) : Dx (KP P) mg "load" s_load ["m", "call"] := dx_mk X G (f := 628) (oc := .type "function") (od := none) (osl := #[]) (kV := .none) (doc := .none) (pm := (.str z161 1096)) (an := none) (cdv := (.ref 627)) (ct := .none) (by kernel_rfl) (by kernel_rfl) (by kernel_rfl) (by kernel_rfl) (fun _ _ _ _ _ _ us hl => match us, hl with | [_, _], _ => rfl)
theorem fd_look (X : (KP P).In h) (G : h.Ns mainGlobals mg) : Dx (KP P) mg "look" s_look ["m", "call"] := dx_mk X G (f := 635) (oc := .type "function") (od := none) (osl := #[]) (kV := .none) (doc := .none) (pm := (.str z161 1096)) (an := none) (cdv := (.ref 634)) (ct := .none) (by kernel_rfl) (by kernel_rfl) (by kernel_rfl) (by kernel_rfl) (fun _ _ _ _ _ _ us hl => match us, hl with | [_, _], _ => rfl)
theorem fd_run_steps (X : (KP P).In h) (G : h.Ns mainGlobals mg) : Dx (KP P) mg "run_steps" s_run_steps ["m", "call"] := dx_mk X G (f := 642) (oc := .type "function") (od := none) (osl := #[]) (kV := .none) (doc := .none) (pm := (.str z161 1096)) (an := none) (cdv := (.ref 641)) (ct := .none) (by kernel_rfl) (by kernel_rfl) (by kernel_rfl) (by kernel_rfl) (fun _ _ _ _ _ _ us hl => match us, hl with | [_, _], _ => rfl)
theorem fd_why_ended (X : (KP P).In h) (G : h.Ns mainGlobals mg) : Dx (KP P) mg "why_ended" s_why_ended ["m", "call"] := dx_mk X G (f := 649) (oc := .type "function") (od := none) (osl := #[]) (kV := .none) (doc := .none) (pm := (.str z161 1096)) (an := none) (cdv := (.ref 648)) (ct := .none) (by kernel_rfl) (by kernel_rfl) (by kernel_rfl) (by kernel_rfl) (fun _ _ _ _ _ _ us hl => match us, hl with | [_, _], _ => rfl)
theorem fd_tell_number (X : (KP P).In h) (G : h.Ns mainGlobals mg) : Dx (KP P) mg "tell_number" s_tell_number ["m", "call"] := dx_mk X G (f := 656) (oc := .type "function") (od := none) (osl := #[]) (kV := .none) (doc := .none) (pm := (.str z161 1096)) (an := none) (cdv := (.ref 655)) (ct := .none) (by kernel_rfl) (by kernel_rfl) (by kernel_rfl) (by kernel_rfl) (fun _ _ _ _ _ _ us hl => match us, hl with | [_, _], _ => rfl)
theorem fd_set_number (X : (KP P).In h) (G : h.Ns mainGlobals mg) : Dx (KP P) mg "set_number" s_set_number ["m", "call"] := dx_mk X G (f := 663) (oc := .type "function") (od := none) (osl := #[]) (kV := .none) (doc := .none) (pm := (.str z161 1096)) (an := none) (cdv := (.ref 662)) (ct := .none) (by kernel_rfl) (by kernel_rfl) (by kernel_rfl) (by kernel_rfl) (fun _ _ _ _ _ _ us hl => match us, hl with | [_, _], _ => rfl)
theorem fd_answers (X : (KP P).In h) (G : h.Ns mainGlobals mg) : Dx (KP P) mg "answers" s_answers ["calls"] := dx_mk X G (f := 671) (oc := .type "function") (od := none) (osl := #[]) (kV := .none) (doc := .none) (pm := (.str z161 1096)) (an := none) (cdv := (.ref 670)) (ct := .none) (by kernel_rfl) (by kernel_rfl) (by kernel_rfl) (by kernel_rfl) (fun _ _ _ _ _ _ us hl => match us, hl with | [_], _ => rfl)
theorem fd_length_of_call (X : (KP P).In h) (G : h.Ns mainGlobals mg) : Dx (KP P) mg "length_of_call" s_length_of_call ["calls", "at"] := dx_mk X G (f := 678) (oc := .type "function") (od := none) (osl := #[]) (kV := .none) (doc := .none) (pm := (.str z161 1096)) (an := none) (cdv := (.ref 677)) (ct := .none) (by kernel_rfl) (by kernel_rfl) (by kernel_rfl) (by kernel_rfl) (fun _ _ _ _ _ _ us hl => match us, hl with | [_, _], _ => rfl)
theorem fm_set_b : Mx (KP P) 610 "set_b" "Machine.set_b" s_Machine_set_b ["self", "i", "number"] := mx_mk (f := 607) (oc := .type "function") (od := none) (osl := #[]) (kV := .none) (doc := .none) (pm := (.str z161 1096)) (an := none) (cdv := (.ref 606)) (ct := .none) (by kernel_rfl) (by kernel_rfl) (by kernel_rfl) (by kernel_rfl) (by kernel_rfl) (fun _ _ _ _ _ _ us hl => match us, hl with | [_, _, _], _ => rfl)
theorem fm_begin : Mx (KP P) 610 "begin" "Machine.begin" s_Machine_begin ["self"] := mx_mk (f := 600) (oc := .type "function") (od := none) (osl := #[]) (kV := .none) (doc := .none) (pm := (.str z161 1096)) (an := none) (cdv := (.ref 599)) (ct := .none) (by kernel_rfl) (by kernel_rfl) (by kernel_rfl) (by kernel_rfl) (by kernel_rfl) (fun _ _ _ _ _ _ us hl => match us, hl with | [_], _ => rfl)
theorem fm_init : ∃ f fd, Mk (KP P) 610 f ∧ Fun (KP P) "__init__" "Machine.__init__" s_Machine_init f fd ∧ Binds (KP P) fd ["self"] [] := init_mk (f := 593) (oc := .type "function") (od := none) (osl := #[]) (kV := .none) (doc := .none) (pm := (.str z161 1096)) (an := none) (cdv := (.ref 592)) (ct := .none) (by kernel_rfl) (by kernel_rfl) (by kernel_rfl) (by kernel_rfl) (by kernel_rfl) (by kernel_rfl) (by kernel_rfl) (fun _ _ _ _ _ _ us hl => match us, hl with | [_], _ => rfl)
theorem txt_top (X : (KP P).In h) (G : h.Ns mainGlobals mg) : Txt (KP P) mg 610 :=
  { c_ONES60 := fc_ONES60 X G,
    c_SIGN60 := fc_SIGN60 X G,
    c_ONES18 := fc_ONES18 X G,
    c_SIGN18 := fc_SIGN18 X G,
    c_MEMORY_WORDS := fc_MEMORY_WORDS X G,
    c_FIRST_B := fc_FIRST_B X G,
    c_FIRST_X := fc_FIRST_X X G,
    c_NEXT_WORD := fc_NEXT_WORD X G,
    c_LAST_TOLD := fc_LAST_TOLD X G,
    c_LAST_SET := fc_LAST_SET X G,
    c_DONE := fc_DONE X G,
    c_STOPPED := fc_STOPPED X G,
    c_NO_WORD := fc_NO_WORD X G,
    c_CUT_OFF := fc_CUT_OFF X G,
    c_NO_INSTRUCTION := fc_NO_INSTRUCTION X G,
    c_INFINITE := fc_INFINITE X G,
    c_INDEFINITE := fc_INDEFINITE X G,
    c_INFINITE_WORD := fc_INFINITE_WORD X G,
    c_INDEFINITE_WORD := fc_INDEFINITE_WORD X G,
    c_COEFFICIENT := fc_COEFFICIENT X G,
    c_TOP_BIT := fc_TOP_BIT X G,
    c_UPPER := fc_UPPER X G,
    c_LOWER := fc_LOWER X G,
    c_ROUNDED := fc_ROUNDED X G,
    c_MEMORY_PARTS := fc_MEMORY_PARTS X G,
    c_LOAD := fc_LOAD X G,
    c_MOST_STEPS := fc_MOST_STEPS X G,
    t_SUMS := ft_SUMS X G,
    t_JUMPS := ft_JUMPS X G,
    t_RESULTS := ft_RESULTS X G,
    t_PARTS := ft_PARTS X G,
    t_LENGTHS := ft_LENGTHS X G,
    t_CALLS := ft_CALLS X G,
    f_plus := fd_plus X G,
    f_minus := fd_minus X G,
    f_below_zero := fd_below_zero X G,
    f_size_of := fd_size_of X G,
    f_with_sign := fd_with_sign X G,
    f_in_60_bits := fd_in_60_bits X G,
    f_left_around := fd_left_around X G,
    f_right_with_sign := fd_right_with_sign X G,
    f_ones_in := fd_ones_in X G,
    f_upper_ones := fd_upper_ones X G,
    f_number_in := fd_number_in X G,
    f_put_number := fd_put_number X G,
    f_a_plus_number := fd_a_plus_number X G,
    f_b_plus_number := fd_b_plus_number X G,
    f_x_plus_number := fd_x_plus_number X G,
    f_x_plus_b := fd_x_plus_b X G,
    f_a_plus_b := fd_a_plus_b X G,
    f_a_minus_b := fd_a_minus_b X G,
    f_b_plus_b := fd_b_plus_b X G,
    f_b_minus_b := fd_b_minus_b X G,
    f_set_a := fd_set_a X G,
    f_exponent_field := fd_exponent_field X G,
    f_exponent := fd_exponent X G,
    f_coefficient := fd_coefficient X G,
    f_is_zero := fd_is_zero X G,
    f_infinite := fd_infinite X G,
    f_as_word := fd_as_word X G,
    f_half := fd_half X G,
    f_total := fd_total X G,
    f_infinite_total := fd_infinite_total X G,
    f_aligned := fd_aligned X G,
    f_product := fd_product X G,
    f_quotient := fd_quotient X G,
    f_finite_quotient := fd_finite_quotient X G,
    f_normalizing_shift := fd_normalizing_shift X G,
    f_normalized := fd_normalized X G,
    f_stop := fd_stop X G,
    f_leave_way_back := fd_leave_way_back X G,
    f_go_on_from_b := fd_go_on_from_b X G,
    f_go_on_by_x := fd_go_on_by_x X G,
    f_go_on_if_same := fd_go_on_if_same X G,
    f_go_on_unless_same := fd_go_on_unless_same X G,
    f_go_on_unless_less := fd_go_on_unless_less X G,
    f_go_on_if_less := fd_go_on_if_less X G,
    f_word_holds := fd_word_holds X G,
    f_copied := fd_copied X G,
    f_both := fd_both X G,
    f_either := fd_either X G,
    f_one_alone := fd_one_alone X G,
    f_complement := fd_complement X G,
    f_both_complement := fd_both_complement X G,
    f_either_complement := fd_either_complement X G,
    f_one_alone_complement := fd_one_alone_complement X G,
    f_left_by_jk := fd_left_by_jk X G,
    f_right_by_jk := fd_right_by_jk X G,
    f_left_by_b := fd_left_by_b X G,
    f_right_by_b := fd_right_by_b X G,
    f_normalize := fd_normalize X G,
    f_normalize_rounded := fd_normalize_rounded X G,
    f_unpack := fd_unpack X G,
    f_pack := fd_pack X G,
    f_upper_total := fd_upper_total X G,
    f_upper_difference := fd_upper_difference X G,
    f_lower_total := fd_lower_total X G,
    f_lower_difference := fd_lower_difference X G,
    f_rounded_total := fd_rounded_total X G,
    f_rounded_difference := fd_rounded_difference X G,
    f_whole_total := fd_whole_total X G,
    f_whole_difference := fd_whole_difference X G,
    f_upper_product := fd_upper_product X G,
    f_rounded_product := fd_rounded_product X G,
    f_lower_product := fd_lower_product X G,
    f_mask := fd_mask X G,
    f_plain_quotient := fd_plain_quotient X G,
    f_rounded_quotient := fd_rounded_quotient X G,
    f_unchanged := fd_unchanged X G,
    f_count_of_ones := fd_count_of_ones X G,
    f_step := fd_step X G,
    f_perform := fd_perform X G,
    f_run := fd_run X G,
    f_begin_anew := fd_begin_anew X G,
    f_load := fd_load X G,
    f_look := fd_look X G,
    f_run_steps := fd_run_steps X G,
    f_why_ended := fd_why_ended X G,
    f_tell_number := fd_tell_number X G,
    f_set_number := fd_set_number X G,
    f_answers := fd_answers X G,
    f_length_of_call := fd_length_of_call X G,
    m_set_b := fm_set_b,
    m_begin := fm_begin,
    m_init := fm_init,
    cl := ⟨(by kernel_rfl), (by kernel_rfl), (by kernel_rfl), (by kernel_rfl)⟩,
    nX := (show PySem.W.findIn (KP P) (.ref 610) "x" = some none by kernel_rfl),
    nA := (show PySem.W.findIn (KP P) (.ref 610) "a" = some none by kernel_rfl),
    nB := (show PySem.W.findIn (KP P) (.ref 610) "b" = some none by kernel_rfl),
    nM := (show PySem.W.findIn (KP P) (.ref 610) "memory" = some none by kernel_rfl),
    nAt := (show PySem.W.findIn (KP P) (.ref 610) "at" = some none by kernel_rfl),
    nWhy := (show PySem.W.findIn (KP P) (.ref 610) "why" = some none by kernel_rfl),
    mgC := PySem.W.mg_of X G (show PySem.W.nsIn (KP P) mainGlobals "Machine" = some (some (.ref 610)) by kernel_rfl),
    b_max := PySem.W.mg_none_of X G (show PySem.W.nsIn (KP P) mainGlobals "max" = some none by kernel_rfl),
    b_abs := PySem.W.mg_none_of X G (show PySem.W.nsIn (KP P) mainGlobals "abs" = some none by kernel_rfl),
    b_len := PySem.W.mg_none_of X G (show PySem.W.nsIn (KP P) mainGlobals "len" = some none by kernel_rfl),
    b_enumerate := PySem.W.mg_none_of X G (show PySem.W.nsIn (KP P) mainGlobals "enumerate" = some none by kernel_rfl) }
end
end Sx
set_option Elab.async false
set_option linter.all false
set_option maxRecDepth 100000
set_option maxHeartbeats 4000000
namespace Sx
open PySem L2
def dd : DefRec := match PySem.W.defOf (QQ PySem.Challenge.pw_sixtybit_s01_answers) "answers" with
  | some (d, _) => d
  | none => ⟨"answers", defArgs s_answers, [], defScope s_answers, ⟨0, 0, 0, 0⟩⟩
end Sx
open PySem PySem.W PyProof.Rows
set_option maxRecDepth 100000 in
set_option maxHeartbeats 0 in
theorem PySem.Challenge.cw_sixtybit_s01_answers_holds : PySem.Challenge.rw_sixtybit_s01_answers.Holds :=
  holds_os (r := PySem.Challenge.rw_sixtybit_s01_answers) (q := Sx.QQ PySem.Challenge.pw_sixtybit_s01_answers) (loose := Sx.lse) (Xt := Sx.Xt) (XP := XL (Sx.QQ PySem.Challenge.pw_sixtybit_s01_answers) []) (α := List (Option Obj)) (Yf := fun s => Sx.as.map s.heap.get?) (Ya := fun w => (Sx.KP w.params).map fun (p : Addr × Obj) => some p.2) (YP := InK Sx.KP) (d := Sx.dd) (kwd := []) (N := 8000)
    Sx.left_top (fun w s e => InK.of Sx.as_KP w s e) InK.keeps (fun s e => xl_of s (Bool.and_eq_true_iff.mp (show (xlAt (Sx.QQ PySem.Challenge.pw_sixtybit_s01_answers) [] s && recOk [] s) = true from e)).1) XL.keeps
    (by kernel_rfl) (by kernel_rfl) (by kernel_rfl) (fun s e => recFacts_of (Bool.and_eq_true_iff.mp (show (xlAt (Sx.QQ PySem.Challenge.pw_sixtybit_s01_answers) [] s && recOk [] s) = true from e)).2) os_shapes
    Sx.said (by decide +kernel) ⟨rfl, rfl, rfl, rfl, rfl, by decide +kernel⟩ ⟨[.list [.int 0]], by decide +kernel, by decide +kernel⟩
    (Sx.walk (K := Sx.KP) (by kernel_rfl) (by kernel_rfl) (fun w h Y => Y) fun w mg h X G => ⟨_, Sx.txt_top X G⟩)
#print axioms PySem.Challenge.cw_sixtybit_s01_answers_holds
