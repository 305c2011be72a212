import PyProof.Rows.All
import Wide.All
import OpenK.AllK
import Wide.FinOn
import PyProof.EqAt
import PyProof.EqKinds
import PyProof.TupleCall
import Open.SpecLaws
import KE.OsHead
import KE.OsGo
import PySem.Challenge.RW_swingcounts_s01_answers
set_option Elab.async false
set_option linter.all false
set_option maxRecDepth 100000
/-! THE HAND LAYER, for ints, bools, texts, own classes, lists, tuples, dicts, comprehensions, walks over dicts, enumerate, zip, reversed, texts, calls, loops. Paste it whole ahead of your own text; what your proof does not reach may be deleted. -/
namespace L2
open PySem PySem.Spec PyProof.Rows
/-- a key: an int or a str -/
abbrev Key := Sum Int Str
def keyIs : Key → Value → Bool
  | .inl k, v => Value.isInt k v
  | .inr x, v => Value.isStrOf x v
def keyH (w : World) : Key → Int
  | .inl k => hashInt k
  | .inr x => hashStr w x
theorem keyIs_shape : ∀ {k : Key} {v : Value}, keyIs k v = true → (∃ i t, k = Sum.inl i ∧ v = Value.int i t) ∨ (∃ x t, k = Sum.inr x ∧ v = Value.str x t)
  | .inl i, v, h => by
    obtain ⟨t, e⟩ := Value.isInt_shape (k := i) (v := v) h
    exact .inl ⟨i, t, rfl, e⟩
  | .inr x, v, h => by
    obtain ⟨t, e⟩ := Value.isStrOf_shape (x := x) (v := v) h
    exact .inr ⟨x, t, rfl, e⟩
theorem key_ll (a b : Int) : decide ((Sum.inl a : Key) = Sum.inl b) = (a == b) := by
  by_cases e : a = b
  · subst e; simp
  · have h : ¬ (Sum.inl a : Key) = Sum.inl b := fun q => e (Sum.inl.inj q)
    rw [decide_eq_false h]
    exact (beq_eq_false_iff_ne.mpr e).symm
theorem key_rr (a b : Str) : decide ((Sum.inr a : Key) = Sum.inr b) = decide (a = b) := by
  by_cases e : a = b
  · subst e; simp
  · have h : ¬ (Sum.inr a : Key) = Sum.inr b := fun q => e (Sum.inr.inj q)
    rw [decide_eq_false h, decide_eq_false e]
theorem key_lr (a : Int) (b : Str) : decide ((Sum.inl a : Key) = Sum.inr b) = false := decide_eq_false (fun q => nomatch q)
theorem key_rl (a : Str) (b : Int) : decide ((Sum.inr a : Key) = Sum.inl b) = false := decide_eq_false (fun q => nomatch q)
def mixKind (prog : Program) (w : World) : PySem.KeyKind prog w Key where
  is := keyIs
  hash := keyH w
  inj := fun v a b ha hb => by
    rcases keyIs_shape ha with ⟨i, t, rfl, rfl⟩ | ⟨x, t, rfl, rfl⟩
    · rcases keyIs_shape hb with ⟨j, u, rfl, e⟩ | ⟨y, u, rfl, e⟩
      · injection e with e1 _; rw [e1]
      · exact nomatch e
    · rcases keyIs_shape hb with ⟨j, u, rfl, e⟩ | ⟨y, u, rfl, e⟩
      · exact nomatch e
      · injection e with e1 _; rw [e1]
  byValue := fun k v h => by
    rcases keyIs_shape h with ⟨i, t, rfl, rfl⟩ | ⟨x, t, rfl, rfl⟩ <;> rfl
  pyHash := fun hv h => by
    rcases keyIs_shape hv with ⟨i, t, rfl, rfl⟩ | ⟨x, t, rfl, rfl⟩
    · exact wpAny_pyHash_int h
    · exact wpAny_pyHash_str h
  eqBool := fun hu hv h => by
    rcases keyIs_shape hu with ⟨i, t, rfl, rfl⟩ | ⟨x, t, rfl, rfl⟩
    · rcases keyIs_shape hv with ⟨j, u, rfl, rfl⟩ | ⟨y, u, rfl, rfl⟩
      · rw [key_ll] at h; exact wpAny_eqBool_int h
      · rw [key_lr] at h; exact SeqAt.EqAt.int_str i t y u _ _ _ _ h
    · rcases keyIs_shape hv with ⟨j, u, rfl, rfl⟩ | ⟨y, u, rfl, rfl⟩
      · rw [key_rl] at h; exact SeqAt.EqAt.str_int x t j u _ _ _ _ h
      · rw [key_rr] at h; exact wpAny_eqBool_str h
  «strs» := fun k x t v h => by
    rcases keyIs_shape h with ⟨i, u, rfl, e⟩ | ⟨y, u, rfl, e⟩
    · exact nomatch e
    · injection e with e1 _
      subst e1
      cases v <;> rfl
end L2
namespace L2
open PySem PySem.Spec PyProof.Rows
/-- a value, without the heap -/
inductive V where
  | non | bl (b : Bool) | int (i : Int) | str (x : Str) | byt (b : Array UInt8) | flt (b : UInt64) | ref (a : Addr) | ty (n : String)
  deriving DecidableEq
def RelV : V → Value → Prop
  | .non, u => u = Value.none
  | .bl b, u => u = Value.bool b
  | .int i, u => ∃ t, u = Value.int i t
  | .str x, u => ∃ t, u = Value.str x t
  | .byt b, u => ∃ t, u = Value.bytes b t
  | .flt b, u => ∃ t, u = Value.float b t
  | .ref a, u => u = Value.ref a
  | .ty n, u => u = Value.type n
abbrev Vals : List V → List Value → Prop := Paired RelV
theorem Vals.length {xs : List V} {us : List Value} (r : Vals xs us) : xs.length = us.length := Paired.length r
theorem Vals.get : ∀ {xs : List V} {us : List Value} {i : Nat} {x : V}, Vals xs us → xs[i]? = some x → ∃ u, us[i]? = some u ∧ RelV x u
  | _, _, _, _, .nil, e => by simp at e
  | _, _, 0, _, .cons r _, e => by simp at e; subst e; exact ⟨_, rfl, r⟩
  | _, _, i + 1, x, .cons _ t, e => by
    obtain ⟨u, h1, h2⟩ := Vals.get (i := i) (x := x) t (by simpa using e)
    exact ⟨u, by simpa using h1, h2⟩
theorem Vals.set {x : V} {u : Value} (r : RelV x u) : ∀ {xs : List V} {us : List Value} (i : Nat), Vals xs us → Vals (xs.set i x) (us.set i u)
  | _, _, _, .nil => .nil
  | _, _, 0, .cons _ t => .cons r t
  | _, _, i + 1, .cons q t => .cons q (Vals.set r i t)
theorem Vals.append : ∀ {xs ys : List V} {us ws : List Value}, Vals xs us → Vals ys ws → Vals (xs ++ ys) (us ++ ws)
  | _, _, _, _, .nil, s => s
  | _, _, _, _, .cons r t, s => .cons r (Vals.append t s)
theorem Vals.take : ∀ {xs : List V} {us : List Value} (n : Nat), Vals xs us → Vals (xs.take n) (us.take n)
  | _, _, 0, _ => .nil
  | _, _, _ + 1, .nil => .nil
  | _, _, n + 1, .cons r t => .cons r (Vals.take n t)
theorem Vals.drop : ∀ {xs : List V} {us : List Value} (n : Nat), Vals xs us → Vals (xs.drop n) (us.drop n)
  | _, _, 0, r => r
  | _, _, _ + 1, .nil => .nil
  | _, _, n + 1, .cons _ t => Vals.drop n t
def RelO : Option V → Option Value → Prop
  | some v, some u => RelV v u
  | none, none => True
  | _, _ => False
def KV {κ : Type} : List (κ × V) → List (κ × Value) → Prop := Paired fun (p : κ × V) (q : κ × Value) => p.1 = q.1 ∧ RelV p.2 q.2
/-- a key of a dict (00_mix): an int or a text -/
def kV : Key → V
  | .inl i => .int i
  | .inr x => .str x
/-- what stands at a tracked address -/
inductive HO where
  /-- a list -/
  | lst (xs : List V)
  /-- a tuple (never changes) -/
  | tup (xs : List V)
  /-- a dict whose keys are ints and texts; one whose keys are tuples of ints and texts (the empty one is both) -/
  | dK (kvs : List (Key × V)) | dT (kvs : List (List Key × V))
  /-- a set of ints: its members, its size -/
  | set (S : Int → Bool) (n : Nat)
  /-- an instance of the class at C, its dict at dx, its attributes -/
  | ins (C dx : Addr) (fs : List (Str × V))
  /-- the dict of the instance at x -/
  | own (x : Addr)
  /-- the dict of an exception -/
  | xd (fs : List (Str × V))
  /-- a bound method, f of x -/
  | met (f x : Addr)
  /-- a range object lo, lo + 1, .. below hi -/
  | rng (lo hi : Int)
  /-- a thing that is known to the object (the script; a dict while a loop walks it): read, never written while it is so -/
  | frz (o : Obj) (u : HO)
  /-- a code object's table -/
  | tbl (ps : Array Value)
  /-- any other thing, by what is true of its one object (a def of one's own: SetO a S n := HO.ext fun h => ..) -/
  | ext (φ : Heap → Prop)
abbrev Hp := Addr → Option HO
def upd (H : Hp) (a : Addr) (o : HO) : Hp := fun b => if b = a then some o else H b
theorem upd_same {H : Hp} {a : Addr} {o : HO} : upd H a o a = some o := by unfold upd; rw [if_pos rfl]
theorem upd_ne {H : Hp} {a b : Addr} {o : HO} (h : b ≠ a) : upd H a o b = H b := by unfold upd; rw [if_neg h]
theorem upd_upd {H : Hp} {a : Addr} {o u : HO} : upd (upd H a o) a u = upd H a u := by
  funext b; unfold upd; split <;> rfl
/-- two objects of different content stand apart -/
theorem ne_of {H : Hp} {a b : Addr} {o u : HO} (h : H a = some o) (h' : H b = some u) (d : o ≠ u) : a ≠ b := by
  intro e; subst e; rw [h] at h'; exact d (Option.some.inj h')
theorem ne_of_none {H : Hp} {a b : Addr} {o : HO} (h : H a = some o) (h' : H b = none) : a ≠ b := by
  intro e; subst e; rw [h] at h'; cases h'
section
variable (P : Program) (w : World)
def ObjOk (H : Hp) (h : Heap) (a : Addr) : HO → Prop
  | .lst xs => xs.length ≤ sizeLine ∧ ∃ (its : List Value) (n : Nat), Vals xs its ∧ h.get? a = some { cls := .type "list", data := .seq its.toArray n }
  | .tup xs => xs.length ≤ sizeLine ∧ ∃ its : List Value, Vals xs its ∧ IsTup h a its.toArray
  | .dK kvs => kvs.length ≤ sizeLine ∧ (a == sysModules) = false ∧ ∃ vs, KV kvs vs ∧ h.DictOf (mixKind P w) a vs
  | .dT kvs => kvs.length ≤ sizeLine ∧ (a == sysModules) = false ∧ ∃ xs : List (List Key × Addr × Value),
      Paired (fun (p : List Key × V) (q : List Key × Addr × Value) => p.1 = q.1 ∧ H q.2.1 = some (.tup (p.1.map kV)) ∧ RelV p.2 q.2.2) kvs xs ∧
      ∃ o es ep, h.get? a = some o ∧ o.ExactDict ∧ o.data = .dict es ep ∧ es.toList = xs.map (entryOfKey (tupleKind (mixKind P w))) ∧ (xs.map (·.1)).Nodup
  | .set S n => h.SetOf (intKind P w) a S n
  | .ins C dx fs => H dx = some (.own a) ∧ fs.length ≤ 1000 ∧ dx ≠ a ∧ h.get? a = some (PySem.W.instObj C dx) ∧
      ∃ mA, h.Ns1 dx mA ∧ (∀ f, RelO (fs.lookup f) (mA f)) ∧ PySem.Within mA (fs.map (·.1))
  | .own _ => ∃ o, h.get? a = some o
  | .xd fs => ∃ mA, h.Ns1 a mA ∧ ∀ f, RelO (fs.lookup f) (mA f)
  | .rng lo hi => ∃ t u v, h.get? a = some { cls := .type "range", data := .fields #[.int lo t, .int hi u, .int 1 v] }
  | .frz o u => h.get? a = some o ∧ ObjOk H h a u
  | .tbl ps => h.get? a = some { cls := .none, data := .fields ps }
  | .met f x => h.get? a = some (PySem.W.methodObj (.ref f) (.ref x))
  | .ext φ => φ h ∧ (∃ o, h.get? a = some o) ∧ ∀ h1 h2 : Heap, φ h1 → (∀ o, h1.get? a = some o → h2.get? a = some o) → φ h2
/-- the abstract heap is held -/
def HOk (H : Hp) (h : Heap) : Prop := ∀ a o, H a = some o → ObjOk P w H h a o
end
section
variable {P : Program} {w : World} {H H' : Hp} {h h' : Heap} {a : Addr} {o : HO}
theorem ObjOk.lt (x : ObjOk P w H h a o) : a < h.objs.size := by
  cases o with
  | lst xs => obtain ⟨_, _, _, _, e⟩ := x; exact Heap.lt_size e
  | tup xs => obtain ⟨_, _, _, p⟩ := x; exact p.lt
  | dK kvs => obtain ⟨_, _, _, _, o, _, _, e, _⟩ := x; exact Heap.lt_size e
  | dT kvs => obtain ⟨_, _, _, _, o, _, _, e, _⟩ := x; exact Heap.lt_size e
  | set S n => obtain ⟨o, _, _, _, e, _⟩ := x; exact Heap.lt_size e
  | ins C dx fs => obtain ⟨_, _, _, e, _⟩ := x; exact Heap.lt_size e
  | own y => obtain ⟨_, e⟩ := x; exact Heap.lt_size e
  | xd fs => obtain ⟨_, ⟨_, _, _, e, _⟩, _⟩ := x; exact Heap.lt_size e
  | rng lo hi => obtain ⟨_, _, _, e⟩ := x; exact Heap.lt_size e
  | frz ob u => obtain ⟨e, _⟩ := x; exact Heap.lt_size e
  | tbl ps => exact Heap.lt_size (show h.get? a = some _ from x)
  | met f y => exact Heap.lt_size (show h.get? a = some _ from x)
  | ext φ => obtain ⟨_, ⟨_, e⟩, _⟩ := x; exact Heap.lt_size e
theorem Paired.mapP {α β : Type} {F G : α → β → Prop} : ∀ {l₁ : List α} {l₂ : List β}, Paired F l₁ l₂ → (∀ a b, F a b → G a b) → Paired G l₁ l₂
  | _, _, .nil, _ => .nil
  | _, _, .cons r t, f => .cons (f _ _ r) (Paired.mapP t f)
theorem Paired.imp' {α β : Type} {F G : α → β → Prop} (f : ∀ a b, F a b → G a b) {l₁ : List α} {l₂ : List β} (r : Paired F l₁ l₂) : Paired G l₁ l₂ := Paired.mapP r f
/-- what an object's description leans on: its own object, its own dict, the tuples -/
theorem ObjOk.stay (x : ObjOk P w H h a o) (k : ∀ b u, (b = a ∨ H b = some (.own a)) → h.get? b = some u → h'.get? b = some u)
    (ho : ∀ b, H b = some (.own a) → H' b = some (.own a)) (ht : ∀ b xs, H b = some (.tup xs) → H' b = some (.tup xs)) : ObjOk P w H' h' a o := by
  induction o with
  | lst xs => obtain ⟨z, its, n, r, e⟩ := x; exact ⟨z, its, n, r, k _ _ (.inl rfl) e⟩
  | tup xs => obtain ⟨z, its, r, ob, e, c⟩ := x; exact ⟨z, its, r, ob, k _ _ (.inl rfl) e, c⟩
  | dK kvs => obtain ⟨z, y, vs, r, ob, es, ep, e, c⟩ := x; exact ⟨z, y, vs, r, ob, es, ep, k _ _ (.inl rfl) e, c⟩
  | dT kvs =>
    obtain ⟨z, y, xs, r, ob, es, ep, e, c⟩ := x
    exact ⟨z, y, xs, Paired.mapP r fun p q z => ⟨z.1, ht _ _ z.2.1, z.2.2⟩, ob, es, ep, k _ _ (.inl rfl) e, c⟩
  | set S n => obtain ⟨ob, es, ep, t, e, c⟩ := x; exact ⟨ob, es, ep, t, k _ _ (.inl rfl) e, c⟩
  | ins C dx fs =>
    obtain ⟨d, z, ne, e, mA, ⟨od, es, ep, e2, c⟩, r⟩ := x
    exact ⟨ho _ d, z, ne, k _ _ (.inl rfl) e, mA, ⟨od, es, ep, k _ _ (.inr d) e2, c⟩, r⟩
  | own y => obtain ⟨ob, e⟩ := x; exact ⟨ob, k _ _ (.inl rfl) e⟩
  | xd fs => obtain ⟨mA, ⟨od, es, ep, e, c⟩, r⟩ := x; exact ⟨mA, ⟨od, es, ep, k _ _ (.inl rfl) e, c⟩, r⟩
  | rng lo hi => obtain ⟨t, u, v, e⟩ := x; exact ⟨t, u, v, k _ _ (.inl rfl) e⟩
  | frz ob u ih => obtain ⟨e, q⟩ := x; exact ⟨k _ _ (.inl rfl) e, ih q⟩
  | tbl ps =>
    have e : h.get? a = some { cls := .none, data := .fields ps } := x
    show h'.get? a = some { cls := .none, data := .fields ps }
    exact k a _ (.inl rfl) e
  | met f y =>
    have e : h.get? a = some (PySem.W.methodObj (.ref f) (.ref y)) := x
    show h'.get? a = some (PySem.W.methodObj (.ref f) (.ref y))
    exact k a _ (.inl rfl) e
  | ext φ => obtain ⟨p, ⟨o, e⟩, st⟩ := x; exact ⟨st _ _ p fun o q => k _ _ (.inl rfl) q, ⟨o, k _ _ (.inl rfl) e⟩, st⟩
theorem HOk.lt (x : HOk P w H h) (e : H a = some o) : a < h.objs.size := (x a o e).lt
theorem HOk.fresh (x : HOk P w H h) (e : h.objs.size ≤ a) : H a = none := by
  cases q : H a with
  | none => rfl
  | some u => exact absurd (Nat.lt_of_lt_of_le (x.lt q) e) (Nat.lt_irrefl _)
/-- every object of the heap is kept -/
theorem HOk.kept (x : HOk P w H h) (k : ∀ b u, h.get? b = some u → h'.get? b = some u) : HOk P w H h' := fun a o e =>
  (x a o e).stay (fun b u _ q => k b u q) (fun _ q => q) fun _ _ q => q
/-- a new object is laid and tracked -/
theorem HOk.laid (x : HOk P w H h) (k : ∀ b u, h.get? b = some u → h'.get? b = some u) (hp : h.objs.size ≤ a) (new : ObjOk P w (upd H a o) h' a o) : HOk P w (upd H a o) h' := fun b u e => by
  have hn := x.fresh hp
  by_cases hb : b = a
  · subst hb; rw [upd_same] at e; cases e; exact new
  · rw [upd_ne hb] at e
    exact (x b u e).stay (fun c v _ q => k c v q) (fun c q => by rw [upd_ne (ne_of_none q hn)]; exact q) fun c xs q => by rw [upd_ne (ne_of_none q hn)]; exact q
end
/-- what may be read as u: it is u, or a known u -/
def Rd (H : Hp) (a : Addr) (u : HO) : Prop := H a = some u ∨ ∃ o, H a = some (.frz o u)
theorem Rd.ok {P : Program} {w : World} {H : Hp} {h : Heap} {a : Addr} {u : HO} (r : Rd H a u) (x : HOk P w H h) : ObjOk P w H h a u := by
  rcases r with r | ⟨o, r⟩
  · exact x a u r
  · obtain ⟨_, q⟩ := x a _ r
    exact q
/-- what may be written -/
def Mut : Option HO → Prop
  | some (.lst _) => True
  | some (.dK _) => True
  | some (.dT _) => True
  | some (.set _ _) => True
  | some (.ins _ _ _) => True
  | some (.ext _) => True
  | _ => False
section
variable {P : Program} {w : World} {H : Hp} {h h' : Heap} {x e : Addr} {o' : HO}
/-- the object at e is changed: x itself, or the dict of the instance x -/
theorem HOk.write (ok : HOk P w H h) (mu : Mut (H x)) (he : e = x ∨ H e = some (.own x)) (k : ∀ b u, b ≠ e → h.get? b = some u → h'.get? b = some u) (heo : ∃ u, h'.get? e = some u)
    (new : ObjOk P w (upd H x o') h' x o') : HOk P w (upd H x o') h' := fun b u q => by
  have nown : ∀ c y, H c = some (.own y) → c ≠ x := fun c y r z => by subst z; rw [r] at mu; exact mu
  have ntup : ∀ c xs, H c = some (.tup xs) → c ≠ x := fun c xs r z => by subst z; rw [r] at mu; exact mu
  by_cases hb : b = x
  · subst hb; rw [upd_same] at q; cases q; exact new
  · rw [upd_ne hb] at q
    by_cases hbe : b = e
    · have q' : H b = some (.own x) := by
        rcases he with z | z
        · exact absurd (hbe.trans z) hb
        · rw [hbe]; exact z
      rw [q] at q'; cases q'
      obtain ⟨v, hv⟩ := heo
      exact ⟨v, by rw [hbe]; exact hv⟩
    · refine (ok b u q).stay (fun c v hc r => k c v ?_ r) (fun c r => by rw [upd_ne (nown c b r)]; exact r) fun c xs r => by rw [upd_ne (ntup c xs r)]; exact r
      rcases hc with rfl | hc
      · exact hbe
      · rintro rfl
        rcases he with z | z
        · exact nown c b hc z
        · rw [hc] at z; cases z; exact hb rfl
end
/-! ### kept unless tracked; of the frames at fs (the callers') the slots may change (an exception that passes writes there); of the records at ex (iterators) nothing is said -/
structure Un (fs ex : List Addr) (H H' : Hp) (h h' : Heap) : Prop where
  keep : ∀ b o, h.get? b = some o → H b = none → b ∉ fs → b ∉ ex → h'.get? b = some o
  slot : ∀ b o, h.get? b = some o → H b = none → b ∈ fs → b ∉ ex → ∃ sl, h'.get? b = some { o with slots := sl }
  free : ∀ b o, h.get? b = some o → H b = none → b ∉ ex → H' b = none
  there : ∀ b o, h.get? b = some o → b ∉ ex → ∃ o', h'.get? b = some o'
  tups : ∀ b xs, H b = some (.tup xs) → H' b = some (.tup xs)
  frzs : ∀ b o u, H b = some (.frz o u) → H' b = some (.frz o u)
  tbls : ∀ b ps, H b = some (.tbl ps) → ∃ more, H' b = some (.tbl (ps ++ more))
section
variable {fs fs' ex ex' : List Addr} {H H1 H2 : Hp} {h h1 h2 h' : Heap} {a x e : Addr} {o : HO}
theorem Un.any (u : Un fs ex H H1 h h1) {b : Addr} {ob : Obj} (q : h.get? b = some ob) (n : H b = none) (hx : b ∉ ex) : ∃ sl, h1.get? b = some { ob with slots := sl } := by
  by_cases hb : b ∈ fs
  · exact u.slot b ob q n hb hx
  · exact ⟨ob.slots, u.keep b ob q n hb hx⟩
theorem Un.kept (k : ∀ b u, h.get? b = some u → h'.get? b = some u) : Un fs ex H H h h' :=
  ⟨fun b ob q _ _ _ => k b ob q, fun b ob q _ _ _ => ⟨ob.slots, k b ob q⟩, fun _ _ _ n _ => n, fun b ob q _ => ⟨ob, k b ob q⟩, fun _ _ q => q, fun _ _ _ q => q, fun _ ps q => ⟨#[], by rw [q]; simp⟩⟩
theorem Un.refl : Un fs ex H H h h := Un.kept fun _ _ q => q
theorem Un.laid (k : ∀ b u, h.get? b = some u → h'.get? b = some u) (hp : h.objs.size ≤ a) (hn : H a = none) : Un fs ex H (upd H a o) h h' where
  keep := fun b u q _ _ _ => k b u q
  slot := fun b u q _ _ _ => ⟨u.slots, k b u q⟩
  free := fun b u q n _ => by rw [upd_ne (Nat.ne_of_lt (Nat.lt_of_lt_of_le (Heap.lt_size q) hp))]; exact n
  there := fun b u q _ => ⟨u, k b u q⟩
  tups := fun b xs q => by rw [upd_ne (ne_of_none q hn)]; exact q
  frzs := fun b u xs q => by rw [upd_ne (ne_of_none q hn)]; exact q
  tbls := fun b ps q => ⟨#[], by rw [upd_ne (ne_of_none q hn), q]; simp⟩
theorem Un.write (mu : Mut (H x)) (he : e = x ∨ H e = some (.own x)) (k : ∀ b u, b ≠ e → h.get? b = some u → h'.get? b = some u) (heo : ∃ u, h'.get? e = some u) : Un fs ex H (upd H x o) h h' := by
  have hx : ∀ b, H b = none → b ≠ x := fun b n z => by subst z; rw [n] at mu; exact mu
  have hb : ∀ b, H b = none → b ≠ e := fun b n z => by
    subst z
    rcases he with r | r
    · exact hx b n r
    · rw [n] at r; cases r
  have hm : ∀ b u, H b = some u → ¬ Mut (some u) → b ≠ x := fun b u q nm z => by subst z; rw [q] at mu; exact nm mu
  refine ⟨fun b u q n _ _ => k b u (hb b n) q, fun b u q n _ _ => ⟨u.slots, k b u (hb b n) q⟩, fun b u q n _ => by rw [upd_ne (hx b n)]; exact n, fun b u q _ => ?_,
    fun b xs q => by rw [upd_ne (hm b _ q fun z => z)]; exact q, fun b u xs q => by rw [upd_ne (hm b _ q fun z => z)]; exact q, fun b ps q => ⟨#[], by rw [upd_ne (hm b _ q fun z => z), q]; simp⟩⟩
  by_cases hbe : b = e
  · subst hbe; exact heo
  · exact ⟨u, k b u hbe q⟩
end
/-! ### the heap without what is tracked -/
def trk (h : Heap) (H : Hp) : List Addr := (List.range h.objs.size).filter fun a => (H a).isSome
def hidT (h : Heap) (H : Hp) : Heap := PySem.W.hideAll h (trk h H)
theorem hidT_size (h : Heap) (H : Hp) : (hidT h H).objs.size = h.objs.size := PySem.W.hideAll_size _ _
theorem hidT_get {h : Heap} {H : Hp} {b : Addr} {o : Obj} (e : h.get? b = some o) (n : H b = none) : (hidT h H).get? b = some o :=
  PySem.W.hideAll_get _ e fun hm => by
    have q : (H b).isSome = true := (List.mem_filter.mp hm).2
    rw [n] at q; simp at q
theorem of_hidT {h : Heap} {H : Hp} {b : Addr} {o : Obj} (e : (hidT h H).get? b = some o) : h.get? b = some o ∧ H b = none := by
  have e' : h.get? b = some o := PySem.W.of_hideAll (trk h H) e
  refine ⟨e', ?_⟩
  cases q : H b with
  | none => rfl
  | some x =>
    have hm : b ∈ trk h H := List.mem_filter.mpr ⟨List.mem_range.mpr (Heap.lt_size e'), by simp [q]⟩
    have z : (hidT h H).get? b = none := PySem.W.hideAll_none (trk h H) hm
    rw [z] at e; cases e
/-! ### OpenK's ledger, filled with every new object but one -/
end L2
namespace L2
open PySem PySem.Spec PyProof.Rows
/-- the module's facts, over the base: the heap at the law's entry without what is tracked there -/
structure Mod (K : PySem.W.Frag) (mg : Str → Option Value) (base : Heap) : Prop where
  kin : K.In base
  glob : base.Ns mainGlobals mg
  blt : ∃ mb, base.Ns builtinsNs mb ∧ ∀ x : Str, x ≠ "__name__" → mb x = bootBuiltins x
  nolimit : base.NoLimit
/-- the context: a def's body (or a comprehension's block) running. base: fixed through the whole law; s₀, H₀: the entry; outer: the frames whose slots others may change (a def's callers); stack: all frames that run;
   ex: iterators that were made ahead of the entry and are walked here (a comprehension's); fn: the names whose cells were made at the entry (a def: all; a comprehension's block: its own); calm: not within an except suite; pn: pins that every state bears; xe: what is wanted of an exception that leaves the code -/
structure Cx where
  prog : Program
  w : World
  K : PySem.W.Frag
  mg : Str → Option Value
  base : Heap
  A : Around
  N : List Str
  s_0 : Shared
  H_0 : Hp
  env : Env
  outer : List Env
  stack : List Env
  ex : List Addr
  fn : Str → Bool
  calm : Bool
  pn : List (Addr × Obj)
  xe : Value → Shared → Prop
/-- the callers' frames -/
def frs (l : List Env) : List Addr := l.filterMap (·.frame)
abbrev Cx.fs (X : Cx) : List Addr := frs X.outer
def Vis (sc : Scope) (x : Str) : Prop := sc.names.lookup x = some .local ∨ sc.names.lookup x = some .cell ∨ sc.names.lookup x = some .free
def Loc (sc : Scope) (x : Str) : Prop := sc.names.lookup x = some .local ∨ sc.names.lookup x = some .cell
def Look (env : Env) (h : Heap) (m : Str → Option Value) (x : Str) (u : Value) : Prop :=
  (env.kindOf x = some .local ∧ m x = some u) ∨ ((env.kindOf x = some .cell ∨ env.kindOf x = some .free) ∧ ∃ c, env.cells.lookup x = some c ∧ h.IsCell c (some u))
structure Cx.Ok (X : Cx) : Prop where
  mod : Mod X.K X.mg X.base
  kind : X.env.scope.kind = .function
  glob : X.env.globals = mainGlobals
  blt : X.env.builtins = builtinsNs
  above : X.s_0.heap.objs.size ≤ X.env.locals
  inj : ∀ x y c, X.env.cells.lookup x = some c → X.env.cells.lookup y = some c → x = y
  has : ∀ x, (X.env.kindOf x = some .cell ∨ X.env.kindOf x = some .free) → ∃ c, X.env.cells.lookup x = some c
  cab : ∀ x c, X.fn x = true → X.env.cells.lookup x = some c → X.s_0.heap.objs.size ≤ c
  hd : X.calm = true → X.A.handled = none
  frames : X.A.frames = some X.stack
  stk : X.stack = X.outer ∨ (X.stack = X.env :: X.outer ∧ X.env.frame = some X.env.locals)
  exf : ∀ b ∈ X.ex, b ≠ X.env.locals ∧ ∀ x c, X.env.cells.lookup x = some c → c ≠ b
  bs : ∀ b o, X.base.get? b = some o → X.s_0.heap.get? b = some o ∧ X.H_0 b = none
  bsz : X.base.objs.size ≤ X.s_0.heap.objs.size
  noex : ∀ b o, X.base.get? b = some o → b ∉ X.ex
  exfs : ∀ b ∈ X.ex, b ∉ X.fs
  funs : X.s_0.heap.FunFrames X.base X.outer
  frf : ∀ b ∈ X.fs, X.H_0 b = none
structure Inv (X : Cx) (pins : List (Addr × Obj)) (σ : List (Option V)) (H : Hp) (s : Shared) : Prop where
  ok : X.Ok
  os : s.os = X.s_0.os
  bare : AllBare s.gens
  base : Un X.fs X.ex X.H_0 H X.s_0.heap s.heap
  loc : ∃ m, s.heap.Ns X.env.locals m ∧ ∀ (i : Nat) (x : Str) (v : V), X.N[i]? = some x → σ[i]? = some (some v) → Vis X.env.scope x → ∃ u, RelV v u ∧ Look X.env s.heap m x u
  cell : ∀ x c, X.env.cells.lookup x = some c → ∃ v, s.heap.IsCell c v
  free : H X.env.locals = none
  freeC : ∀ x c, X.env.cells.lookup x = some c → H c = none
  pin : ∀ p ∈ X.pn ++ pins, s.heap.get? p.1 = some p.2 ∧ H p.1 = none ∧ p.1 ≠ X.env.locals ∧ p.1 ∉ X.fs ∧ ∀ v, p.2.data ≠ .cell v
  hok : HOk X.prog X.w H s.heap
  len : σ.length = X.N.length
section
variable {X : Cx} {pins : List (Addr × Obj)} {σ : List (Option V)} {H H' : Hp} {s : Shared} {h' : Heap}
theorem Cx.Ok.nofr (ok : X.Ok) {b : Addr} {o : Obj} (e : X.base.get? b = some o) : b ∉ X.fs := fun hb => by
  have := (ok.funs.mem hb).1
  rw [e] at this; cases this
theorem Inv.bs (I : Inv X pins σ H s) : ∀ b o, X.base.get? b = some o → s.heap.get? b = some o ∧ H b = none := fun b o e =>
  ⟨I.base.keep b o (I.ok.bs b o e).1 (I.ok.bs b o e).2 (I.ok.nofr e) (I.ok.noex b o e), I.base.free b o (I.ok.bs b o e).1 (I.ok.bs b o e).2 (I.ok.noex b o e)⟩
theorem Inv.bk (I : Inv X pins σ H s) : ∀ b o, X.base.get? b = some o → s.heap.get? b = some o := fun b o e => (I.bs b o e).1
theorem Inv.mod (I : Inv X pins σ H s) : Mod X.K X.mg X.base := I.ok.mod
theorem Inv.kIn (I : Inv X pins σ H s) : X.K.In s.heap := I.ok.mod.kin.keeps I.bk
theorem Inv.lt (I : Inv X pins σ H s) : X.env.locals < s.heap.objs.size := let ⟨_, hn, _⟩ := I.loc; hn.lt
theorem Inv.sz (I : Inv X pins σ H s) : X.s_0.heap.objs.size ≤ s.heap.objs.size := Nat.le_trans I.ok.above (Nat.le_of_lt I.lt)
theorem Inv.nofs (I : Inv X pins σ H s) {a : Addr} (h : s.heap.objs.size ≤ a) : a ∉ X.fs := fun hb => by
  obtain ⟨_, o, ho, _⟩ := I.ok.funs.mem hb
  exact absurd (Nat.lt_of_lt_of_le (Heap.lt_size ho) (Nat.le_trans I.sz h)) (Nat.lt_irrefl _)
theorem Inv.cne (I : Inv X pins σ H s) : ∀ x c, X.env.cells.lookup x = some c → c ≠ X.env.locals := fun x c e z => by
  obtain ⟨v, o, ho, hd⟩ := I.cell x c e
  obtain ⟨m, ⟨o', es, ep, ho', hd', _⟩, _⟩ := I.loc
  rw [z, ho'] at ho; cases ho; rw [hd'] at hd; cases hd
theorem Inv.funs (I : Inv X pins σ H s) : s.heap.FunFrames X.base X.outer := by
  have all : ∀ (l : List Env), (∀ b ∈ frs l, b ∈ X.fs) → X.s_0.heap.FunFrames X.base l → s.heap.FunFrames X.base l := by
    intro l
    induction l with
    | nil => intro _ _; trivial
    | cons env r ih =>
      intro hs hl
      obtain ⟨hk, ⟨L, o, hf, hn, ho, hd⟩, hr⟩ := hl
      have hL : L ∈ X.fs := hs L (by unfold frs; rw [List.filterMap_cons, hf]; exact List.mem_cons_self)
      obtain ⟨sl, e⟩ := I.base.slot L o ho (I.ok.frf L hL) hL fun z => I.ok.exfs L z hL
      exact ⟨hk, ⟨L, _, hf, hn, e, hd⟩, ih (fun b hb => hs b (by unfold frs; rw [List.filterMap_cons, hf]; exact List.mem_cons_of_mem _ hb)) hr⟩
  exact all X.outer (fun _ hb => hb) I.ok.funs
/-- the frames that run, for a call -/
theorem Inv.stack (I : Inv X pins σ H s) : s.heap.FunFrames X.base X.stack := by
  rcases I.ok.stk with e | ⟨e, hf⟩
  · rw [e]; exact I.funs
  · rw [e]
    obtain ⟨m, hn, _⟩ := I.loc
    refine .cons (by rw [I.ok.kind]; decide) hf hn ?_ I.funs
    exact Heap.get?_none_of_le (Nat.le_trans I.ok.bsz I.ok.above)
theorem Inv.stkSub (I : Inv X pins σ H s) : ∀ b ∈ frs X.stack, b ∈ X.env.locals :: X.fs := fun b hb => by
  rcases I.ok.stk with e | ⟨e, hf⟩
  · rw [e] at hb; exact List.mem_cons_of_mem _ hb
  · rw [e] at hb
    unfold frs at hb
    rw [List.filterMap_cons, hf] at hb
    exact hb
theorem Inv.stkFree (I : Inv X pins σ H s) : ∀ b ∈ frs X.stack, H b = none := fun b hb => by
  rcases List.mem_cons.mp (I.stkSub b hb) with e | hb
  · rw [e]; exact I.free
  · obtain ⟨_, o, ho, _⟩ := I.ok.funs.mem hb
    exact I.base.free b o ho (I.ok.frf b hb) fun z => I.ok.exfs b z hb
/-- THE STEP: the untracked objects but the frame and the records at ch are kept (the callers' frames up to slots), the frame's map is kept, the new abstract heap is held -/
theorem Inv.step {g' : Array GenState} {t' : Nat} {d' : Drawn} {ch : List Addr} (I : Inv X pins σ H s)
    (hch : ∀ b ∈ ch, (b ∈ X.ex ∨ X.s_0.heap.objs.size ≤ b) ∧ b ≠ X.env.locals ∧ (∀ x c, X.env.cells.lookup x = some c → c ≠ b) ∧ ∀ p ∈ X.pn ++ pins, p.1 ≠ b)
    (keep : ∀ b o, b ≠ X.env.locals → b ∉ X.fs → b ∉ ch → s.heap.get? b = some o → H b = none → h'.get? b = some o)
    (slot : ∀ b o, b ≠ X.env.locals → b ∈ X.fs → b ∉ ch → s.heap.get? b = some o → H b = none → ∃ sl, h'.get? b = some { o with slots := sl }) (free : ∀ b o, b ∉ ch → s.heap.get? b = some o → H b = none → H' b = none)
    (there : ∀ b o, b ∉ ch → s.heap.get? b = some o → ∃ o', h'.get? b = some o')
    (tups : ∀ b xs, H b = some (.tup xs) → H' b = some (.tup xs)) (frzs : ∀ b o u, H b = some (.frz o u) → H' b = some (.frz o u)) (tbls : ∀ b ps, H b = some (.tbl ps) → ∃ more, H' b = some (.tbl (ps ++ more)))
    (ns : ∀ m, s.heap.Ns X.env.locals m → h'.Ns X.env.locals m) (hok : HOk X.prog X.w H' h') (hg : AllBare g') :
    Inv X pins σ H' { s with heap := h', gens := g', drawn := d', toks := t' } := by
  have neL : ∀ b o, X.s_0.heap.get? b = some o → b ≠ X.env.locals := fun b o e => Nat.ne_of_lt (Nat.lt_of_lt_of_le (Heap.lt_size e) I.ok.above)
  have neC : ∀ b o, X.s_0.heap.get? b = some o → b ∉ X.ex → b ∉ ch := fun b o e hx hb => by
    rcases (hch b hb).1 with z | z
    · exact hx z
    · exact absurd (Nat.lt_of_lt_of_le (Heap.lt_size e) z) (Nat.lt_irrefl _)
  have cellK : ∀ x c, X.env.cells.lookup x = some c → ∀ v, s.heap.IsCell c v → h'.IsCell c v := fun x c e v ⟨o, ho, hd⟩ => by
    have nch : c ∉ ch := fun z => (hch c z).2.2.1 x c e rfl
    by_cases hc : c ∈ X.fs
    · obtain ⟨sl, q⟩ := slot c o (I.cne x c e) hc nch ho (I.freeC x c e)
      exact ⟨_, q, hd⟩
    · exact ⟨o, keep c o (I.cne x c e) hc nch ho (I.freeC x c e), hd⟩
  refine ⟨I.ok, I.os, hg, ⟨fun b o e n hb hx => ?_, fun b o e n hb hx => ?_, fun b o e n hx => ?_, fun b o e hx => ?_, fun b xs e => tups b xs (I.base.tups b xs e), fun b o xs e => frzs b o xs (I.base.frzs b o xs e), fun b ps e => ?_⟩, ?_, fun x c e => ?_, ?_, fun x c e => ?_, fun p hp => ?_, hok, I.len⟩
  · exact keep b o (neL b o e) hb (neC b o e hx) (I.base.keep b o e n hb hx) (I.base.free b o e n hx)
  · obtain ⟨sl, e1⟩ := I.base.slot b o e n hb hx
    obtain ⟨sl', e2⟩ := slot b _ (neL b o e) hb (neC b o e hx) e1 (I.base.free b o e n hx)
    exact ⟨sl', e2⟩
  · obtain ⟨o', e1⟩ := I.base.there b o e hx
    exact free b o' (neC b o e hx) e1 (I.base.free b o e n hx)
  · obtain ⟨o', e1⟩ := I.base.there b o e hx
    exact there b o' (neC b o e hx) e1
  · obtain ⟨m1, e1⟩ := I.base.tbls b ps e
    obtain ⟨m2, e2⟩ := tbls b _ e1
    exact ⟨m1 ++ m2, by rw [e2, Array.append_assoc]⟩
  · obtain ⟨m, hn, hl⟩ := I.loc
    refine ⟨m, ns m hn, fun i x v e1 e2 e3 => ?_⟩
    obtain ⟨u, r, l⟩ := hl i x v e1 e2 e3
    refine ⟨u, r, ?_⟩
    rcases l with l | ⟨k, c, e, z⟩
    · exact .inl l
    · exact .inr ⟨k, c, e, cellK x c e _ z⟩
  · obtain ⟨v, z⟩ := I.cell x c e
    exact ⟨v, cellK x c e v z⟩
  · obtain ⟨m, ⟨o, _, _, ho, _⟩, _⟩ := I.loc
    exact free _ o (fun z => (hch _ z).2.1 rfl) ho I.free
  · obtain ⟨v, o, ho, hd⟩ := I.cell x c e
    exact free c o (fun z => (hch c z).2.2.1 x c e rfl) ho (I.freeC x c e)
  · obtain ⟨e, n, ne, nf, d⟩ := I.pin p hp
    have nch : p.1 ∉ ch := fun z => (hch p.1 z).2.2.2 p hp rfl
    exact ⟨keep p.1 p.2 ne nf nch e n, free p.1 p.2 nch e n, ne, nf, d⟩
/-- .. where the frame's own object is kept too -/
theorem Inv.un {t' : Nat} (I : Inv X pins σ H s) (u : Un X.fs [] H H' s.heap h') (hok : HOk X.prog X.w H' h') : Inv X pins σ H' { s with heap := h', toks := t' } := by
  obtain ⟨m, ⟨o, es, ep, ho, r⟩, _⟩ := id I.loc
  obtain ⟨sl, hL⟩ := u.any ho I.free (by simp)
  exact I.step (g' := s.gens) (d' := s.drawn) (ch := []) (fun _ z => nomatch z) (fun b o _ hb _ e n => u.keep b o e n hb (by simp)) (fun b o _ hb _ e n => u.slot b o e n hb (by simp)) (fun b o _ e n => u.free b o e n (by simp)) (fun b o _ e => u.there b o e (by simp)) u.tups u.frzs u.tbls (fun m' hm => by
    obtain ⟨o', es', ep', ho', r'⟩ := hm
    rw [ho] at ho'; cases ho'
    exact ⟨_, es', ep', hL, r'⟩) hok I.bare
/-- behind a call (or a comprehension's block): the slots of this frame may have changed too, the records at ch may have turned -/
theorem Inv.call {g' : Array GenState} {t' : Nat} {d' : Drawn} {ch : List Addr} (I : Inv X pins σ H s) (u : Un (frs X.stack) ch H H' s.heap h') (hok : HOk X.prog X.w H' h') (hg : AllBare g')
    (hch : ∀ b ∈ ch, (b ∈ X.ex ∨ X.s_0.heap.objs.size ≤ b) ∧ b ≠ X.env.locals ∧ (∀ x c, X.env.cells.lookup x = some c → c ≠ b) ∧ ∀ p ∈ X.pn ++ pins, p.1 ≠ b) :
    Inv X pins σ H' { s with heap := h', gens := g', drawn := d', toks := t' } := by
  obtain ⟨m, ⟨o, es, ep, ho, r⟩, _⟩ := id I.loc
  obtain ⟨sl, hL⟩ := u.any ho I.free fun z => (hch _ z).2.1 rfl
  exact I.step (ch := ch) hch (fun b o hL hb hc e n => u.keep b o e n (fun z => (List.mem_cons.mp (I.stkSub b z)).elim hL hb) hc) (fun b o _ _ hc e n => u.any e n hc) (fun b o hc e n => u.free b o e n hc) (fun b o hc e => u.there b o e hc) u.tups u.frzs u.tbls (fun m' hm => by
    obtain ⟨o', es', ep', ho', r'⟩ := hm
    rw [ho] at ho'; cases ho'
    exact ⟨_, es', ep', hL, r'⟩) hok hg
/-- an untracked record of ours (an iterator) has turned -/
theorem Inv.turned {t' : Nat} {it : Addr} (I : Inv X pins σ H s) (k : ∀ b o, b ≠ it → s.heap.get? b = some o → h'.get? b = some o) (hn : H it = none) (hL : it ≠ X.env.locals)
    (h1 : it ∈ X.ex ∨ X.s_0.heap.objs.size ≤ it) (h2 : ∀ x c, X.env.cells.lookup x = some c → c ≠ it) (h3 : ∀ p ∈ X.pn ++ pins, p.1 ≠ it) : Inv X pins σ H { s with heap := h', toks := t' } := by
  have nit : ∀ b u, H b = some u → b ≠ it := fun b u e z => by rw [z, hn] at e; cases e
  refine I.step (g' := s.gens) (d' := s.drawn) (ch := [it]) (fun b hb => ?_) (fun b o _ _ hc e _ => k b o (fun z => hc (by simp [z])) e) (fun b o _ _ hc e _ => ⟨o.slots, k b o (fun z => hc (by simp [z])) e⟩) (fun _ _ _ _ n => n)
    (fun b o hc e => ⟨o, k b o (fun z => hc (by simp [z])) e⟩) (fun _ _ e => e) (fun _ _ _ e => e) (fun b ps e => ⟨#[], by rw [e]; simp⟩) (fun m hm => ?_) (fun b u e => ?_) I.bare
  · have e : b = it := by simpa using hb
    subst e
    exact ⟨h1, hL, h2, h3⟩
  · obtain ⟨o, es, ep, ho, r⟩ := hm
    exact ⟨o, es, ep, k _ o (Ne.symm hL) ho, r⟩
  · refine (I.hok b u e).stay (fun c v hc q => k c v ?_ q) (fun _ q => q) fun _ _ q => q
    rcases hc with z | z
    · rw [z]; exact nit b u e
    · exact nit c _ z
theorem Inv.tok (I : Inv X pins σ H s) (t : Nat) : Inv X pins σ H { s with toks := t } := I.un (h' := s.heap) (t' := t) Un.refl I.hok
/-- all objects kept -/
theorem Inv.kept {t' : Nat} (I : Inv X pins σ H s) (k : ∀ b u, s.heap.get? b = some u → h'.get? b = some u) : Inv X pins σ H { s with heap := h', toks := t' } := I.un (Un.kept k) (I.hok.kept k)
/-- a new object laid and tracked -/
theorem Inv.laid {a : Addr} {o : HO} {t' : Nat} (I : Inv X pins σ H s) (k : ∀ b u, s.heap.get? b = some u → h'.get? b = some u) (hp : s.heap.objs.size ≤ a) (new : ObjOk X.prog X.w (upd H a o) h' a o) :
    Inv X pins σ (upd H a o) { s with heap := h', toks := t' } := I.un (Un.laid k hp (I.hok.fresh hp)) (I.hok.laid k hp new)
/-- an object written -/
theorem Inv.write {x e : Addr} {o : HO} {t' : Nat} (I : Inv X pins σ H s) (mu : Mut (H x)) (he : e = x ∨ H e = some (.own x)) (k : ∀ b u, b ≠ e → s.heap.get? b = some u → h'.get? b = some u) (heo : ∃ u, h'.get? e = some u)
    (new : ObjOk X.prog X.w (upd H x o) h' x o) : Inv X pins σ (upd H x o) { s with heap := h', toks := t' } := I.un (Un.write mu he k heo) (I.hok.write mu he k heo new)
/-- forgetting slots, pins -/
theorem Inv.weak {σ' : List (Option V)} (I : Inv X pins σ H s) (hl : σ'.length = σ.length) (w : ∀ (i : Nat) v, σ'[i]? = some (some v) → σ[i]? = some (some v)) : Inv X pins σ' H s :=
  ⟨I.ok, I.os, I.bare, I.base, let ⟨m, hn, hl'⟩ := I.loc; ⟨m, hn, fun i x v e1 e2 e3 => hl' i x v e1 (w i v e2) e3⟩, I.cell, I.free, I.freeC, I.pin, I.hok, hl.trans I.len⟩
theorem Inv.pins_of {pins' : List (Addr × Obj)} (I : Inv X pins σ H s) (h : ∀ p ∈ pins', s.heap.get? p.1 = some p.2 ∧ H p.1 = none ∧ p.1 ≠ X.env.locals ∧ p.1 ∉ X.fs ∧ ∀ v, p.2.data ≠ .cell v) : Inv X pins' σ H s :=
  ⟨I.ok, I.os, I.bare, I.base, I.loc, I.cell, I.free, I.freeC, fun p hp => (List.mem_append.mp hp).elim (fun z => I.pin p (List.mem_append_left _ z)) (h p), I.hok, I.len⟩
theorem nodup_ix {N : List Str} (hN : N.Nodup) {i j : Nat} {x : Str} (a : N[i]? = some x) (b : N[j]? = some x) : i = j := by
  obtain ⟨h1, e1⟩ := List.getElem?_eq_some_iff.mp a
  obtain ⟨h2, e2⟩ := List.getElem?_eq_some_iff.mp b
  exact (List.getElem_inj hN).mp (e1.trans e2.symm)
/-- a name is stored; what changed -/
theorem store_ok2 {M : Model} {A : Around} {E : Value → Shared → Prop} {i : Nat} {x : Str} {v : V} {u : Value} {Q : Unit → Shared → Prop} (I : Inv X pins σ H s) (hN : X.N.Nodup) (hi : X.N[i]? = some x) (hx : Loc X.env.scope x) (r : RelV v u)
    (h : ∀ s', Inv X pins (σ.set i (some v)) H s' → (∃ a, Heap.SameBut a s.heap s'.heap ∧ (a = X.env.locals ∨ X.env.cells.lookup x = some a)) → Q () s') (hf : X.fn x = true ∨ X.env.scope.names.lookup x = some .local := by first | exact .inl rfl | exact .inr rfl | assumption) : wpAny M A (storeName X.env x u) Q E s := by
  obtain ⟨m, hn, hl⟩ := id I.loc
  have hcls : (X.env.scope.kind == .class || (X.env.scope.kind == .module && X.env.locals != X.env.globals)) = false := by rw [I.ok.kind]; rfl
  have hiσ : i < σ.length := by rw [I.len]; exact (List.getElem?_eq_some_iff.mp hi).1
  have cne := I.cne
  have tracked : ∀ {a : Addr} {h' : Heap}, (∃ o, s.heap.get? a = some o ∧ H a = none) → Heap.SameBut a s.heap h' → HOk X.prog X.w H h' := fun {a h'} ha hs b ob e => by
    obtain ⟨_, _, hfree⟩ := ha
    refine (I.hok b ob e).stay (fun c w' hc q => (hs.2 c ?_).trans q) (fun _ q => q) fun _ _ q => q
    rintro rfl
    rcases hc with rfl | hc
    · rw [hfree] at e; cases e
    · rw [hfree] at hc; cases hc
  rcases hx with hk | hk
  · refine wpAny_storeName_local hk hn (fun h' hn' hs => ?_) hcls
    obtain ⟨oL, _, _, hoL, _⟩ := id hn
    refine h _ ⟨I.ok, I.os, I.bare, ⟨fun b o e n hb hx => ?_, fun b o e n hb hx => ?_, I.base.free, fun b o e hx => ?_, I.base.tups, I.base.frzs, I.base.tbls⟩, ⟨_, hn', fun j y v' e1 e2 e3 => ?_⟩, fun y c e => ?_, I.free, I.freeC, fun p hp => ?_, tracked ⟨oL, hoL, I.free⟩ hs, by simpa using I.len⟩ ⟨_, hs, .inl rfl⟩
    · exact (hs.2 b (Nat.ne_of_lt (Nat.lt_of_lt_of_le (Heap.lt_size e) I.ok.above))).trans (I.base.keep b o e n hb hx)
    · obtain ⟨sl, e1⟩ := I.base.slot b o e n hb hx
      exact ⟨sl, (hs.2 b (Nat.ne_of_lt (Nat.lt_of_lt_of_le (Heap.lt_size e) I.ok.above))).trans e1⟩
    · obtain ⟨o', e1⟩ := I.base.there b o e hx
      exact ⟨o', (hs.2 b (Nat.ne_of_lt (Nat.lt_of_lt_of_le (Heap.lt_size e) I.ok.above))).trans e1⟩
    · by_cases hj : j = i
      · subst hj
        rw [hi] at e1; cases e1
        rw [List.getElem?_set_self hiσ] at e2
        cases e2
        exact ⟨u, r, .inl ⟨hk, by simp⟩⟩
      · rw [List.getElem?_set_ne (Ne.symm hj)] at e2
        obtain ⟨u', r', q⟩ := hl j y v' e1 e2 e3
        refine ⟨u', r', ?_⟩
        rcases q with ⟨k, e⟩ | ⟨k, c, e, z⟩
        · refine .inl ⟨k, ?_⟩
          have : y ≠ x := fun e => hj (nodup_ix hN e1 (e ▸ hi))
          simp [this, e]
        · exact .inr ⟨k, c, e, z.sameBut hs (cne y c e)⟩
    · obtain ⟨w', z⟩ := I.cell y c e
      exact ⟨w', z.sameBut hs (cne y c e)⟩
    · obtain ⟨e, n, ne, nf, d⟩ := I.pin p hp
      exact ⟨(hs.2 p.1 ne).trans e, n, ne, nf, d⟩
  · have hfn : X.fn x = true := by
      rcases hf with z | z
      · exact z
      · rw [z] at hk; cases hk
    obtain ⟨c, hc⟩ := I.ok.has x (.inl hk)
    obtain ⟨w', z⟩ := I.cell x c hc
    refine wpAny_storeName_cell I.ok.kind hk hc z (fun h' hc' hs => ?_)
    obtain ⟨oc, hoc, hocd⟩ := id z
    refine h { s with heap := h' } ⟨I.ok, I.os, I.bare, ⟨fun b o e n hb hx => ?_, fun b o e n hb hx => ?_, I.base.free, fun b o e hx => ?_, I.base.tups, I.base.frzs, I.base.tbls⟩, ⟨m, hn.sameBut hs (Ne.symm (cne x c hc)), fun j y v' e1 e2 e3 => ?_⟩, fun y c' e => ?_, I.free, I.freeC, fun p hp => ?_, tracked ⟨oc, hoc, I.freeC x c hc⟩ hs, by simpa using I.len⟩ ⟨c, hs, .inr hc⟩
    · exact (hs.2 b (Nat.ne_of_lt (Nat.lt_of_lt_of_le (Heap.lt_size e) (I.ok.cab x c hfn hc)))).trans (I.base.keep b o e n hb hx)
    · obtain ⟨sl, e1⟩ := I.base.slot b o e n hb hx
      exact ⟨sl, (hs.2 b (Nat.ne_of_lt (Nat.lt_of_lt_of_le (Heap.lt_size e) (I.ok.cab x c hfn hc)))).trans e1⟩
    · obtain ⟨o', e1⟩ := I.base.there b o e hx
      exact ⟨o', (hs.2 b (Nat.ne_of_lt (Nat.lt_of_lt_of_le (Heap.lt_size e) (I.ok.cab x c hfn hc)))).trans e1⟩
    · by_cases hj : j = i
      · subst hj
        rw [hi] at e1; cases e1
        rw [List.getElem?_set_self hiσ] at e2
        cases e2
        exact ⟨u, r, .inr ⟨.inl hk, c, hc, hc'⟩⟩
      · rw [List.getElem?_set_ne (Ne.symm hj)] at e2
        obtain ⟨u', r', q⟩ := hl j y v' e1 e2 e3
        refine ⟨u', r', ?_⟩
        rcases q with q | ⟨k, c', e, z'⟩
        · exact .inl q
        · refine .inr ⟨k, c', e, z'.sameBut hs ?_⟩
          rintro rfl
          exact hj (nodup_ix hN e1 (I.ok.inj _ _ _ e hc ▸ hi))
    · by_cases hcc : c' = c
      · subst hcc; exact ⟨_, hc'⟩
      · obtain ⟨w2, z2⟩ := I.cell y c' e
        exact ⟨w2, z2.sameBut hs hcc⟩
    · obtain ⟨e, n, ne, nf, d⟩ := I.pin p hp
      refine ⟨(hs.2 p.1 ?_).trans e, n, ne, nf, d⟩
      intro q
      rw [q, hoc] at e
      have q' : oc = p.2 := Option.some.inj e
      exact d w' (by rw [← q']; exact hocd)
theorem store_ok {M : Model} {A : Around} {E : Value → Shared → Prop} {i : Nat} {x : Str} {v : V} {u : Value} {Q : Unit → Shared → Prop} (I : Inv X pins σ H s) (hN : X.N.Nodup) (hi : X.N[i]? = some x) (hx : Loc X.env.scope x) (r : RelV v u)
    (h : ∀ s', Inv X pins (σ.set i (some v)) H s' → Q () s') (hf : X.fn x = true ∨ X.env.scope.names.lookup x = some .local := by first | exact .inl rfl | exact .inr rfl | assumption) : wpAny M A (storeName X.env x u) Q E s :=
  store_ok2 I hN hi hx r (fun s' I' _ => h s' I') hf
/-- behind a call or a block, the state as it is -/
theorem Inv.call' {s' : Shared} {ch : List Addr} (I : Inv X pins σ H s) (ho : s'.os = s.os) (u : Un (frs X.stack) ch H H' s.heap s'.heap) (hok : HOk X.prog X.w H' s'.heap) (hg : AllBare s'.gens)
    (hch : ∀ b ∈ ch, (b ∈ X.ex ∨ X.s_0.heap.objs.size ≤ b) ∧ b ≠ X.env.locals ∧ (∀ x c, X.env.cells.lookup x = some c → c ≠ b) ∧ ∀ p ∈ X.pn ++ pins, p.1 ≠ b) : Inv X pins σ H' s' := by
  obtain ⟨h', g', d', t', o'⟩ := s'
  have e : o' = s.os := ho
  subst e
  exact I.call (g' := g') (t' := t') (d' := d') u hok hg hch
end
/-! ### the judgements -/
/-- an exception: its class, its own dict's address (where it has one), the abstract heap behind it -/
abbrev XK := Value → Option Addr → Hp → Prop
abbrev St := List (Option V)
abbrev VK := V → Hp → Prop
/-- an expression's reading; a test's; an argument list's -/
abbrev TE := St → Hp → VK → Prop
abbrev TT := St → Hp → (Bool → Hp → Prop) → Prop
abbrev TA := St → Hp → (List V → Hp → Prop) → Prop
/-- what is wanted behind a statement -/
structure Ends where
  nx : St → Hp → Prop
  rt : VK
  bk : St → Hp → Prop := fun _ _ => False
  ct : St → Hp → Prop := fun _ _ => False
abbrev TS := Ends → St → Hp → Prop
def EP (X : Cx) (pins : List (Addr × Obj)) (σ : St) (Q : VK) (u : Value) (s' : Shared) : Prop := ∃ v H', Inv X pins σ H' s' ∧ RelV v u ∧ Q v H'
def TP (X : Cx) (pins : List (Addr × Obj)) (σ : St) (Q : Bool → Hp → Prop) (b : Bool) (s' : Shared) : Prop := ∃ H', Inv X pins σ H' s' ∧ Q b H'
def AP (X : Cx) (pins : List (Addr × Obj)) (σ : St) (Q : List V → Hp → Prop) (us : List Value) (s' : Shared) : Prop := ∃ vs H', Inv X pins σ H' s' ∧ Vals vs us ∧ Q vs H'
def SP (X : Cx) (pins : List (Addr × Obj)) (D : Ends) (f : Flow) (s' : Shared) : Prop :=
  match f with
  | .next => ∃ σ' H', Inv X pins σ' H' s' ∧ D.nx σ' H'
  | .brk => ∃ σ' H', Inv X pins σ' H' s' ∧ D.bk σ' H'
  | .cont => ∃ σ' H', Inv X pins σ' H' s' ∧ D.ct σ' H'
  | .ret u => ∃ v σ' H', Inv X pins σ' H' s' ∧ RelV v u ∧ D.rt v H'
def PE (X : Cx) (e : Expr) (t : TE) : Prop :=
  ∀ (pins : List (Addr × Obj)) (s : Shared) (σ : St) (H : Hp) (Q : VK), Inv X pins σ H s → t σ H Q → wpAny (model X.prog X.w) X.A (eval e X.env) (EP X pins σ Q) X.xe s
def PT (X : Cx) (e : Expr) (t : TT) : Prop :=
  ∀ (pins : List (Addr × Obj)) (s : Shared) (σ : St) (H : Hp) (Q : Bool → Hp → Prop), Inv X pins σ H s → t σ H Q → wpAny (model X.prog X.w) X.A (isTrue e X.env (eval e X.env)) (TP X pins σ Q) X.xe s
/-- a test whatever its 'whole' is (and, or) -/
def PW (X : Cx) (e : Expr) (t : TT) : Prop :=
  ∀ (whole : Sem Value) (pins : List (Addr × Obj)) (s : Shared) (σ : St) (H : Hp) (Q : Bool → Hp → Prop), Inv X pins σ H s → t σ H Q → wpAny (model X.prog X.w) X.A (isTrue e X.env whole) (TP X pins σ Q) X.xe s
theorem PW.pt {X : Cx} {e : Expr} {t : TT} (h : PW X e t) : PT X e t := h _
/-- an argument list (no star), from the left -/
def PA (X : Cx) (es : List Expr) (t : TA) : Prop :=
  ∀ (pos : Pos) (pins : List (Addr × Obj)) (s : Shared) (σ : St) (H : Hp) (Q : List V → Hp → Prop), Inv X pins σ H s → t σ H Q → wpAny (model X.prog X.w) X.A (spliced (backTo pos (starEach es X.env))) (AP X pins σ Q) X.xe s
def PS (X : Cx) (st : Stmt) (t : TS) : Prop :=
  ∀ (pins : List (Addr × Obj)) (s : Shared) (σ : St) (H : Hp) (D : Ends), Inv X pins σ H s → t D σ H → wpAny (model X.prog X.w) X.A (exec st X.env) (SP X pins D) X.xe s
def PSs (X : Cx) (st : List Stmt) (t : TS) : Prop :=
  ∀ (pins : List (Addr × Obj)) (s : Shared) (σ : St) (H : Hp) (D : Ends), Inv X pins σ H s → t D σ H → wpAny (model X.prog X.w) X.A (execs st X.env) (SP X pins D) X.xe s
/-- weaken the end -/
theorem thn {α : Type} {t : Sem α} {Q Q' : α → Shared → Prop} {M : Model} {A : Around} {E : Value → Shared → Prop} {s : Shared} (h : wpAny M A t Q E s) (hQ : ∀ a s, Q a s → Q' a s) : wpAny M A t Q' E s := wpAny_mono h hQ fun _ _ x => x
end L2
namespace L2
open PySem PySem.Spec PyProof.Rows
section
variable {X : Cx}
/-! ### names and constants -/
def tVar (i : Nat) : TE := fun σ H Q => ∃ v, σ[i]? = some (some v) ∧ Q v H
def tC (v : V) : TE := fun _ H Q => Q v H
theorem pe_var {i : Nat} {x : Str} {pos : Pos} (hN : X.N[i]? = some x) (hv : Vis X.env.scope x) (hd : (x == ("__debug__" : Str)) = false := by decide) (hcd : (x == ("__classdict__" : Str)) = false := by decide) : PE X (.Name x pos) (tVar i) := by
  intro pins s σ H Q I h
  obtain ⟨v, e, h⟩ := h
  obtain ⟨m, hn, hl⟩ := I.loc
  obtain ⟨u, r, l⟩ := hl i x v hN e hv
  have fin : EP X pins σ Q u s := ⟨v, H, I, r, h⟩
  rcases l with ⟨hk, hm⟩ | ⟨hk, c, hc, hcell⟩
  · exact wpAny_Name (wpAny_loadName_local I.ok.kind hk hn hm fin) hd
  · rcases hk with hk | hk
    · exact wpAny_Name (wpAny_loadName_cell I.ok.kind hk hc hcell fin) hd
    · exact wpAny_Name (wpAny_loadName_free I.ok.kind hk hc hcell fin hcd) hd
theorem pe_int {i j pos} : PE X (.Constant (.int i) j pos) (tC (.int i)) := fun _ _ _ H _ I h => wpAny_Constant_int ⟨.int i, H, I.tok _, ⟨_, rfl⟩, h⟩
theorem pe_bl {b j pos} : PE X (.Constant (.bool b) j pos) (tC (.bl b)) := fun _ _ _ H _ I h => Constant_bool ⟨.bl b, H, I, rfl, h⟩
/-- a global name of the def -/
def Gl (X : Cx) (x : Str) : Prop := X.env.kindOf x = some .globalImplicit
theorem ld_glob {E : Value → Shared → Prop} {pins : List (Addr × Obj)} {s : Shared} {σ : St} {H : Hp} {x : Str} {u : Value} {pos : Pos} {Q : Value → Shared → Prop} (I : Inv X pins σ H s) (hg : Gl X x) (hm : X.mg x = some u) (h : Q u s)
    (hd : (x == ("__debug__" : Str)) = false := by decide) : wpAny (model X.prog X.w) X.A (eval (.Name x pos) X.env) Q E s :=
  Calls.Name_function_global I.ok.kind hg (Calls.loadGlobal_global (by rw [I.ok.glob]; exact I.mod.glob.keeps I.bk) hm h) hd
theorem ld_blt {E : Value → Shared → Prop} {pins : List (Addr × Obj)} {s : Shared} {σ : St} {H : Hp} {x : Str} {u : Value} {pos : Pos} {Q : Value → Shared → Prop} (I : Inv X pins σ H s) (hg : Gl X x) (hm : X.mg x = none) (hv : bootBuiltins x = some u) (h : Q u s)
    (hn : x ≠ "__name__" := by decide) (hd : (x == ("__debug__" : Str)) = false := by decide) : wpAny (model X.prog X.w) X.A (eval (.Name x pos) X.env) Q E s := by
  obtain ⟨mb, h1, h2⟩ := I.mod.blt
  exact Calls.Name_function_global I.ok.kind hg (Calls.loadGlobal_builtin (by rw [I.ok.glob]; exact I.mod.glob.keeps I.bk) hm (by rw [I.ok.blt]; exact h1.keeps I.bk) ((h2 x hn).trans hv) h) hd
/-- a module's constant, a class, a function, as a value -/
theorem pe_glob {x : Str} {v : V} {u : Value} {pos : Pos} (hg : Gl X x) (hm : X.mg x = some u) (r : RelV v u) (hd : (x == ("__debug__" : Str)) = false := by decide) : PE X (.Name x pos) (tC v) :=
  fun _ _ _ H _ I h => ld_glob I hg hm ⟨v, H, I, r, h⟩ hd
/-! ### arithmetic -/
variable {a b : Expr} {ta tb : TE} {pos : Pos}
/-! ### comparisons -/
/-- a comparison as a value, as a test -/
def tB (t : TE) : TT := fun σ H Q => t σ H fun x H1 => ∃ c, x = .bl c ∧ Q c H1
/-- an expression whose value is a bool, as a test -/
theorem pt_val {e : Expr} {t : TE} (h : PE X e t) (he : ∀ whole, isTrue e X.env whole = (do let v ← whole; standAt e.pos; holding [v] (truthy v)) := by intro _; rfl) : PT X e (tB t) := by
  intro pins s σ H Q I hw
  refine isTrue_plain (thn (h pins s σ H _ I hw) fun v s1 ⟨x, H1, I1, r1, q1⟩ => ?_) (he _)
  obtain ⟨d, rfl, q⟩ := q1
  cases r1
  exact wpAny_truthy_bool ⟨H1, I1, q⟩
/-! ### and, or, not -/
variable {tA tB' : TT} {rest : List Expr}
def tAnd (t u : TT) : TT := fun σ H Q => t σ H fun c H1 => if c = true then u σ H1 Q else Q false H1
def tOr (t u : TT) : TT := fun σ H Q => t σ H fun c H1 => if c = true then Q true H1 else u σ H1 Q
def tNot (t : TT) : TT := fun σ H Q => t σ H fun c H1 => Q (!c) H1
theorem pw_and1 (ha : PT X a tA) : PW X (.BoolOp .And [a] pos) tA := by
  intro wh pins s σ H Q I h
  refine isTrue_and (thn (ha pins s σ H Q I h) fun c s1 e => ?_)
  cases c with
  | true => exact isTrue_and_nil e
  | false => exact e
theorem pw_or1 (ha : PT X a tA) : PW X (.BoolOp .Or [a] pos) tA := by
  intro wh pins s σ H Q I h
  refine isTrue_or (thn (ha pins s σ H Q I h) fun c s1 e => ?_)
  cases c with
  | false => exact isTrue_or_nil e
  | true => exact e
theorem pw_and (ha : PT X a tA) (hb : PW X (.BoolOp .And (b :: rest) pos) tB') : PW X (.BoolOp .And (a :: b :: rest) pos) (tAnd tA tB') := by
  intro wh pins s σ H Q I h
  refine isTrue_and (thn (ha pins s σ H _ I h) fun c s1 ⟨H1, I1, q1⟩ => ?_)
  cases c with
  | true => exact hb wh pins s1 σ H1 Q I1 q1
  | false => exact ⟨H1, I1, q1⟩
theorem pw_or (ha : PT X a tA) (hb : PW X (.BoolOp .Or (b :: rest) pos) tB') : PW X (.BoolOp .Or (a :: b :: rest) pos) (tOr tA tB') := by
  intro wh pins s σ H Q I h
  refine isTrue_or (thn (ha pins s σ H _ I h) fun c s1 ⟨H1, I1, q1⟩ => ?_)
  cases c with
  | true => exact ⟨H1, I1, q1⟩
  | false => exact hb wh pins s1 σ H1 Q I1 q1
theorem pt_not (ha : PT X a tA) : PT X (.UnaryOp .Not a pos) (tNot tA) := by
  intro pins s σ H Q I h
  exact isTrue_not (ha pins s σ H (fun c H1 => Q (!c) H1) I h)
/-- .. as values (bools) -/
def tAndV (ta tb : TE) : TE := fun σ H Q => ta σ H fun x H1 => ∃ c, x = .bl c ∧ if c = true then tb σ H1 Q else Q (.bl false) H1
theorem pe_one {op} {t : TE} (h : PE X a t) : PE X (.BoolOp op [a] pos) t := fun pins s σ H Q I hw => BoolOp_one (h pins s σ H Q I hw)
theorem pe_and (ha : PE X a ta) (hb : PE X (.BoolOp .And (b :: rest) pos) tb) : PE X (.BoolOp .And (a :: b :: rest) pos) (tAndV ta tb) := by
  intro pins s σ H Q I h
  refine BoolOp_and (thn (ha pins s σ H _ I h) fun v s1 ⟨x, H1, I1, r1, q1⟩ => ?_)
  obtain ⟨c, rfl, q1⟩ := q1
  cases r1
  refine wpAny_truthy_bool ?_
  cases c with
  | true => exact hb pins s1 σ H1 Q I1 q1
  | false => exact ⟨.bl false, H1, I1, rfl, q1⟩
end
end L2
namespace L2
open PySem PySem.Spec PyProof.Rows
/-! ### a list, a tuple that is read: tracked, frozen, or an object of the module -/
def SqL (K : PySem.W.Frag) (H : Hp) (a : Addr) (xs : List V) : Prop :=
  Rd H a (.lst xs) ∨
    ∃ (o : Obj) (its : Array Value) (n : Nat), K.lookup a = some o ∧ o.cls = .type "list" ∧ o.dict = none ∧ o.data = .seq its n ∧ its.size ≤ sizeLine ∧ Vals xs its.toList
def SqT (K : PySem.W.Frag) (H : Hp) (a : Addr) (xs : List V) : Prop :=
  Rd H a (.tup xs) ∨
    ∃ (o : Obj) (its : Array Value) (n : Nat), K.lookup a = some o ∧ o.cls = .type "tuple" ∧ o.data = .seq its n ∧ its.size ≤ sizeLine ∧ Vals xs its.toList
def absV : Value → Option V
  | .none => some .non
  | .bool b => some (.bl b)
  | .int i _ => some (.int i)
  | .str x _ => some (.str x)
  | .bytes b _ => some (.byt b)
  | .float b _ => some (.flt b)
  | .ref a => some (.ref a)
  | .type n => some (.ty n)
  | _ => none
theorem RelV.abs {x : V} {u : Value} (r : RelV x u) : absV u = some x := by
  cases x with
  | non => cases r; rfl
  | bl _ => cases r; rfl
  | int _ => obtain ⟨t, rfl⟩ := r; rfl
  | str _ => obtain ⟨t, rfl⟩ := r; rfl
  | byt _ => obtain ⟨t, rfl⟩ := r; rfl
  | flt _ => obtain ⟨t, rfl⟩ := r; rfl
  | ref _ => cases r; rfl
  | ty _ => cases r; rfl
theorem RelV.inj {x y : V} {u : Value} (r : RelV x u) (q : RelV y u) : x = y := Option.some.inj (r.abs.symm.trans q.abs)
theorem Vals.inj : ∀ {xs ys : List V} {us : List Value}, Vals xs us → Vals ys us → xs = ys
  | _, _, _, .nil, .nil => rfl
  | _, _, _, .cons r t, .cons r' t' => by rw [r.inj r', Vals.inj t t']
section
variable {X : Cx} {pins : List (Addr × Obj)} {σ : St} {H : Hp} {s : Shared} {a : Addr} {xs ys : List V}
theorem SqL.of {K : PySem.W.Frag} (h : H a = some (.lst xs)) : SqL K H a xs := .inl (.inl h)
theorem SqT.of {K : PySem.W.Frag} (h : H a = some (.tup xs)) : SqT K H a xs := .inl (.inl h)
theorem Inv.list (I : Inv X pins σ H s) (h : SqL X.K H a xs) : ∃ its : List Value, Vals xs its ∧ PlainL s.heap a its.toArray ∧ xs.length ≤ sizeLine := by
  rcases h with h | ⟨o, its, n, hk, hc, hd, hs, hz, r⟩
  · obtain ⟨z, its, n, r, e⟩ := h.ok I.hok
    exact ⟨its, r, ⟨_, n, e, rfl, rfl, rfl⟩, z⟩
  · refine ⟨its.toList, r, ⟨o, n, I.kIn a o hk, hc, hd, by simpa using hs⟩, ?_⟩
    have e := r.length
    simp only [Array.length_toList] at e
    omega
theorem Inv.tuple (I : Inv X pins σ H s) (h : SqT X.K H a xs) : ∃ its : List Value, Vals xs its ∧ IsTup s.heap a its.toArray ∧ xs.length ≤ sizeLine := by
  rcases h with h | ⟨o, its, n, hk, hc, hs, hz, r⟩
  · obtain ⟨z, its, r, p⟩ := h.ok I.hok
    exact ⟨its, r, p, z⟩
  · refine ⟨its.toList, r, ⟨o, I.kIn a o hk, hc, n, by simpa using hs⟩, ?_⟩
    have e := r.length
    simp only [Array.length_toList] at e
    omega
theorem Inv.list_inj (I : Inv X pins σ H s) (h : SqL X.K H a xs) (h' : SqL X.K H a ys) : xs = ys := by
  obtain ⟨its, r, ⟨o, n, e, _, _, d⟩, _⟩ := I.list h
  obtain ⟨its', r', ⟨o', n', e', _, _, d'⟩, _⟩ := I.list h'
  rw [e] at e'; cases e'
  rw [d] at d'
  injection d' with d1 _
  have : its = its' := by simpa using congrArg Array.toList d1
  subst this
  exact r.inj r'
end
/-! ### another wish about exceptions -/
abbrev Cx.wish (X : Cx) (E : Value → Shared → Prop) : Cx := { X with xe := E }
/-- no exception leaves -/
abbrev Cx.nox (X : Cx) : Cx := X.wish fun _ _ => False
theorem Cx.Ok.wish {X : Cx} (ok : X.Ok) (E : Value → Shared → Prop) : (X.wish E).Ok :=
  ⟨ok.mod, ok.kind, ok.glob, ok.blt, ok.above, ok.inj, ok.has, ok.cab, ok.hd, ok.frames, ok.stk, ok.exf, ok.bs, ok.bsz, ok.noex, ok.exfs, ok.funs, ok.frf⟩
theorem Cx.Ok.unwish {X : Cx} {E : Value → Shared → Prop} (ok : (X.wish E).Ok) : X.Ok :=
  ⟨ok.mod, ok.kind, ok.glob, ok.blt, ok.above, ok.inj, ok.has, ok.cab, ok.hd, ok.frames, ok.stk, ok.exf, ok.bs, ok.bsz, ok.noex, ok.exfs, ok.funs, ok.frf⟩
section
variable {X : Cx} {pins : List (Addr × Obj)} {σ : St} {H : Hp} {s : Shared} {E : Value → Shared → Prop}
theorem Inv.wish (I : Inv X pins σ H s) (E : Value → Shared → Prop) : Inv (X.wish E) pins σ H s := ⟨I.ok.wish E, I.os, I.bare, I.base, I.loc, I.cell, I.free, I.freeC, I.pin, I.hok, I.len⟩
theorem Inv.unwish (I : Inv (X.wish E) pins σ H s) : Inv X pins σ H s := ⟨I.ok.unwish, I.os, I.bare, I.base, I.loc, I.cell, I.free, I.freeC, I.pin, I.hok, I.len⟩
theorem SP.unwish {D : Ends} {f : Flow} {s' : Shared} (h : SP (X.wish E) pins D f s') : SP X pins D f s' := by
  cases f with
  | next => obtain ⟨σ', H', I, q⟩ := h; exact ⟨σ', H', I.unwish, q⟩
  | brk => obtain ⟨σ', H', I, q⟩ := h; exact ⟨σ', H', I.unwish, q⟩
  | cont => obtain ⟨σ', H', I, q⟩ := h; exact ⟨σ', H', I.unwish, q⟩
  | ret u => obtain ⟨v, σ', H', I, r, q⟩ := h; exact ⟨v, σ', H', I.unwish, r, q⟩
theorem PSs.nox {st : List Stmt} {t : TS} (h : PSs X.nox st t) : PSs X st t := fun pins s σ H D I hw =>
  wpAny_mono (h pins s σ H D (I.wish _) hw) (fun _ _ q => q.unwish) fun _ _ z => False.elim z
end
/-! ### blocks and small statements -/
section
variable {X : Cx} {st : Stmt} {rest : List Stmt} {t u : TS} {e : Expr} {te : TE} {pos : Pos}
def tNext : TS := fun D σ H => D.nx σ H
def tSeq (t u : TS) : TS := fun D σ H => t { D with nx := u D } σ H
theorem pss_nil : PSs X [] tNext := fun _ _ σ H _ I h => wpAny_execs_nil ⟨σ, H, I, h⟩
theorem pss_cons (h1 : PS X st t) (h2 : PSs X rest u) : PSs X (st :: rest) (tSeq t u) := by
  intro pins s σ H D I h
  refine wpAny_execs_cons (thn (h1 pins s σ H { D with nx := u D } I h) fun f s1 q => ?_)
  cases f with
  | next =>
    obtain ⟨σ', H', I', q⟩ := q
    exact h2 pins s1 σ' H' D I' q
  | ret v => exact q
  | brk => exact q
  | cont => exact q
theorem pss_one (h1 : PS X st t) : PSs X [st] t := by
  intro pins s σ H D I h
  refine wpAny_execs_cons (thn (h1 pins s σ H D I h) fun f s1 q => ?_)
  cases f with
  | next => exact wpAny_execs_nil q
  | ret v => exact q
  | brk => exact q
  | cont => exact q
/-- in a def's body nothing is shown -/
theorem Inv.quiet {pins : List (Addr × Obj)} {σ : St} {H : Hp} {s : Shared} (I : Inv X pins σ H s) : interactive X.env = false := by simp [interactive, I.ok.kind]
/-- an expression whose value is dropped -/
def tDrop (te : TE) : TS := fun D σ H => te σ H fun _ H1 => D.nx σ H1
theorem ps_expr (he : PE X e te) (hs : swapsWith e none pos.line X.env = pure false := by rfl) : PS X (.Expr e pos) (tDrop te) := by
  intro pins s σ H D I h
  exact wpAny_Expr_any (thn (he pins s σ H _ I h) fun v s1 ⟨x, H1, I1, r1, q1⟩ => ⟨σ, H1, I1, q1⟩) I.quiet hs
def tRet (te : TE) : TS := fun D σ H => te σ H D.rt
theorem ps_ret (he : PE X e te) : PS X (.Return (some e) pos) (tRet te) := by
  intro pins s σ H D I h
  exact wpAny_Return_some (thn (he pins s σ H _ I h) fun v s1 ⟨x, H1, I1, r1, q1⟩ => ⟨x, σ, H1, I1, r1, q1⟩)
def tIfS (c : TT) (t u : TS) : TS := fun D σ H => c σ H fun b H1 => if b = true then t D σ H1 else u D σ H1
theorem ps_if {c : Expr} {a b : List Stmt} {tc : TT} (hc : PT X c tc) (ha : PSs X a t) (hb : PSs X b u) : PS X (.If c a b pos) (tIfS tc t u) := by
  intro pins s σ H D I h
  refine wpAny_If (thn (hc pins s σ H _ I h) fun d s1 ⟨H1, I1, q1⟩ => ?_)
  cases d with
  | true => exact ha pins s1 σ H1 D I1 q1
  | false => exact hb pins s1 σ H1 D I1 q1
end
/-! ### targets -/
abbrev TG := V → St → Hp → (St → Hp → Prop) → Prop
abbrev TGs := List V → St → Hp → (St → Hp → Prop) → Prop
def PG (X : Cx) (target : Expr) (t : TG) : Prop :=
  ∀ (pins : List (Addr × Obj)) (s : Shared) (σ : St) (H : Hp) (v : V) (u : Value) (Q : St → Hp → Prop), Inv X pins σ H s → RelV v u → t v σ H Q →
    wpAny (model X.prog X.w) X.A (assign target X.env u) (fun _ s' => ∃ σ' H', Inv X pins σ' H' s' ∧ Q σ' H') X.xe s
/-- several targets, one after another -/
def PGs (X : Cx) (ts : List Expr) (t : TGs) : Prop :=
  ∀ (pins : List (Addr × Obj)) (s : Shared) (σ : St) (H : Hp) (vs : List V) (us : List Value) (Q : St → Hp → Prop), Inv X pins σ H s → Vals vs us → t vs σ H Q →
    wpAny (model X.prog X.w) X.A (assignInOrder ((assignEach ts X.env).map (·.2)) us) (fun _ s' => ∃ σ' H', Inv X pins σ' H' s' ∧ Q σ' H') X.xe s
/-- o[i] = v, by values -/
abbrev TSet := V → V → V → Hp → (Hp → Prop) → Prop
def PSet (X : Cx) (t : TSet) : Prop :=
  ∀ (pins : List (Addr × Obj)) (s : Shared) (σ : St) (H : Hp) (o i v : V) (ov iv u : Value) (Q : Hp → Prop), Inv X pins σ H s → RelV o ov → RelV i iv → RelV v u → t o i v H Q →
    wpAny (model X.prog X.w) X.A (setItem ov iv u) (fun _ s' => ∃ H', Inv X pins σ H' s' ∧ Q H') X.xe s
section
variable {X : Cx} {pos : Pos}
def gName (i : Nat) : TG := fun v σ H Q => Q (σ.set i (some v)) H
theorem pg_name {i : Nat} {x : Str} (hN : X.N.Nodup) (hi : X.N[i]? = some x) (hx : Loc X.env.scope x) (hf : X.fn x = true ∨ X.env.scope.names.lookup x = some .local := by first | exact .inl rfl | exact .inr rfl | assumption) : PG X (.Name x pos) (gName i) := by
  intro pins s σ H v u Q I r h
  exact wpAny_assign_Name (store_ok I hN hi hx r (fun s' I' => ⟨_, H, I', h⟩) hf)
def gNil : TGs := fun vs σ H Q => vs = [] ∧ Q σ H
def gCons (t : TG) (u : TGs) : TGs := fun vs σ H Q => ∃ v r, vs = v :: r ∧ t v σ H fun σ' H' => u r σ' H' Q
theorem pgs_nil : PGs X [] gNil := by
  intro pins s σ H vs us Q I r h
  obtain ⟨e, h⟩ := h
  subst e
  cases r
  exact assignInOrder_nil ⟨σ, H, I, h⟩
theorem pgs_cons {e : Expr} {es : List Expr} {t : TG} {u : TGs} (h1 : PG X e t) (h2 : PGs X es u)
    (hs : (assignEach (e :: es) X.env).map (·.2) = assign e X.env :: (assignEach es X.env).map (·.2) := by rfl) : PGs X (e :: es) (gCons t u) := by
  intro pins s σ H vs us Q I r h
  obtain ⟨v, vr, e1, h⟩ := h
  subst e1
  cases r with
  | cons r rr =>
    rw [hs]
    refine assignInOrder_cons (thn (h1 pins s σ H _ _ _ I r h) fun _ s1 ⟨σ1, H1, I1, q1⟩ => ?_)
    exact h2 pins s1 σ1 H1 _ _ Q I1 rr q1
/-- (a, b, ..) = a tuple of that length -/
def gTup (K : PySem.W.Frag) (n : Nat) (t : TGs) : TG := fun v σ H Q => ∃ a xs, v = .ref a ∧ SqT K H a xs ∧ xs.length = n ∧ t xs σ H Q
theorem pg_tup {es : List Expr} {k : Nat} {t : TGs} {n : Nat} (hc : X.calm = true) (h : PGs X es t)
    (hn : (assignEach es X.env).length = n := by rfl) (hst : (assignEach es X.env).findIdx? (·.1) = none := by rfl) : PG X (.Tuple es k pos) (gTup X.K n t) := by
  intro pins s σ H v u Q I r hw
  obtain ⟨a, xs, e1, hq, hl, hw⟩ := hw
  subst e1
  cases r
  obtain ⟨its, rv, ht, hz⟩ := I.tuple hq
  refine assign_Tuple_tuple (I.ok.hd hc) ht (by simp [hn, ← hl, rv.length]) hst fun h' hx => ?_
  have I1 : Inv X pins σ H { s with heap := h' } := I.kept (t' := s.toks) fun b o e => hx b o (Nat.ne_of_lt (Heap.lt_size e)) e
  exact h pins _ σ H xs _ Q I1 (by simpa using rv) hw
/-- o[i] = .. -/
def gSub (to ti : TE) (t : TSet) : TG := fun v σ H Q => to σ H fun o H1 => ti σ H1 fun i H2 => t o i v H2 fun H3 => Q σ H3
theorem pg_sub {o i : Expr} {to ti : TE} {t : TSet} (ho : PE X o to) (hi : PE X i ti) (hs : PSet X t)
    (ha : ∀ v, assign (.Subscript o i pos) X.env v = (do
      let ov ← holding [v] (eval o X.env)
      let iv ← holding [v, ov] (eval i X.env)
      standAt pos
      holding [v, ov, iv] (setItem ov iv v)
      release [v, ov, iv] []) := by intro _; rfl) : PG X (.Subscript o i pos) (gSub to ti t) := by
  intro pins s σ H v u Q I r h
  rw [ha]
  refine wpAny_bind (wpAny_holding (thn (ho pins s σ H _ I h) fun ov s1 ⟨x, H1, I1, r1, q1⟩ => ?_))
  refine wpAny_bind (wpAny_holding (thn (hi pins s1 σ H1 _ I1 q1) fun iv s2 ⟨y, H2, I2, r2, q2⟩ => ?_))
  refine wpAny_bind (wpAny_standAt (wpAny_bind (wpAny_holding (thn (hs pins s2 σ H2 x y v ov iv u _ I2 r1 r2 r q2) fun _ s3 ⟨H3, I3, q3⟩ => ?_))))
  exact wpAny_release ⟨σ, H3, I3, q3⟩
/-- target = value -/
def tAsg (te : TE) (g : TG) : TS := fun D σ H => te σ H fun x H1 => g x σ H1 D.nx
theorem ps_asg {tg e : Expr} {te : TE} {g : TG} (he : PE X e te) (hg : PG X tg g) (hs : swapsWithSole [tg] e pos.line X.env = pure false := by rfl) (hw : swappedStores [tg] e X.env = pure none := by rfl)
    (h1 : (assignEach [tg] X.env).map (·.2) = [assign tg X.env] := by rfl) : PS X (.Assign [tg] e pos) (tAsg te g) := by
  intro pins s σ H D I h
  refine wpAny_Assign_stores (thn (he pins s σ H _ I h) fun v s1 ⟨x, H1, I1, r1, q1⟩ => ?_) hs hw
  rw [h1]
  exact thn (hg pins s1 σ H1 x v _ I1 r1 q1) fun _ s2 q => q
/-- name = value -/
theorem ps_set {i : Nat} {x : Str} {e : Expr} {te : TE} {pos' : Pos} (hN : X.N.Nodup) (hi : X.N[i]? = some x) (hx : Loc X.env.scope x) (he : PE X e te) (hs : swapsWith e (some (.Name x pos')) pos.line X.env = pure false := by rfl) (hf : X.fn x = true ∨ X.env.scope.names.lookup x = some .local := by first | exact .inl rfl | exact .inr rfl | assumption) :
    PS X (.Assign [.Name x pos'] e pos) (tAsg te (gName i)) := by
  intro pins s σ H D I h
  refine wpAny_Assign_Name (thn (he pins s σ H _ I h) fun v s1 ⟨y, H1, I1, r1, q1⟩ => ?_) hs
  exact store_ok I1 hN hi hx r1 (fun s2 I2 => ⟨_, H1, I2, q1⟩) hf
end
/-! ### while -/
section
variable {X : Cx} {pos : Pos}
/-- the invariant W with its measure -/
def tWhile (c : TT) (tb : TS) : TS := fun D σ H => ∃ W : Nat → St → Hp → Prop, (∃ m, W m σ H) ∧ ∀ m σ H, W m σ H →
  c σ H fun b H1 => if b = true then ∃ N : St → Hp → Prop, (∀ σ' H', N σ' H' → ∃ m', m' < m ∧ W m' σ' H') ∧ tb { D with nx := N, ct := N, bk := D.nx } σ H1 else D.nx σ H1
theorem ps_while {c : Expr} {body : List Stmt} {tc : TT} {tb : TS} (hp : PassesOwn (model X.prog X.w) X.A X.env X.xe) (hc : PT X c tc) (hb : PSs X body tb) : PS X (.While c body [] pos) (tWhile tc tb) := by
  intro pins s σ H D I h
  obtain ⟨W, ⟨m0, w0⟩, turn⟩ := h
  refine wpAny_While (codeAny_whileLoop (fun n s' => ∃ σ' H', Inv X pins σ' H' s' ∧ W n σ' H') ?_ m0 ⟨σ, H, I, w0⟩)
  rintro n s1 ⟨σ1, H1, I1, w1⟩
  refine wpAny_passesOwn hp (thn (hc pins s1 σ1 H1 _ I1 (turn n σ1 H1 w1)) fun b s2 ⟨H2, I2, q2⟩ => ?_)
  cases b with
  | true =>
    obtain ⟨N, hN, q2⟩ := q2
    rw [if_pos rfl]
    refine wpAny_passesOwn hp (thn (hb pins s2 σ1 H2 _ I2 q2) fun f s3 q3 => ?_)
    cases f with
    | next =>
      obtain ⟨σ3, H3, I3, n3⟩ := q3
      obtain ⟨m', hm, w3⟩ := hN σ3 H3 n3
      exact ⟨m', hm, σ3, H3, I3, w3⟩
    | cont =>
      obtain ⟨σ3, H3, I3, n3⟩ := q3
      obtain ⟨m', hm, w3⟩ := hN σ3 H3 n3
      exact ⟨m', hm, σ3, H3, I3, w3⟩
    | brk => exact q3
    | ret v => exact q3
  | false =>
    rw [if_neg Bool.false_ne_true]
    exact wpAny_execs_nil ⟨σ1, H2, I2, q2⟩
end
/-! ### what a loop or a comprehension walks -/
/-- at turn i: it yields x (the heap may grow), or it stops -/
structure It where
  go : Nat → Hp → Prop
  yld : Nat → Hp → V → Hp → Prop
  stop : Nat → Hp → Prop
/-- the iterator's own objects may turn: they are not the frame's, not pinned, younger than the entry (or a comprehension's own) -/
def FpOk (X : Cx) (pins : List (Addr × Obj)) (H : Hp) (b : Addr) : Prop :=
  H b = none ∧ b ≠ X.env.locals ∧ b ∉ X.fs ∧ (b ∈ X.ex ∨ X.s_0.heap.objs.size ≤ b) ∧ (∀ x c, X.env.cells.lookup x = some c → c ≠ b) ∧ ∀ p ∈ X.pn ++ pins, p.1 ≠ b
theorem Inv.fpOk {X : Cx} {pins : List (Addr × Obj)} {σ : St} {H H' : Hp} {s : Shared} {b : Addr} (I : Inv X pins σ H s) (hb : s.heap.objs.size ≤ b) (hn : H' b = none) : FpOk X pins H' b := by
  refine ⟨hn, Nat.ne_of_gt (Nat.lt_of_lt_of_le I.lt hb), I.nofs hb, .inr (Nat.le_trans I.sz hb), fun x c e z => ?_, fun p hp z => ?_⟩
  · obtain ⟨v, q⟩ := I.cell x c e
    exact absurd (Nat.lt_of_lt_of_le q.lt (by rw [z]; exact hb)) (Nat.lt_irrefl _)
  · exact absurd (Nat.lt_of_lt_of_le (Heap.lt_size (I.pin p hp).1) (by rw [z]; exact hb)) (Nat.lt_irrefl _)
structure Turn (P : Program) (w : World) (K : PySem.W.Frag) (tg : Expr) (J : It) (fp : List Addr) (it : Addr) (tn : Nat → Heap → Prop) : Prop where
  mem : it ∈ fp
  obj : ∀ i h, tn i h → ∀ b ∈ fp, ∃ o, h.get? b = some o ∧ ∀ v, o.data ≠ .cell v
  keep : ∀ i h h', tn i h → (∀ b ∈ fp, ∀ o, h.get? b = some o → h'.get? b = some o) → tn i h'
  item : ∀ (X : Cx), X.prog = P → X.w = w → X.K = K → X.calm = true → ∀ (i : Nat) (pins : List (Addr × Obj)) (s : Shared) (σ : St) (H : Hp) (E : Value → Shared → Prop), Inv X pins σ H s → (∀ b ∈ fp, FpOk X pins H b) → tn i s.heap → J.go i H →
    wpAny (model P w) X.A (pyNext (.ref it)) (fun r s1 => ∃ u, r = some u ∧
      wpAny (model P w) X.A (letOwnedTupleGo tg (.ref it) u) (fun _ s2 => ∃ x H', Inv X pins σ H' s2 ∧ RelV x u ∧ J.yld i H x H' ∧ tn (i + 1) s2.heap ∧ ∀ b ∈ fp, H' b = none) E s1) E s
  done : ∀ (X : Cx), X.prog = P → X.w = w → X.K = K → X.calm = true → ∀ (i : Nat) (pins : List (Addr × Obj)) (s : Shared) (σ : St) (H : Hp) (E : Value → Shared → Prop), Inv X pins σ H s → (∀ b ∈ fp, FpOk X pins H b) → tn i s.heap → J.stop i H →
    wpAny (model P w) X.A (pyNext (.ref it)) (fun r s1 => r = none ∧ Inv X pins σ H s1) E s
  self : ∀ (A : Around) (i : Nat) (s : Shared) (Q : Value → Shared → Prop) (E : Value → Shared → Prop), tn i s.heap → Q (.ref it) s → wpAny (model P w) A (pyIter (.ref it)) Q E s
abbrev TI := St → Hp → (It → Hp → Prop) → Prop
/-- an iterator has come -/
def PIE (X : Cx) (pins : List (Addr × Obj)) (σ : St) (tg : Expr) (R : It → Hp → Prop) (itv : Value) (s2 : Shared) : Prop :=
  ∃ (it : Addr) (fp : List Addr) (tn : Nat → Heap → Prop) (J : It) (H' : Hp), itv = .ref it ∧ Inv X pins σ H' s2 ∧ Turn X.prog X.w X.K tg J fp it tn ∧ tn 0 s2.heap ∧ (∀ b ∈ fp, FpOk X pins H' b) ∧ R J H'
def PI (X : Cx) (tg iter : Expr) (wi : TI) : Prop :=
  ∀ (pins : List (Addr × Obj)) (s : Shared) (σ : St) (H : Hp) (R : It → Hp → Prop), Inv X pins σ H s → wi σ H R →
    wpAny (model X.prog X.w) X.A (eval iter X.env) (fun v s1 => wpAny (model X.prog X.w) X.A (pyIter v) (PIE X pins σ tg R) X.xe s1) X.xe s
/-- the step ahead of the store is nothing for an iterator that keeps no tuple -/
theorem go_of {M : Model} {A : Around} {E : Value → Shared → Prop} {s : Shared} {tg : Expr} {it : Addr} {u : Value} {o : Obj} {n : String} {vs : Array Value} {Q : Unit → Shared → Prop} (ho : s.heap.get? it = some o) (hc : o.cls = .type n) (hd : o.data = .fields vs)
    (hn : ["enumerate", "zip", "dict_itemiterator", "dict_reverseitemiterator", "odict_iterator", "itertools.zip_longest", "itertools.pairwise"].contains n = false) (hQ : Q () s) : wpAny M A (letOwnedTupleGo tg (.ref it) u) Q E s := by
  unfold letOwnedTupleGo
  cases tg <;> first
    | exact wpAny_pure hQ
    | (cases u <;> first
        | exact wpAny_pure hQ
        | (refine wpAny_bind (wpAny_load ho ?_)
           rw [hc, hd]
           show wpAny M A (if (["enumerate", "zip", "dict_itemiterator", "dict_reverseitemiterator", "odict_iterator", "itertools.zip_longest", "itertools.pairwise"].contains n && vs[0]? == some (rawInt _)) = true then _ else _) Q E s
           rw [if_neg (by intro h; rw [hn, Bool.false_and] at h; cases h)]
           exact wpAny_pure hQ))
/-- the list at a, as it stands at each turn (a loop may append to it) -/
def Itl (K : PySem.W.Frag) (a : Addr) : It :=
  ⟨fun i H => ∃ xs x, SqL K H a xs ∧ xs[i]? = some x, fun i H x H' => H' = H ∧ ∀ xs, SqL K H a xs → xs[i]? = some x, fun i H => ∃ xs, SqL K H a xs ∧ xs.length ≤ i⟩
/-- lo, lo + 1, .. (n of them) -/
def Itr (lo : Int) (n : Nat) : It := ⟨fun i _ => i < n, fun i H x H' => H' = H ∧ x = .int (lo + i), fun i _ => n ≤ i⟩
theorem turn_list {P : Program} {w : World} {K : PySem.W.Frag} {tg : Expr} (a it : Addr) : Turn P w K tg (Itl K a) [it] it (fun i h => h.IsListIter it a i) where
  mem := by simp
  obj := fun i h st b hb => by
    have e : b = it := by simpa using hb
    subst e
    obtain ⟨o, e, c, d⟩ := st
    exact ⟨o, e, fun v z => by rw [d] at z; cases z⟩
  keep := fun i h h' st k => st.at fun o e => k it (by simp) o e
  item := by
    intro X hP hw hK hc i pins s σ H E I hf st hg
    subst hP hw hK
    obtain ⟨xs, x, hq, hx⟩ := hg
    obtain ⟨its, rv, p, hz⟩ := I.list hq
    obtain ⟨u, hu, ru⟩ := rv.get hx
    obtain ⟨f0, f1, f2, f3, f4, f5⟩ := hf it (by simp)
    refine wpAny_pyNext_list_item st p.isList (x := u) (by simpa using hu) fun h' st' sb => ?_
    have I1 : Inv X pins σ H { s with heap := h' } := I.turned (t' := s.toks) (fun b o hb e => (sb.2 b hb).trans e) f0 f1 f3 f4 f5
    obtain ⟨o, e, c, d⟩ := id st'
    exact ⟨u, rfl, go_of (s := { s with heap := h' }) e c d (by decide) ⟨x, H, I1, ru, ⟨rfl, fun ys hy => by rw [I.list_inj hy hq]; exact hx⟩, st', fun b hb => (hf b hb).1⟩⟩
  done := by
    intro X hP hw hK hc i pins s σ H E I hf st hg
    subst hP hw hK
    obtain ⟨xs, hq, hx⟩ := hg
    obtain ⟨its, rv, p, hz⟩ := I.list hq
    obtain ⟨f0, f1, f2, f3, f4, f5⟩ := hf it (by simp)
    have hl := rv.length
    exact wpAny_pyNext_list_end (I.ok.hd hc) st p.isList (by simp; omega) fun h' eb => ⟨rfl, I.turned (t' := s.toks) (fun b o hb e => eb b o hb e) f0 f1 f3 f4 f5⟩
  self := fun _ _ _ _ _ st h => wpAny_pyIter_listiter st h
theorem turn_range {P : Program} {w : World} {K : PySem.W.Frag} {tg : Expr} (it : Addr) (lo : Int) (n : Nat) : Turn P w K tg (Itr lo n) [it] it (fun i h => IsRangeIter h it (lo + (i : Nat) * 1) ((n : Int) - (i : Nat)) 1) where
  mem := by simp
  obj := fun i h st b hb => by
    have e : b = it := by simpa using hb
    subst e
    exact ⟨_, st, fun v z => by
      have z' : Data.fields _ = Data.cell v := z
      cases z'⟩
  keep := fun i h h' st k => k it (by simp) _ st
  item := by
    intro X hP hw hK hc i pins s σ H E I hf st hg
    subst hP hw hK
    obtain ⟨f0, f1, f2, f3, f4, f5⟩ := hf it (by simp)
    have W := Walks.range (prog := X.prog) (w := X.w) (I.ok.hd hc) it lo 1 n
    refine W.item i s _ _ hg st fun v h' tk hv st' kk => ?_
    obtain ⟨t, rfl⟩ := hv
    have I1 : Inv X pins σ H { s with heap := h', toks := tk } := I.turned (fun b o hb e => kk b o (by simpa using hb) e) f0 f1 f3 f4 f5
    refine ⟨_, rfl, go_of (s := { s with heap := h', toks := tk }) (n := "range_iterator") st' rfl rfl (by decide) ⟨.int (lo + i), H, I1, ⟨t, ?_⟩, ⟨rfl, rfl⟩, st', fun b hb => (hf b hb).1⟩⟩
    rw [Int.mul_one]
  done := by
    intro X hP hw hK hc i pins s σ H E I hf st hg
    subst hP hw hK
    obtain ⟨f0, f1, f2, f3, f4, f5⟩ := hf it (by simp)
    exact wpAny_pyNext_range_end (I.ok.hd hc) st (by have : n ≤ i := hg; omega) fun h' eb => ⟨rfl, I.turned (t' := s.toks) (fun b o hb e => eb b o hb e) f0 f1 f3 f4 f5⟩
  self := fun _ _ _ _ _ st h => wpAny_pyIter_rangeiter st h
end L2
namespace L2
open PySem PySem.Spec PyProof.Rows
section
variable {X : Cx} {tg : Expr}
def iList (K : PySem.W.Frag) (tl : TE) : TI := fun σ H R => tl σ H fun x H1 => ∃ a, x = .ref a ∧ (∃ xs, SqL K H1 a xs) ∧ R (Itl K a) H1
theorem pi_list {l : Expr} {tl : TE} (hl : PE X l tl) : PI X tg l (iList X.K tl) := by
  intro pins s σ H R I h
  refine thn (hl pins s σ H _ I h) fun v s1 ⟨x, H1, I1, r1, q1⟩ => ?_
  obtain ⟨a, e, ⟨xs, hq⟩, q⟩ := q1
  subst e
  cases r1
  obtain ⟨its, rv, p, hz⟩ := I1.list hq
  refine wpAny_pyIter_list p.isList ?_
  refine ⟨s1.heap.objs.size, [s1.heap.objs.size], _, _, H1, rfl, I1.kept (t' := s1.toks) fun b o e => Heap.get?_push_of_some _ e, turn_list a _, ⟨_, Heap.get?_push_size _ rfl, rfl, rfl⟩, fun b hb => ?_, q⟩
  have e : b = s1.heap.objs.size := by simpa using hb
  subst e
  exact I1.fpOk (Nat.le_refl _) (I1.hok.fresh (Nat.le_refl _))
/-- a range object just made, walked -/
theorem range_it {pins : List (Addr × Obj)} {σ : St} {H : Hp} {s : Shared} {R : It → Hp → Prop} {E : Value → Shared → Prop} {lo hi : Int} {t u v : Tok} {tk : Nat} (I : Inv X pins σ H s) (h1 : -(2 ^ 62) ≤ lo) (h2 : lo < 2 ^ 62) (h3 : -(2 ^ 62) ≤ hi) (h4 : hi < 2 ^ 62)
    (q : R (Itr lo (hi - lo).toNat) H) : wpAny (model X.prog X.w) X.A (pyIter (.ref s.heap.objs.size)) (PIE X pins σ tg R) E { s with heap := s.heap.push { cls := .type "range", data := .fields #[.int lo t, .int hi u, .int 1 v] }, toks := tk } := by
  refine wpAny_pyIter_range (IsRange.new ..) (small_one h1 h2 h3 h4) ?_
  have I1 : Inv X pins σ H { s with heap := s.heap.push { cls := .type "range", data := .fields #[.int lo t, .int hi u, .int 1 v] }, toks := tk } := I.kept fun b o e => Heap.get?_push_of_some _ e
  refine ⟨(s.heap.push { cls := .type "range", data := .fields #[.int lo t, .int hi u, .int 1 v] }).objs.size, [(s.heap.push { cls := .type "range", data := .fields #[.int lo t, .int hi u, .int 1 v] }).objs.size], _, _, H, rfl,
    I1.kept (t' := tk) fun b o e => Heap.get?_push_of_some _ e, turn_range _ lo (hi - lo).toNat, ?_, fun b hb => ?_, q⟩
  · have e1 : lo + ((0 : Nat) : Int) * 1 = lo := by simp
    have e2 : (((hi - lo).toNat : Nat) : Int) - ((0 : Nat) : Int) = Builtin.Range.rangeSize lo hi 1 := by rw [rangeSize_one]; split <;> omega
    show IsRangeIter _ _ (lo + ((0 : Nat) : Int) * 1) ((((hi - lo).toNat : Nat) : Int) - ((0 : Nat) : Int)) 1
    rw [e1, e2]
    exact Heap.get?_push_size _ rfl
  · have e : b = (s.heap.push { cls := .type "range", data := .fields #[.int lo t, .int hi u, .int 1 v] }).objs.size := by simpa using hb
    subst e
    exact I1.fpOk (Nat.le_refl _) (I1.hok.fresh (Nat.le_refl _))
def iRng1 (ta : TA) : TI := fun σ H R => ta σ H fun vs H1 => ∃ j : Int, vs = [.int j] ∧ -(2 ^ 62) ≤ j ∧ j < 2 ^ 62 ∧ R (Itr 0 j.toNat) H1
theorem pi_range1 {a : Expr} {ta : TA} {p pos : Pos} (hg : Gl X "range") (hm : X.mg "range" = none) (ha : PA X [a] ta) (hs : starEach [a] X.env = [(false, eval a X.env)] := by rfl) : PI X tg (.Call (.Name "range" p) [a] [] pos) (iRng1 ta) := by
  intro pins s σ H R I h
  refine Call_ (ld_blt I hg hm boot_range (PyProof.Rows.callWith_type1 (thn (ha pos pins s σ H _ I h) fun us s1 ⟨vs, H1, I1, r1, q1⟩ => ?_) hs rfl))
  obtain ⟨j, e, q1, q2, q⟩ := q1
  subst e
  cases r1 with
  | cons r rr =>
    cases rr
    obtain ⟨t, rfl⟩ := r
    exact call_range_1 (range_it I1 (by omega) (by omega) q1 q2 (by simpa using q))
/-! ### for -/
/-- W: the invariant by the turn and a measure; N: what the body is to reach -/
def tFor (wi : TI) (g : TG) (tb : TS) : TS := fun D σ H => wi σ H fun J H1 => ∃ W : Nat → Nat → St → Hp → Prop, (∃ m, W 0 m σ H1) ∧ ∀ i m σ H, W i m σ H →
  (J.stop i H ∧ D.nx σ H) ∨ (J.go i H ∧ ∃ N : St → Hp → Prop, (∀ σ' H', N σ' H' → ∃ m', m' < m ∧ W (i + 1) m' σ' H') ∧ ∀ x H', J.yld i H x H' → g x σ H' fun σ2 H2 => tb { D with nx := N, ct := N, bk := D.nx } σ2 H2)
/-- the records at fp as they stand -/
def pinsAt (fp : List Addr) (h : Heap) : List (Addr × Obj) := fp.filterMap fun b => (h.get? b).map fun o => (b, o)
theorem mem_pinsAt {fp : List Addr} {h : Heap} {b : Addr} {o : Obj} (hb : b ∈ fp) (e : h.get? b = some o) : (b, o) ∈ pinsAt fp h := List.mem_filterMap.mpr ⟨b, hb, by rw [e]; rfl⟩
theorem of_pinsAt {fp : List Addr} {h : Heap} {p : Addr × Obj} (hp : p ∈ pinsAt fp h) : p.1 ∈ fp ∧ h.get? p.1 = some p.2 := by
  obtain ⟨b, hb, e⟩ := List.mem_filterMap.mp hp
  cases q : h.get? b with
  | none => rw [q] at e; cases e
  | some o =>
    rw [q] at e
    have e' : (b, o) = p := Option.some.inj e
    subst e'
    exact ⟨hb, q⟩
theorem Inv.pinned {pins : List (Addr × Obj)} {σ : St} {H : Hp} {s : Shared} {fp : List Addr} (I : Inv X pins σ H s) (hf : ∀ b ∈ fp, FpOk X pins H b) (ho : ∀ b ∈ fp, ∃ o, s.heap.get? b = some o ∧ ∀ v, o.data ≠ .cell v) : Inv X (pins ++ pinsAt fp s.heap) σ H s :=
  I.pins_of fun p hp => (List.mem_append.mp hp).elim (fun z => I.pin p (List.mem_append_right _ z)) fun z => by
    obtain ⟨hb, e⟩ := of_pinsAt z
    obtain ⟨f0, f1, f2, _⟩ := hf p.1 hb
    obtain ⟨o, e', d⟩ := ho p.1 hb
    rw [e] at e'; cases e'
    exact ⟨e, f0, f1, f2, d⟩
theorem Inv.unpinned {pins pl : List (Addr × Obj)} {σ : St} {H : Hp} {s : Shared} (I : Inv X (pins ++ pl) σ H s) : Inv X pins σ H s := I.pins_of fun p hp => I.pin p (List.mem_append_right _ (List.mem_append_left _ hp))
theorem ps_for {iter : Expr} {body : List Stmt} {wi : TI} {g : TG} {tb : TS} {pos : Pos} (hp : PassesOwn (model X.prog X.w) X.A X.env X.xe) (hc : X.calm = true) (hi : PI X tg iter wi) (hg : PG X tg g) (hb : PSs X body tb)
    (hs : ∀ x, foldedSetIterable iter X.env x = pure x := by intro _; rfl) : PS X (.For tg iter body [] pos) (tFor wi g tb) := by
  intro pins s σ H D I h
  refine wpAny_For (thn (hi pins s σ H _ I h) fun v s1 h1 => thn h1 fun itv s2 h2 => ?_) hs
  obtain ⟨it, fp, tn, J, H2, e, I2, T, st2, f2, W, ⟨m0, w0⟩, turn⟩ := h2
  subst e
  -- what stays true of the iterator's objects through the loop
  have stat : ∀ {H' : Hp}, (∀ b ∈ fp, H' b = none) → ∀ b ∈ fp, FpOk X pins H' b := fun hn b hb => ⟨hn b hb, (f2 b hb).2⟩
  refine codeAny_forLoop_any (fun n s' => ∃ i σ' H', Inv X pins σ' H' s' ∧ tn i s'.heap ∧ (∀ b ∈ fp, H' b = none) ∧ W i n σ' H') ?_ m0 ⟨0, σ, H2, I2, st2, fun b hb => (f2 b hb).1, w0⟩
  rintro n s3 ⟨i, σ3, H3, I3, st3, fr3, w3⟩
  rcases turn i n σ3 H3 w3 with ⟨stop, qn⟩ | ⟨go, N, hN, step⟩
  · refine wpAny_passesOwn hp (thn (T.done X rfl rfl rfl hc i pins s3 σ3 H3 X.xe I3 (stat fr3) st3 stop) fun r s4 ⟨hr, I4⟩ => ?_)
    subst hr
    exact wpAny_execs_nil ⟨σ3, H3, I4, qn⟩
  · refine wpAny_passesOwn hp (thn (T.item X rfl rfl rfl hc i pins s3 σ3 H3 X.xe I3 (stat fr3) st3 go) fun r s4 ⟨u, hr, h4⟩ => ?_)
    subst hr
    refine wpAny_passesOwn hp (thn h4 fun _ s5 ⟨x, H5, I5, r5, y5, st5, fr5⟩ => ?_)
    have I5' := I5.pinned (stat fr5) (T.obj _ _ st5)
    refine wpAny_passesOwn hp (thn (hg _ s5 σ3 H5 x u _ I5' r5 (step x H5 y5)) fun _ s6 ⟨σ6, H6, I6, q6⟩ => ?_)
    refine wpAny_passesOwn hp (thn (hb _ s6 σ6 H6 _ I6 q6) fun f s7 q7 => ?_)
    have again : ∀ {σ7 : St} {H7 : Hp}, Inv X (pins ++ pinsAt fp s5.heap) σ7 H7 s7 → N σ7 H7 → ∃ m, m < n ∧ ∃ i σ' H', Inv X pins σ' H' s7 ∧ tn i s7.heap ∧ (∀ b ∈ fp, H' b = none) ∧ W i m σ' H' := fun {σ7 H7} I7 n7 => by
      obtain ⟨m', hm, w7⟩ := hN σ7 H7 n7
      refine ⟨m', hm, i + 1, σ7, H7, I7.unpinned, T.keep _ _ _ st5 fun b hb o e => (I7.pin (b, o) (List.mem_append_right _ (List.mem_append_right _ (mem_pinsAt hb e)))).1, fun b hb => ?_, w7⟩
      obtain ⟨o, e, d⟩ := T.obj _ _ st5 b hb
      exact (I7.pin (b, o) (List.mem_append_right _ (List.mem_append_right _ (mem_pinsAt hb e)))).2.1
    cases f with
    | next => obtain ⟨σ7, H7, I7, n7⟩ := q7; exact again I7 n7
    | cont => obtain ⟨σ7, H7, I7, n7⟩ := q7; exact again I7 n7
    | brk => obtain ⟨σ7, H7, I7, q7⟩ := q7; exact ⟨σ7, H7, I7.unpinned, q7⟩
    | ret v => obtain ⟨x7, σ7, H7, I7, r7, q7⟩ := q7; exact ⟨x7, σ7, H7, I7.unpinned, r7, q7⟩
end
/-! ### the forms one uses -/
/-- over a list that the body leaves as it is -/
theorem for_list {K : PySem.W.Frag} {a : Addr} {xs : List V} {g : TG} {tb : TS} {D : Ends} {σ : St} {H : Hp} (Pv : Nat → St → Hp → Prop) (h0 : Pv 0 σ H) (hl : ∀ i σ H, i ≤ xs.length → Pv i σ H → SqL K H a xs)
    (hs : ∀ i x σ H, xs[i]? = some x → Pv i σ H → g x σ H fun σ2 H2 => tb { D with nx := Pv (i + 1), ct := Pv (i + 1), bk := D.nx } σ2 H2) (hd : ∀ σ H, Pv xs.length σ H → D.nx σ H) :
    ∃ W : Nat → Nat → St → Hp → Prop, (∃ m, W 0 m σ H) ∧ ∀ i m σ H, W i m σ H →
      ((Itl K a).stop i H ∧ D.nx σ H) ∨ ((Itl K a).go i H ∧ ∃ N : St → Hp → Prop, (∀ σ' H', N σ' H' → ∃ m', m' < m ∧ W (i + 1) m' σ' H') ∧ ∀ x H', (Itl K a).yld i H x H' → g x σ H' fun σ2 H2 => tb { D with nx := N, ct := N, bk := D.nx } σ2 H2) := by
  refine ⟨fun i m σ H => m = xs.length - i ∧ i ≤ xs.length ∧ Pv i σ H, ⟨xs.length, by simp, Nat.zero_le _, h0⟩, ?_⟩
  rintro i m σ H ⟨rfl, hi, p⟩
  have q := hl i σ H hi p
  by_cases hlt : i < xs.length
  · refine .inr ⟨⟨xs, xs[i], q, by simp [hlt]⟩, Pv (i + 1), fun σ' H' p' => ⟨xs.length - (i + 1), by omega, rfl, hlt, p'⟩, fun x H' y => ?_⟩
    obtain ⟨e, y⟩ := y
    subst e
    exact hs i x σ _ (y xs q) p
  · have e : i = xs.length := by omega
    subst e
    exact .inl ⟨⟨xs, q, Nat.le_refl _⟩, hd σ H p⟩
end L2
namespace L2
open PySem PySem.Spec PyProof.Rows
abbrev R2 := V → V → Hp → VK → Prop
/-- a two-place operation on values: f is binaryOp op, inplaceOp op or compareOp op -/
def OpR (X : Cx) (f : Value → Value → Sem Value) (r : R2) : Prop :=
  ∀ (pins : List (Addr × Obj)) (s : Shared) (σ : St) (H : Hp) (x y : V) (v u : Value) (Q : VK), Inv X pins σ H s → RelV x v → RelV y u → r x y H Q →
    wpAny (model X.prog X.w) X.A (f v u) (EP X pins σ Q) X.xe s
/-- a one-place operation -/
def UnR (X : Cx) (f : Value → Sem Value) (r : V → Hp → VK → Prop) : Prop :=
  ∀ (pins : List (Addr × Obj)) (s : Shared) (σ : St) (H : Hp) (x : V) (v : Value) (Q : VK), Inv X pins σ H s → RelV x v → r x H Q →
    wpAny (model X.prog X.w) X.A (f v) (EP X pins σ Q) X.xe s
/-- a call of a value that is known (a builtin, a type) with values -/
def CallR (X : Cx) (f : Value) (r : List V → Hp → VK → Prop) : Prop :=
  ∀ (pins : List (Addr × Obj)) (s : Shared) (σ : St) (H : Hp) (xs : List V) (us : List Value) (Q : VK), Inv X pins σ H s → Vals xs us → r xs H Q →
    wpAny (model X.prog X.w) X.A (call f us) (EP X pins σ Q) X.xe s
def tOp (r : R2) (ta tb : TE) : TE := fun σ H Q => ta σ H fun x H1 => tb σ H1 fun y H2 => r x y H2 Q
def tUn (r : V → Hp → VK → Prop) (ta : TE) : TE := fun σ H Q => ta σ H fun x H1 => r x H1 Q
/-- ints in, under C, and a value out -/
def rI (C : Int → Int → Prop) (g : Int → Int → V) : R2 := fun x y H Q => ∃ i j, x = .int i ∧ y = .int j ∧ C i j ∧ Q (g i j) H
def rI0 (g : Int → Int → V) : R2 := fun x y H Q => ∃ i j, x = .int i ∧ y = .int j ∧ Q (g i j) H
def rU (g : Int → V) : V → Hp → VK → Prop := fun x H Q => ∃ i, x = .int i ∧ Q (g i) H
section
variable {X : Cx} {a b c : Expr} {ta tb tc : TE} {pos : Pos}
theorem binT (ha : PE X a ta) (hb : PE X b tb) {pins : List (Addr × Obj)} {s : Shared} {σ : St} {H : Hp} {R : V → V → Hp → Prop} (I : Inv X pins σ H s)
    (h : ta σ H fun x H1 => tb σ H1 fun y H2 => R x y H2) {Q : Value → Shared → Prop} {f : Value → Value → Sem Value}
    (hf : ∀ v u s2 x y H2, Inv X pins σ H2 s2 → RelV x v → RelV y u → R x y H2 → wpAny (model X.prog X.w) X.A (f v u) Q X.xe s2) :
    wpAny (model X.prog X.w) X.A (eval a X.env) (fun v s₁ => wpAny (model X.prog X.w) X.A (eval b X.env) (fun u s₂ => wpAny (model X.prog X.w) X.A (f v u) Q X.xe s₂) X.xe s₁) X.xe s := by
  refine thn (ha pins s σ H _ I h) fun v s1 ⟨x, H1, I1, r1, q1⟩ => ?_
  refine thn (hb pins s1 σ H1 _ I1 q1) fun u s2 ⟨y, H2, I2, r2, q2⟩ => ?_
  exact hf v u s2 x y H2 I2 r1 r2 q2
theorem pe_op {op : Operator} {r : R2} (ho : OpR X (binaryOp op) r) (ha : PE X a ta) (hb : PE X b tb) : PE X (.BinOp a op b pos) (tOp r ta tb) := by
  intro pins s σ H Q I h
  exact wpAny_BinOp (binT ha hb I h fun v u s2 x y H2 I2 rx ry q => ho pins s2 σ H2 x y v u Q I2 rx ry q)
theorem pe_un {op : UnaryOp} {r : V → Hp → VK → Prop} (ho : UnR X (unaryOp op) r) (ha : PE X a ta) : PE X (.UnaryOp op a pos) (tUn r ta) := by
  intro pins s σ H Q I h
  exact UnaryOp_ (thn (ha pins s σ H _ I h) fun v s1 ⟨x, H1, I1, r1, q1⟩ => ho pins s1 σ H1 x v Q I1 r1 q1)
/-! ### ints -/
theorem opI {f : Value → Value → Sem Value} {C : Int → Int → Prop} {g : Int → Int → Int}
    (rule : ∀ (i j : Int) (t u : Tok) (s : Shared) (Q : Value → Shared → Prop) (E : Value → Shared → Prop), C i j → Q (.int (g i j) s.toks) { s with toks := s.toks + 1 } → wpAny (model X.prog X.w) X.A (f (.int i t) (.int j u)) Q E s) :
    OpR X f (rI C fun i j => .int (g i j)) := by
  intro pins s σ H x y v u Q I rx ry h
  obtain ⟨i, j, rfl, rfl, hc, q⟩ := h
  obtain ⟨t, rfl⟩ := rx
  obtain ⟨t', rfl⟩ := ry
  exact rule i j t t' s _ _ hc ⟨.int (g i j), H, I.tok _, ⟨_, rfl⟩, q⟩
theorem opI0 {f : Value → Value → Sem Value} {g : Int → Int → Int}
    (rule : ∀ (i j : Int) (t u : Tok) (s : Shared) (Q : Value → Shared → Prop) (E : Value → Shared → Prop), Q (.int (g i j) s.toks) { s with toks := s.toks + 1 } → wpAny (model X.prog X.w) X.A (f (.int i t) (.int j u)) Q E s) :
    OpR X f (rI0 fun i j => .int (g i j)) := by
  intro pins s σ H x y v u Q I rx ry h
  obtain ⟨i, j, rfl, rfl, q⟩ := h
  obtain ⟨t, rfl⟩ := rx
  obtain ⟨t', rfl⟩ := ry
  exact rule i j t t' s _ _ ⟨.int (g i j), H, I.tok _, ⟨_, rfl⟩, q⟩
theorem opB0 {f : Value → Value → Sem Value} {g : Int → Int → Bool}
    (rule : ∀ (i j : Int) (t u : Tok) (s : Shared) (Q : Value → Shared → Prop) (E : Value → Shared → Prop), Q (.bool (g i j)) s → wpAny (model X.prog X.w) X.A (f (.int i t) (.int j u)) Q E s) :
    OpR X f (rI0 fun i j => .bl (g i j)) := by
  intro pins s σ H x y v u Q I rx ry h
  obtain ⟨i, j, rfl, rfl, q⟩ := h
  obtain ⟨t, rfl⟩ := rx
  obtain ⟨t', rfl⟩ := ry
  exact rule i j t t' s _ _ ⟨.bl (g i j), H, I, rfl, q⟩
def CMul (i j : Int) : Prop := (-(2 ^ 64) < i ∧ i < 2 ^ 64) ∨ (-(2 ^ 64) < j ∧ j < 2 ^ 64)
theorem CMul.ok {i j : Int} (h : CMul i j) : IntMulOk i j := by
  rcases h with ⟨h1, h2⟩ | ⟨h1, h2⟩
  · exact .of_left (intBits_le_64 h1 h2)
  · exact .of_right (intBits_le_64 h1 h2)
theorem op_add : OpR X (binaryOp .Add) (rI0 fun i j => .int (i + j)) := opI0 fun _ _ _ _ _ _ _ q => add_int q
theorem op_sub : OpR X (binaryOp .Sub) (rI0 fun i j => .int (i - j)) := opI0 fun _ _ _ _ _ _ _ q => sub_int q
theorem op_mul : OpR X (binaryOp .Mult) (rI CMul fun i j => .int (i * j)) := opI fun _ _ _ _ _ _ _ hc q => mul_int q hc.ok
theorem unI {f : Value → Sem Value} {g : Int → Int}
    (rule : ∀ (i : Int) (t : Tok) (s : Shared) (Q : Value → Shared → Prop) (E : Value → Shared → Prop), Q (.int (g i) s.toks) { s with toks := s.toks + 1 } → wpAny (model X.prog X.w) X.A (f (.int i t)) Q E s) :
    UnR X f (rU fun i => .int (g i)) := by
  intro pins s σ H x v Q I rx h
  obtain ⟨i, rfl, q⟩ := h
  obtain ⟨t, rfl⟩ := rx
  exact rule i t s _ _ ⟨.int (g i), H, I.tok _, ⟨_, rfl⟩, q⟩
theorem un_neg : UnR X (unaryOp .USub) (rU fun i => .int (-i)) := unI fun _ _ _ _ _ q => neg_int q
/-! ### bools among ints: n += (a < b) -/
end
/-! ### comparisons -/
/-- the scalars that == tells apart as data does -/
def scal : V → V → Bool
  | .non, .non => true | .non, .int _ => true | .int _, .non => true | .non, .bl _ => true | .bl _, .non => true | .non, .str _ => true | .str _, .non => true
  | .int _, .int _ => true | .bl _, .bl _ => true | .str _, .str _ => true | .byt _, .byt _ => true
  | .int _, .str _ => true | .str _, .int _ => true | .bl _, .str _ => true | .str _, .bl _ => true
  | _, _ => false
def rEq : R2 := fun x y H Q => scal x y = true ∧ Q (.bl (decide (x = y))) H
def rNe : R2 := fun x y H Q => scal x y = true ∧ Q (.bl (!decide (x = y))) H
theorem dec_int {i j : Int} : decide (V.int i = V.int j) = (i == j) := by
  rw [Bool.eq_iff_iff]
  simp
theorem dec_bl {i j : Bool} : decide (V.bl i = V.bl j) = (i == j) := by
  rw [Bool.eq_iff_iff]
  simp
theorem dec_str {i j : Str} : decide (V.str i = V.str j) = (i == j) := by
  rw [Bool.eq_iff_iff]
  simp
theorem dec_byt {i j : Array UInt8} : decide (V.byt i = V.byt j) = (i.toList == j.toList) := by
  rw [Bool.eq_iff_iff]
  cases i
  cases j
  simp
section
variable {X : Cx} {a b c : Expr} {ta tb tc : TE} {pos : Pos}
theorem fin_bl {pins : List (Addr × Obj)} {σ : St} {H : Hp} {s : Shared} {Q : VK} {k k' : Bool} (I : Inv X pins σ H s) (q : Q (.bl k) H) (e : k = k') : EP X pins σ Q (.bool k') s := by
  subst e
  exact ⟨.bl k, H, I, rfl, q⟩
theorem op_eq : OpR X (compareOp .Eq) rEq := by
  intro pins s σ H x y v u Q I rx ry h
  obtain ⟨hs, q⟩ := h
  cases x with
  | non =>
    cases rx
    cases y with
    | non => cases ry; exact PySem.EqNone.eq_none_none (fin_bl I q (by simp))
    | bl j => cases ry; exact PySem.EqNone.eq_none_bool (fin_bl I q (by simp))
    | int j => obtain ⟨t', rfl⟩ := ry; exact PySem.EqNone.eq_none_int (fin_bl I q (by simp))
    | str j => obtain ⟨t', rfl⟩ := ry; exact PySem.EqNone.eq_none_str (fin_bl I q (by simp))
    | _ => exact absurd (show false = true from hs) Bool.false_ne_true
  | bl i =>
    cases rx
    cases y with
    | non => cases ry; exact PySem.EqNone.eq_bool_none (fin_bl I q (by simp))
    | bl j => cases ry; exact eq_bool (fin_bl I q dec_bl)
    | str j => obtain ⟨t', rfl⟩ := ry; exact PySem.EqMixed.eq_bool_str (fin_bl I q (by simp))
    | _ => exact absurd (show false = true from hs) Bool.false_ne_true
  | int i =>
    obtain ⟨t, rfl⟩ := rx
    cases y with
    | non => cases ry; exact PySem.EqNone.eq_int_none (fin_bl I q (by simp))
    | int j => obtain ⟨t', rfl⟩ := ry; exact eq_int (fin_bl I q dec_int)
    | str j => obtain ⟨t', rfl⟩ := ry; exact PySem.EqMixed.eq_int_str (fin_bl I q (by simp))
    | _ => exact absurd (show false = true from hs) Bool.false_ne_true
  | str i =>
    obtain ⟨t, rfl⟩ := rx
    cases y with
    | non => cases ry; exact PySem.EqNone.eq_str_none (fin_bl I q (by simp))
    | bl j => cases ry; exact PySem.EqMixed.eq_str_bool (fin_bl I q (by simp))
    | int j => obtain ⟨t', rfl⟩ := ry; exact PySem.EqMixed.eq_str_int (fin_bl I q (by simp))
    | str j => obtain ⟨t', rfl⟩ := ry; exact eq_str (fin_bl I q dec_str)
    | _ => exact absurd (show false = true from hs) Bool.false_ne_true
  | byt i =>
    obtain ⟨t, rfl⟩ := rx
    cases y with
    | byt j => obtain ⟨t', rfl⟩ := ry; exact PySem.W.eq_bytes (fin_bl I q dec_byt)
    | _ => exact absurd (show false = true from hs) Bool.false_ne_true
  | _ => cases y <;> exact absurd (show false = true from hs) Bool.false_ne_true
theorem op_ne : OpR X (compareOp .NotEq) rNe := by
  intro pins s σ H x y v u Q I rx ry h
  obtain ⟨hs, q⟩ := h
  cases x with
  | non =>
    cases rx
    cases y with
    | non => cases ry; exact PySem.EqNone.ne_none_none (fin_bl I q (by simp))
    | bl j => cases ry; exact PySem.EqNone.ne_none_bool (fin_bl I q (by simp))
    | int j => obtain ⟨t', rfl⟩ := ry; exact PySem.EqNone.ne_none_int (fin_bl I q (by simp))
    | str j => obtain ⟨t', rfl⟩ := ry; exact PySem.EqNone.ne_none_str (fin_bl I q (by simp))
    | _ => exact absurd (show false = true from hs) Bool.false_ne_true
  | bl i =>
    cases rx
    cases y with
    | non => cases ry; exact PySem.EqNone.ne_bool_none (fin_bl I q (by simp))
    | bl j => cases ry; exact ne_bool (fin_bl I q (congrArg not dec_bl))
    | str j => obtain ⟨t', rfl⟩ := ry; exact PySem.EqMixed.ne_bool_str (fin_bl I q (by simp))
    | _ => exact absurd (show false = true from hs) Bool.false_ne_true
  | int i =>
    obtain ⟨t, rfl⟩ := rx
    cases y with
    | non => cases ry; exact PySem.EqNone.ne_int_none (fin_bl I q (by simp))
    | int j => obtain ⟨t', rfl⟩ := ry; exact ne_int (fin_bl I q (congrArg not dec_int))
    | str j => obtain ⟨t', rfl⟩ := ry; exact PySem.EqMixed.ne_int_str (fin_bl I q (by simp))
    | _ => exact absurd (show false = true from hs) Bool.false_ne_true
  | str i =>
    obtain ⟨t, rfl⟩ := rx
    cases y with
    | non => cases ry; exact PySem.EqNone.ne_str_none (fin_bl I q (by simp))
    | bl j => cases ry; exact PySem.EqMixed.ne_str_bool (fin_bl I q (by simp))
    | int j => obtain ⟨t', rfl⟩ := ry; exact PySem.EqMixed.ne_str_int (fin_bl I q (by simp))
    | str j => obtain ⟨t', rfl⟩ := ry; exact ne_str (fin_bl I q (congrArg not dec_str))
    | _ => exact absurd (show false = true from hs) Bool.false_ne_true
  | byt i =>
    obtain ⟨t, rfl⟩ := rx
    cases y with
    | byt j => obtain ⟨t', rfl⟩ := ry; exact PySem.W.ne_bytes (fin_bl I q (congrArg not dec_byt))
    | _ => exact absurd (show false = true from hs) Bool.false_ne_true
  | _ => cases y <;> exact absurd (show false = true from hs) Bool.false_ne_true
theorem op_lt : OpR X (compareOp .Lt) (rI0 fun i j => .bl (decide (i < j))) := opB0 fun _ _ _ _ _ _ _ q => lt_int q
theorem op_le : OpR X (compareOp .LtE) (rI0 fun i j => .bl (decide (i ≤ j))) := opB0 fun _ _ _ _ _ _ _ q => le_int q
theorem op_gt : OpR X (compareOp .Gt) (rI0 fun i j => .bl (decide (j < i))) := opB0 fun _ _ _ _ _ _ _ q => gt_int q
theorem op_ge : OpR X (compareOp .GtE) (rI0 fun i j => .bl (decide (j ≤ i))) := opB0 fun _ _ _ _ _ _ _ q => ge_int q
theorem nomark (b : Expr) {op : CmpOp} (h : op ≠ .In := by decide) (h2 : op ≠ .NotIn := by decide) : behindInMarks op b = false := by
  have e1 : (op == CmpOp.In) = false := by cases op <;> first | rfl | exact absurd rfl h
  have e2 : (op == CmpOp.NotIn) = false := by cases op <;> first | rfl | exact absurd rfl h2
  cases b <;> simp [behindInMarks, e1, e2]
/-- a comparison as a value; hm: nomark b, or (for in, not in) by with_unfolding_all rfl -/
theorem pe_cmpR {op : CmpOp} {r : R2} (ho : OpR X (compareOp op) r) (ha : PE X a ta) (hb : PE X b tb) (hm : behindInMarks op b = false) : PE X (.Compare a [op] [b] pos) (tOp r ta tb) := by
  intro pins s σ H Q I h
  exact wpAny_Compare1 (binT ha hb I h fun v u s2 x y H2 I2 rx ry q => ho pins s2 σ H2 x y v u Q I2 rx ry q) hm
/-- a reading of a value as a test -/
def tTest (t : TE) : TT := fun σ H Q => t σ H fun x H' => ∃ k, x = .bl k ∧ Q k H'
theorem pt_cmpR {op : CmpOp} {r : R2} (ho : OpR X (compareOp op) r) (ha : PE X a ta) (hb : PE X b tb) (hm : behindInMarks op b = false) : PT X (.Compare a [op] [b] pos) (tTest (tOp r ta tb)) := by
  intro pins s σ H Q I h
  refine wpAny_isTrue_Compare1 (thn (ha pins s σ H _ I h) fun v s1 ⟨x, H1, I1, r1, q1⟩ => thn (hb pins s1 σ H1 _ I1 q1) fun u s2 ⟨y, H2, I2, r2, q2⟩ =>
    thn (ho pins s2 σ H2 x y v u _ I2 r1 r2 q2) fun c s3 ⟨z, H3, I3, r3, k, e, q3⟩ => ?_) hm
  subst e
  cases r3
  exact wpAny_truthy_bool ⟨H3, I3, q3⟩
/-- a op1 b op2 c -/
def tChain (r r' : R2) (ta tb tc : TE) : TE := fun σ H Q => ta σ H fun x H1 => tb σ H1 fun y H2 => r x y H2 fun z H3 => ∃ k, z = .bl k ∧
  (if k = true then tc σ H3 fun w' H4 => r' y w' H4 Q else Q (.bl false) H3)
theorem pe_chain {op op' : CmpOp} {r r' : R2} (ho : OpR X (compareOp op) r) (ho' : OpR X (compareOp op') r') (ha : PE X a ta) (hb : PE X b tb) (hc : PE X c tc)
    (hm : lastMarks [op, op'] [b, c] = false := by with_unfolding_all rfl) : PE X (.Compare a [op, op'] [b, c] pos) (tChain r r' ta tb tc) := by
  intro pins s σ H Q I h
  refine Compare_chain (thn (ha pins s σ H _ I h) fun v s1 ⟨x, H1, I1, r1, q1⟩ => chain_link (thn (hb pins s1 σ H1 _ I1 q1) fun u s2 ⟨y, H2, I2, r2, q2⟩ =>
    thn (ho pins s2 σ H2 x y v u _ I2 r1 r2 q2) fun d s3 ⟨z, H3, I3, r3, k, e, q3⟩ => ?_)) hm
  subst e
  cases r3
  refine wpAny_truthy_bool ?_
  cases k with
  | false => exact ite_ff ⟨.bl false, H3, I3, rfl, q3⟩
  | true => exact ite_tt (chain_last (thn (hc pins s3 σ H3 _ I3 q3) fun w' s4 ⟨z', H4, I4, r4, q4⟩ => ho' pins s4 σ H4 y z' u w' Q I4 r2 r4 q4))
theorem pt_chain {op op' : CmpOp} {r r' : R2} (ho : OpR X (compareOp op) r) (ho' : OpR X (compareOp op') r') (ha : PE X a ta) (hb : PE X b tb) (hc : PE X c tc)
    (hm : lastMarks [op, op'] [b, c] = false := by with_unfolding_all rfl) : PT X (.Compare a [op, op'] [b, c] pos) (tTest (tChain r r' ta tb tc)) := by
  intro pins s σ H Q I h
  refine isTrue_chain (thn (ha pins s σ H _ I h) fun v s1 ⟨x, H1, I1, r1, q1⟩ => test_link (thn (hb pins s1 σ H1 _ I1 q1) fun u s2 ⟨y, H2, I2, r2, q2⟩ =>
    thn (ho pins s2 σ H2 x y v u _ I2 r1 r2 q2) fun d s3 ⟨z, H3, I3, r3, k, e, q3⟩ => ?_)) hm
  subst e
  cases r3
  refine wpAny_truthy_bool ?_
  cases k with
  | false =>
    obtain ⟨k', e', q'⟩ := q3
    cases e'
    exact ite_ff ⟨H3, I3, q'⟩
  | true =>
    refine ite_tt (test_last (thn (hc pins s3 σ H3 _ I3 q3) fun w' s4 ⟨z', H4, I4, r4, q4⟩ => thn (ho' pins s4 σ H4 y z' u w' _ I4 r2 r4 q4) fun d' s5 ⟨z2, H5, I5, r5, k2, e2, q5⟩ => ?_))
    subst e2
    cases r5
    exact wpAny_truthy_bool ⟨H5, I5, q5⟩
/-! ### truth -/
theorem line63 : (sizeLine : Nat) < 2 ^ 63 := by rw [sizeLine_eq]; decide
/-! ### strs and bytes -/
/-! ### scalar builtins, by CallR -/
theorem vals1 {x : V} {us : List Value} (r : Vals [x] us) : ∃ u, us = [u] ∧ RelV x u := by
  cases r with
  | cons r1 r2 => cases r2; exact ⟨_, rfl, r1⟩
theorem vals2 {x y : V} {us : List Value} (r : Vals [x, y] us) : ∃ u w', us = [u, w'] ∧ RelV x u ∧ RelV y w' := by
  cases r with
  | cons r1 r2 =>
    cases r2 with
    | cons r3 r4 => cases r4; exact ⟨_, _, rfl, r1, r3⟩
theorem call_abs : CallR X (.builtin "abs") (fun xs H Q => ∃ i, xs = [.int i] ∧ Q (.int (if i < 0 then -i else i)) H) := by
  intro pins s σ H xs us Q I r h
  obtain ⟨i, rfl, q⟩ := h
  obtain ⟨u, rfl, t, rfl⟩ := vals1 r
  exact call_abs_int fun u tk => ⟨.int (if i < 0 then -i else i), H, I.tok _, ⟨_, rfl⟩, q⟩
theorem call_max2 (hc : X.calm = true) : CallR X (.builtin "max") (fun xs H Q => ∃ i j, xs = [.int i, .int j] ∧ Q (.int (if j > i then j else i)) H) := by
  intro pins s σ H xs us Q I r h
  obtain ⟨i, j, rfl, q⟩ := h
  obtain ⟨u, w', rfl, ⟨t, rfl⟩, ⟨t', rfl⟩⟩ := vals2 r
  refine max_two_ints (I.ok.hd hc) fun h' tk k => ⟨_, H, I.kept k, ?_, q⟩
  by_cases hj : j > i
  · rw [if_pos hj, if_pos hj]; exact ⟨_, rfl⟩
  · rw [if_neg hj, if_neg hj]; exact ⟨_, rfl⟩
theorem call_min2 (hc : X.calm = true) : CallR X (.builtin "min") (fun xs H Q => ∃ i j, xs = [.int i, .int j] ∧ Q (.int (if j < i then j else i)) H) := by
  intro pins s σ H xs us Q I r h
  obtain ⟨i, j, rfl, q⟩ := h
  obtain ⟨u, w', rfl, ⟨t, rfl⟩, ⟨t', rfl⟩⟩ := vals2 r
  refine min_two_ints (I.ok.hd hc) fun h' tk k => ⟨_, H, I.kept k, ?_, q⟩
  by_cases hj : j < i
  · rw [if_pos hj, if_pos hj]; exact ⟨_, rfl⟩
  · rw [if_neg hj, if_neg hj]; exact ⟨_, rfl⟩
end
end L2
namespace L2
open PySem PySem.Spec PyProof.Rows
/-! ### an instance, its attributes a map -/
structure ObjM (h : Heap) (x dx C : Addr) (mA : Str → Option Value) : Prop where
  obj : h.get? x = some (PySem.W.instObj C dx)
  ns : h.Ns1 dx mA
  ne : dx ≠ x
theorem lookIn_ns {h : Heap} {dx : Addr} {mA : Str → Option Value} (n : h.Ns1 dx mA) : ∃ od, h.get? dx = some od ∧ ∀ name, PySem.W.lookIn name od = some (mA name) := by
  obtain ⟨o, es, ep, ho, hd, hk, _, hm⟩ := n
  refine ⟨o, ho, fun name => ?_⟩
  have e := hm name
  unfold nsFind findBy at e
  rw [← Array.find?_toList] at e
  unfold PySem.W.lookIn
  rw [hd]
  dsimp only
  split
  · rename_i y q
    rw [q] at e
    exact congrArg some e
  · rename_i q
    rw [q] at e
    have a : es.toList.any (·.refKey) = false := by
      rw [List.any_eq_false]
      intro y hy
      obtain ⟨z, t, hkey⟩ := hk y (Array.mem_toList_iff.mp hy)
      simp [DictEntry.refKey, hkey]
    have a' : ¬ es.toList.any (·.refKey) = true := by rw [a]; exact Bool.false_ne_true
    rw [if_neg a']
    exact congrArg some e
theorem ObjM.look {h : Heap} {x dx C : Addr} {mA : Str → Option Value} (I : ObjM h x dx C mA) : ∃ od, PySem.W.InstAt h x (PySem.W.instObj C dx) C (some od) ∧ ∀ name, PySem.W.lookIn name od = some (mA name) :=
  let ⟨od, ho, hl⟩ := lookIn_ns I.ns
  ⟨od, ⟨I.obj, rfl, rfl, ho⟩, hl⟩
section
variable {prog : Program} {w : World} {A : Around} {E : Value → Shared → Prop} {s : Shared} {K : PySem.W.Frag} {x dx C f : Addr} {mA : Str → Option Value} {name : Str} {v : Value}
theorem get_map {expr : Bool} {Q : Value → Shared → Prop} (X : K.In s.heap) (I : ObjM s.heap x dx C mA) (hg : PySem.W.plainGet K C name = true) (hh : PySem.W.hasDictIn K C = true)
    (ha : PySem.W.findIn K (.ref C) name = some none) (hv : mA name = some v) (hv' : PySem.W.handedIn v = true) (h : Q v { s with toks := s.toks + 1 }) :
    wpAny (model prog w) A (getAttr (.ref x) name expr) Q E s := by
  obtain ⟨od, J, hl⟩ := I.look
  exact PySem.W.get_value X J (PySem.W.plainGet_of hg).1 (PySem.W.findObj_own hh ha rfl (by rw [hl, hv])) hv' h
theorem get_meth {pl : Sem Bool} {Q : Value × List Value → Shared → Prop} (X : K.In s.heap) (I : ObjM s.heap x dx C mA) (hg : PySem.W.plainGet K C name = true)
    (hf : PySem.W.findIn K (.ref C) name = some (some (.ref f))) (ht : PySem.W.isFn K (.ref f) = true) (hv : mA name = none) (h : Q (.ref f, [.ref x]) s) :
    wpAny (model prog w) A (getMethod (.ref x) name pl) Q E s := by
  obtain ⟨od, J, hl⟩ := I.look
  exact PySem.W.method_fn X J (PySem.W.plainGet_of hg).1 (PySem.W.plainGet_of hg).2 hf (beq_iff_eq.mp ht) (by show (PySem.W.lookIn name od).map (·.isSome) = some false; rw [hl, hv]; rfl) h
theorem set_map {ns : List Str} {Q : Unit → Shared → Prop} (X : K.In s.heap) (I : ObjM s.heap x dx C mA)
    (hs : PySem.W.findIn K (.ref C) "__setattr__" = some (some (.builtin "object.__setattr__"))) (hp : PySem.W.plainOver K C = true) (ht : PySem.W.takerIn K C name = some none) (hh : PySem.W.hasDictIn K C = true)
    (hw : PySem.Within mA ns) (hsz : ns.length ≤ sizeLine)
    (h : ∀ h', ObjM h' x dx C (fun y => if y = name then some v else mA y) → Heap.SameBut dx s.heap h' → Q () { s with heap := h', toks := s.toks + 2 }) :
    wpAny (model prog w) A (setAttr (.ref x) name v) Q E s := by
  obtain ⟨od, J, hl⟩ := I.look
  refine PySem.W.set_plain X J hs (PySem.W.osa_open (s := { s with toks := s.toks + 1 }) (r := none) X J hp ht fun b => ?_)
  obtain ⟨cd, hc, hd'⟩ := PySem.W.any_some hh
  have hx : s.heap.get? x = some ⟨.ref C, some dx, .plain, #[]⟩ := I.obj
  refine wpAny_bind (wpAny_pure (wpAny_bind (wpAny_bind (wpAny_loadPart hx (wpAny_bind (PySem.W.Looks.here (s := { s with toks := s.toks + 1 }) (PySem.W.looks_clsIn X hc) ?_))))))
  rw [hd']
  refine wpAny_pure (a := some dx) (wpAny_bind (wpAny_pure (wpAny_bind ?_)))
  refine wpAny_nsSet1 (s := { s with toks := s.toks + 1 }) I.ns fun h' hn2 hs2 => ?_
  obtain ⟨oD, esD, epD, hoD, hdD, hcD⟩ := hn2.count (PySem.Within.cons name v hw)
  refine wpAny_bind (wpAny_lookBehind hoD (by rw [hdD]; exact pastItsLine_dict (Nat.le_trans hcD (by rw [List.length_cons]; omega))) ?_)
  exact wpAny_pure (h _ ⟨(hs2.2 _ (Ne.symm I.ne)).trans I.obj, hn2, I.ne⟩ hs2)
/-- C(..): the dict at the heap's end, the instance behind it; then its __init__ -/
theorem make_map {R : Result → Shared → Prop} {vs : List Value} {kw : List (Str × Value)} (X : K.In s.heap) (hm : PySem.W.makesIn K C = true)
    (hi : PySem.W.findIn K (.ref C) "__init__" = some (some (.ref f))) (hf : PySem.W.typeIn K (.ref f) = some (.type "function"))
    (h : codeAny (model prog w) (A.under (.builtin "type.__call__" ⟨.ref C :: vs, kw⟩)) (.call (.ref f) ⟨.ref (s.heap.objs.size + 1) :: vs, kw⟩) (PySem.W.InitBack (s.heap.objs.size + 1) R)
      { s with heap := (s.heap.push PySem.W.emptyDict).push (PySem.W.instObj C s.heap.objs.size) }) :
    codeAny (model prog w) A (.call (.ref C) ⟨vs, kw⟩) R s := by
  obtain ⟨hh, g, d, t, os⟩ := s
  exact PySem.W.make_core (PySem.W.makes_of X hm) (PySem.W.looks_findIn X hi) (fun self => PySem.W.bind_fn X self hf) (.inl rfl) h
end
/-! ### the attributes as a list of pairs -/
def putF (f : Str) (v : V) : List (Str × V) → List (Str × V)
  | [] => [(f, v)]
  | (g, x) :: r => if g = f then (g, v) :: r else (g, x) :: putF f v r
theorem lookup_putF (f g : Str) (v : V) : ∀ fs : List (Str × V), (putF f v fs).lookup g = if g = f then some v else fs.lookup g
  | [] => by
    show List.lookup g [(f, v)] = _
    by_cases h : g = f
    · have hb : (g == f) = true := beq_iff_eq.mpr h
      simp only [List.lookup, hb, if_pos h]
    · have hb : (g == f) = false := beq_eq_false_iff_ne.mpr h
      simp only [List.lookup, hb, if_neg h]
  | (k, x) :: r => by
    have ih := lookup_putF f g v r
    rw [show putF f v ((k, x) :: r) = (if k = f then (k, v) :: r else (k, x) :: putF f v r) from rfl]
    by_cases hk : k = f
    · rw [if_pos hk]
      by_cases h : g = k
      · have hb : (g == k) = true := beq_iff_eq.mpr h
        simp only [List.lookup, hb, if_pos (h.trans hk)]
      · have hb : (g == k) = false := beq_eq_false_iff_ne.mpr h
        simp only [List.lookup, hb, if_neg (fun e : g = f => h (e.trans hk.symm))]
    · rw [if_neg hk]
      by_cases h : g = k
      · have hb : (g == k) = true := beq_iff_eq.mpr h
        simp only [List.lookup, hb, if_neg (fun e : g = f => hk (h.symm.trans e))]
      · have hb : (g == k) = false := beq_eq_false_iff_ne.mpr h
        simp only [List.lookup, hb]
        exact ih
theorem keys_putF (f : Str) (v : V) : ∀ fs : List (Str × V), f ∈ (putF f v fs).map (·.1) ∧ ∀ g, g ∈ fs.map (·.1) → g ∈ (putF f v fs).map (·.1)
  | [] => ⟨by simp [putF], fun g h => by simp at h⟩
  | (k, x) :: r => by
    obtain ⟨i1, i2⟩ := keys_putF f v r
    rw [show putF f v ((k, x) :: r) = (if k = f then (k, v) :: r else (k, x) :: putF f v r) from rfl]
    by_cases hk : k = f
    · rw [if_pos hk]
      subst hk
      exact ⟨by simp, fun g h => by simpa using h⟩
    · rw [if_neg hk]
      refine ⟨?_, fun g h => ?_⟩
      · rw [List.map_cons]
        exact List.mem_cons_of_mem _ i1
      · rw [List.map_cons] at h ⊢
        rcases List.mem_cons.mp h with e | e
        · exact List.mem_cons.mpr (.inl e)
        · exact List.mem_cons_of_mem _ (i2 g e)
theorem length_putF (f : Str) (v : V) : ∀ fs : List (Str × V), (putF f v fs).length ≤ fs.length + 1
  | [] => by simp [putF]
  | (k, x) :: r => by
    have ih := length_putF f v r
    rw [show putF f v ((k, x) :: r) = (if k = f then (k, v) :: r else (k, x) :: putF f v r) from rfl]
    by_cases hk : k = f
    · rw [if_pos hk, List.length_cons, List.length_cons]; omega
    · rw [if_neg hk, List.length_cons, List.length_cons]; omega
theorem RelO.some_of {v : V} {o : Option Value} (r : RelO (some v) o) : ∃ u, o = some u ∧ RelV v u := by
  cases o with
  | none => exact (show False from r).elim
  | some u => exact ⟨u, rfl, r⟩
theorem RelO.none_of {o : Option Value} (r : RelO none o) : o = none := by
  cases o with
  | none => rfl
  | some u => exact (show False from r).elim
theorem handed_of {v : V} {u : Value} (r : RelV v u) : PySem.W.handedIn u = true := by
  cases v with
  | non => cases (show u = Value.none from r); rfl
  | bl b => cases (show u = Value.bool b from r); rfl
  | int i => obtain ⟨t, e⟩ := (show ∃ t, u = Value.int i t from r); cases e; rfl
  | str x => obtain ⟨t, e⟩ := (show ∃ t, u = Value.str x t from r); cases e; rfl
  | byt b => obtain ⟨t, e⟩ := (show ∃ t, u = Value.bytes b t from r); cases e; rfl
  | flt b => obtain ⟨t, e⟩ := (show ∃ t, u = Value.float b t from r); cases e; rfl
  | ref a => cases (show u = Value.ref a from r); rfl
  | ty n => cases (show u = Value.type n from r); rfl
section
variable {P : Program} {w : World} {H H' : Hp} {h h' : Heap} {a C dx : Addr} {fs fs' : List (Str × V)}
theorem ins_get (hok : HOk P w H h) (e : H a = some (.ins C dx fs)) : ∃ mA, ObjM h a dx C mA ∧ (∀ f, RelO (fs.lookup f) (mA f)) ∧ PySem.Within mA (fs.map (·.1)) ∧ fs.length ≤ 1000 ∧ H dx = some (.own a) := by
  obtain ⟨d, z, ne, ob, mA, n, r, q⟩ := (show ObjOk P w H h a (.ins C dx fs) from hok a _ e)
  exact ⟨mA, ⟨ob, n, ne⟩, r, q, z, d⟩
end
/-! ### what of the text a class must have -/
structure Cls (K : PySem.W.Frag) (C : Addr) : Prop where
  pg : PySem.W.plainGet K C Str.empty = true
  hd : PySem.W.hasDictIn K C = true
  po : PySem.W.plainOver K C = true
  sa : PySem.W.findIn K (.ref C) "__setattr__" = some (some (.builtin "object.__setattr__"))
theorem Cls.get {K : PySem.W.Frag} {C : Addr} (c : Cls K C) (f : Str) : PySem.W.plainGet K C f = true := c.pg
/-- no class of it has the name -/
def NoAttr (K : PySem.W.Frag) (C : Addr) (f : Str) : Prop := PySem.W.findIn K (.ref C) f = some none
theorem NoAttr.taker {K : PySem.W.Frag} {C : Addr} {f : Str} (n : NoAttr K C f) : PySem.W.takerIn K C f = some none := by
  unfold PySem.W.takerIn
  rw [show PySem.W.findIn K (.ref C) f = some none from n]
  rfl
/-- a method: a plain def of the class or of one above it -/
structure Meth (K : PySem.W.Frag) (C : Addr) (m : Str) (f : Addr) : Prop where
  at_ : PySem.W.findIn K (.ref C) m = some (some (.ref f))
  fn : PySem.W.isFn K (.ref f) = true
  kp : PySem.W.keepIn K (.ref f) = true
section
variable {X : Cx} {pins : List (Addr × Obj)} {σ : St} {H : Hp} {s : Shared} {a C dx : Addr} {fs : List (Str × V)} {f : Str} {v : V} {A : Around} {E : Value → Shared → Prop}
theorem getattr_ok {b : Bool} {Q : Value → Shared → Prop} (I : Inv X pins σ H s) (e : H a = some (.ins C dx fs)) (c : Cls X.K C) (n : NoAttr X.K C f) (l : fs.lookup f = some v)
    (h : ∀ u s', Inv X pins σ H s' → RelV v u → Q u s') : wpAny (model X.prog X.w) A (getAttr (.ref a) f b) Q E s := by
  obtain ⟨mA, O, r, _, _, _⟩ := ins_get I.hok e
  obtain ⟨u, hu, ru⟩ := RelO.some_of (v := v) (o := mA f) (by rw [← l]; exact r f)
  exact get_map I.kIn O (c.get f) c.hd n hu (handed_of ru) (h u _ (I.tok _) ru)
theorem getmeth_ok {m : Str} {g : Addr} {pl : Sem Bool} {Q : Value × List Value → Shared → Prop} (I : Inv X pins σ H s) (e : H a = some (.ins C dx fs)) (c : Cls X.K C) (k : Meth X.K C m g) (l : fs.lookup m = none)
    (h : Q (.ref g, [.ref a]) s) : wpAny (model X.prog X.w) A (getMethod (.ref a) m pl) Q E s := by
  obtain ⟨mA, O, r, _, _, _⟩ := ins_get I.hok e
  have hn : mA m = none := RelO.none_of (by rw [← l]; exact r m)
  exact get_meth I.kIn O (c.get m) k.at_ k.fn hn h
theorem setattr_ok {y : V} {u : Value} {Q : Unit → Shared → Prop} (I : Inv X pins σ H s) (e : H a = some (.ins C dx fs)) (c : Cls X.K C) (n : NoAttr X.K C f) (hl : fs.length < 1000) (ry : RelV y u)
    (h : ∀ s', Inv X pins σ (upd H a (.ins C dx (putF f y fs))) s' → Q () s') : wpAny (model X.prog X.w) A (setAttr (.ref a) f u) Q E s := by
  obtain ⟨mA, O, r, wi, _, ho⟩ := ins_get I.hok e
  have hz : (fs.map (·.1)).length ≤ sizeLine := by rw [List.length_map, sizeLine_eq]; omega
  refine set_map I.kIn O c.sa c.po n.taker c.hd wi hz fun h' O' sb => h _ ?_
  have hd : ∃ o, h'.get? dx = some o := let ⟨o, _, _, e', _⟩ := O'.ns; ⟨o, e'⟩
  refine I.write (x := a) (e := dx) (by rw [e]; exact True.intro) (.inr ho) (fun b q hb z => (sb.2 b hb).trans z) hd ?_
  refine ⟨by rw [upd_ne O.ne]; exact ho, ?_, O.ne, O'.obj, _, O'.ns, fun g => ?_, fun g hg => ?_⟩
  · have := length_putF f y fs; omega
  · show RelO ((putF f y fs).lookup g) (if g = f then some u else mA g)
    rw [lookup_putF]
    by_cases q : g = f
    · rw [if_pos q, if_pos q]; exact ry
    · rw [if_neg q, if_neg q]; exact r g
  · by_cases q : g = f
    · rw [q]; exact (keys_putF f y fs).1
    · refine (keys_putF f y fs).2 g (wi g fun z => hg ?_)
      show (if g = f then some u else mA g) = none
      rw [if_neg q]; exact z
/-- a new instance, tracked, without attributes -/
theorem Inv.made (I : Inv X pins σ H s) : Inv X pins σ (upd (upd H s.heap.objs.size (.own (s.heap.objs.size + 1))) (s.heap.objs.size + 1) (.ins C s.heap.objs.size []))
    { s with heap := (s.heap.push PySem.W.emptyDict).push (PySem.W.instObj C s.heap.objs.size) } := by
  have e1 : (s.heap.push PySem.W.emptyDict).get? s.heap.objs.size = some PySem.W.emptyDict := Heap.get?_push_size s.heap rfl
  have e2 : ((s.heap.push PySem.W.emptyDict).push (PySem.W.instObj C s.heap.objs.size)).get? (s.heap.objs.size + 1) = some (PySem.W.instObj C s.heap.objs.size) := by
    have := Heap.get?_push_size (s.heap.push PySem.W.emptyDict) (o := PySem.W.instObj C s.heap.objs.size) rfl
    rwa [Heap.size_push] at this
  have e3 : (s.heap.push PySem.W.emptyDict).Ns s.heap.objs.size (fun _ => none) := ⟨PySem.W.emptyDict, #[], _, e1, rfl, (fun e he => absurd he (by simp)), fun _ => rfl⟩
  have I1 := I.laid (a := s.heap.objs.size) (o := .own (s.heap.objs.size + 1)) (h' := s.heap.push PySem.W.emptyDict) (t' := s.toks) (fun b u q => Heap.get?_push_of_some _ q) (Nat.le_refl _) ⟨_, e1⟩
  refine I1.laid (a := s.heap.objs.size + 1) (o := .ins C s.heap.objs.size []) (t' := s.toks) (fun b u q => Heap.get?_push_of_some _ q) (Nat.le_of_eq (Heap.size_push _ _)) ?_
  have ne : s.heap.objs.size ≠ s.heap.objs.size + 1 := Nat.ne_of_lt (Nat.lt_succ_self _)
  refine ⟨by rw [upd_ne ne, upd_same], Nat.zero_le _, ne, e2, fun _ => none, (Heap.Ns1.of_empty e3).at fun o q => Heap.get?_push_of_some _ q, fun _ => True.intro, fun y hy => absurd rfl hy⟩
/-- e.f where nothing but the object is asked: through attributeBase (super) and the last hold -/
theorem attr_of {prog : Program} {w : World} {env : Env} {e : Expr} {f : Str} {pos : Pos} {s : Shared} {Q : Value → Shared → Prop} (hb : attributeBase e f env (eval e env) = eval e env)
    (h : wpAny (model prog w) A (eval e env) (fun o s₁ => wpAny (model prog w) A (getAttr o f true) Q E s₁) E s) : wpAny (model prog w) A (eval (.Attribute e f pos) env) Q E s :=
  Attribute_any_ h (by rw [arm_eval_Attribute, hb])
end
/-! ### readings and rules -/
/-- e.f, an attribute of the instance -/
def tFld (K : PySem.W.Frag) (ta : TE) (f : Str) : TE := fun σ H Q => ta σ H fun x H1 => ∃ a C dx fs v, x = .ref a ∧ H1 a = some (.ins C dx fs) ∧ Cls K C ∧ NoAttr K C f ∧ fs.lookup f = some v ∧ Q v H1
/-- e.f = value -/
def sFld (K : PySem.W.Frag) (ta tv : TE) (f : Str) : TS := fun D σ H => tv σ H fun y H1 => ta σ H1 fun x H2 => ∃ a C dx fs, x = .ref a ∧ H2 a = some (.ins C dx fs) ∧ Cls K C ∧ NoAttr K C f ∧ fs.length < 1000 ∧
  D.nx σ (upd H2 a (.ins C dx (putF f y fs)))
/-- an augmented operator on two values -/
def InOp (X : Cx) (op : Operator) (rd : V → V → Hp → VK → Prop) : Prop :=
  ∀ (pins : List (Addr × Obj)) (s : Shared) (σ : St) (H : Hp) (x y : V) (u v : Value) (Q : VK), Inv X pins σ H s → RelV x u → RelV y v → rd x y H Q → wpAny (model X.prog X.w) X.A (inplaceOp op u v) (EP X pins σ Q) X.xe s
/-- e.f op= value -/
def sFldAug (K : PySem.W.Frag) (ta tv : TE) (rd : V → V → Hp → VK → Prop) (f : Str) : TS := fun D σ H => ta σ H fun x H1 => ∃ a C dx fs v, x = .ref a ∧ H1 a = some (.ins C dx fs) ∧ Cls K C ∧ NoAttr K C f ∧ fs.lookup f = some v ∧
  tv σ H1 fun y H2 => rd v y H2 fun z H3 => ∃ dx' fs', H3 a = some (.ins C dx' fs') ∧ fs'.length < 1000 ∧ D.nx σ (upd H3 a (.ins C dx' (putF f z fs')))
section
variable {X : Cx} {o e value : Expr} {f : Str} {pos pos' tpos : Pos} {ta tv : TE}
theorem pe_fld (he : PE X e ta) (hb : attributeBase e f X.env (eval e X.env) = eval e X.env) : PE X (.Attribute e f pos) (tFld X.K ta f) := by
  intro pins s σ H Q I h
  refine attr_of hb (thn (he pins s σ H _ I h) fun u s1 ⟨x, H1, I1, rx, a, C, dx, fs, v, ex, ea, c, n, l, q⟩ => ?_)
  subst ex
  obtain rfl : u = Value.ref a := rx
  exact getattr_ok I1 ea c n l fun u' s2 I2 ru => ⟨v, H1, I2, ru, q⟩
theorem ps_fld (ha : PE X o ta) (hv : PE X value tv) (hs : swapsWith value (some (.Attribute o f pos')) pos.line X.env = pure false) : PS X (.Assign [.Attribute o f pos'] value pos) (sFld X.K ta tv f) := by
  intro pins s σ H D I h
  refine plainObj_wpAny_Assign_Attribute (thn (hv pins s σ H _ I h) fun u s1 ⟨y, H1, I1, ry, q⟩ => thn (ha pins s1 σ H1 _ I1 q) fun ov s2 ⟨x, H2, I2, rx, a, C, dx, fs, ex, ea, c, n, l, q2⟩ => ?_) hs
  subst ex
  obtain rfl : ov = Value.ref a := rx
  exact setattr_ok I2 ea c n l ry fun s3 I3 => ⟨σ, _, I3, q2⟩
theorem ps_fldaug {op : Operator} {rd : V → V → Hp → VK → Prop} (ha : PE X o ta) (hv : PE X value tv) (hop : InOp X op rd) : PS X (.AugAssign (.Attribute o f tpos) op value pos) (sFldAug X.K ta tv rd f) := by
  intro pins s σ H D I h
  refine wpAny_AugAssign_AttributeAny (thn (ha pins s σ H _ I h) fun ov s1 ⟨x, H1, I1, rx, a, C, dx, fs, v, ex, ea, c, n, l, q⟩ => ?_)
  subst ex
  obtain rfl : ov = Value.ref a := rx
  refine getattr_ok I1 ea c n l fun u s2 I2 ru => thn (hv pins s2 σ H1 _ I2 q) fun w3 s3 ⟨y, H2, I3, ry, q3⟩ => thn (hop pins s3 σ H2 v y u w3 _ I3 ru ry q3) fun w4 s4 ⟨z, H3, I4, rz, dx', fs', ea', l', q4⟩ => ?_
  exact setattr_ok I4 ea' c n l' rz fun s5 I5 => ⟨σ, _, I5, q4⟩
def rAdd : V → V → Hp → VK → Prop := fun x y H Q => ∃ i j, x = .int i ∧ y = .int j ∧ Q (.int (i + j)) H
theorem in_add : InOp X .Add rAdd := by
  rintro pins s σ H x y u v Q I rx ry ⟨i, j, rfl, rfl, q⟩
  obtain ⟨t, rfl⟩ := (show ∃ t, u = Value.int i t from rx)
  obtain ⟨t', rfl⟩ := (show ∃ t', v = Value.int j t' from ry)
  exact PyProof.Rows.iadd_int ⟨.int (i + j), H, I.tok _, ⟨_, rfl⟩, q⟩
end
/-! ### isinstance -/
section
variable {X : Cx} {pins : List (Addr × Obj)} {σ : St} {H : Hp} {s : Shared} {A : Around} {E : Value → Shared → Prop} {Q : Value → Shared → Prop} {c : Value} {b : Bool}
end
end L2
namespace L2
open PySem PySem.Spec PyProof.Rows
/-! ### room -/
structure Room (k : Nat) (A : Around) : Prop where
  hd : A.handled = none
  dp : A.depth + 3 * k + 5 < recursionLimit
  un : A.units + 16 * k + 200 < cLine
theorem Room.mono {j k : Nat} {A : Around} (r : Room k A) (h : j ≤ k) : Room j A := ⟨r.hd, by have := r.dp; omega, by have := r.un; omega⟩
theorem Room.deeper {k : Nat} {A : Around} (r : Room (k + 1) A) (env : Env) : Room k (A.deeper env) :=
  ⟨r.hd, by have := r.dp; show A.depth + 1 + 3 * k + 5 < _; omega, by have := r.un; show A.units + 3 + 16 * k + 200 < _; omega⟩
theorem make_depth {A : Around} {C : Addr} {us : List Value} {kw : List (Str × Value)} : (A.under (.builtin "type.__call__" ⟨.ref C :: us, kw⟩)).depth = A.depth + 1 := by
  first | rfl | simp [Around.under, Code.weight, Code.isCreation, Code.isGuard, Code.isCaller, Code.frames, Code.isFrame, guardIds]
theorem make_units {A : Around} {C : Addr} {us : List Value} {kw : List (Str × Value)} : (A.under (.builtin "type.__call__" ⟨.ref C :: us, kw⟩)).units = A.units + 1 := by
  first | rfl | simp [Around.under, Code.cUnits, Code.frames, Code.isFrame]
theorem Room.make {k : Nat} {A : Around} (r : Room (k + 1) A) (C : Addr) (us : List Value) (kw : List (Str × Value)) : Room k (A.under (.builtin "type.__call__" ⟨.ref C :: us, kw⟩)) :=
  ⟨r.hd, by have := r.dp; rw [make_depth]; omega, by have := r.un; rw [make_units]; omega⟩
theorem Room.depth {k : Nat} {A : Around} (r : Room k A) : A.depth < recursionLimit := by have := r.dp; omega
/-! ### argument lists and displays -/
def tNil : TA := fun _ H Q => Q [] H
def tCons (ta : TE) (tr : TA) : TA := fun σ H Q => ta σ H fun x H1 => tr σ H1 fun xs H2 => Q (x :: xs) H2
section
variable {X : Cx} {e : Expr} {es : List Expr} {te : TE} {t : TA} {pos : Pos}
theorem pa_nil : PA X [] tNil := fun _ _ _ _ H Q I h => Calls.spliced_nil ⟨[], H, I, .nil, h⟩
theorem pa_cons (ha : PE X e te) (hr : PA X es t) (hs : starEach (e :: es) X.env = (false, eval e X.env) :: starEach es X.env := by rfl) : PA X (e :: es) (tCons te t) := by
  intro pos pins s σ H Q I h
  rw [hs]
  show wpAny _ _ (spliced ((false, eval e X.env) :: backTo pos (starEach es X.env))) _ _ s
  refine Calls.spliced_cons (thn (ha pins s σ H _ I h) fun u s1 ⟨x, H1, I1, r1, q1⟩ => ?_)
  exact thn (hr pos pins s1 σ H1 _ I1 q1) fun us s2 ⟨xs, H2, I2, r2, q2⟩ => ⟨x :: xs, H2, I2, .cons r1 r2, q2⟩
def tLst (t : TA) : TE := fun σ H Q => t σ H fun xs H1 => xs.length ≤ sizeLine ∧ ∀ p, H1 p = none → Q (.ref p) (upd H1 p (.lst xs))
theorem pe_lst (h : PA X es t) : PE X (.List es pos) (tLst t) := by
  intro pins s σ H Q I hq
  refine wpAny_List_spliced (thn (h pos pins s σ H _ I hq) fun us s1 ⟨xs, H1, I1, r, z, q⟩ => ⟨by rw [← r.length]; exact z, ?_⟩)
  have hf : H1 s1.heap.objs.size = none := I1.hok.fresh (Nat.le_refl _)
  refine ⟨.ref s1.heap.objs.size, upd H1 s1.heap.objs.size (.lst xs), I1.laid (t' := s1.toks) (fun b u e => Heap.get?_push_of_some _ e) (Nat.le_refl _) ?_, rfl, q _ hf⟩
  exact ⟨z, us, 0, r, Heap.get?_push_size _ rfl⟩
end
/-! ### what a def promises -/
/-- a def's promise: the bound arguments in the parameters' order, the heap, the wanted end, the wanted exception -/
abbrev Sp := List V → Hp → VK → XK → Prop
/-- how an exception lies behind a call (file 08 gives it): the callers' frames, abstract heap and state ahead of the call, the wish, the exception, the state -/
abbrev CXT := List Env → Hp → Shared → XK → Value → Shared → Prop
/-- the state at a call -/
structure Env0 (P : Program) (w : World) (K : PySem.W.Frag) (mg : Str → Option Value) (base : Heap) (A : Around) (outer : List Env) (s : Shared) (H : Hp) : Prop where
  frames : A.frames = some outer
  mod : Mod K mg base
  bs : ∀ b o, base.get? b = some o → s.heap.get? b = some o ∧ H b = none
  bsz : base.objs.size ≤ s.heap.objs.size
  funs : s.heap.FunFrames base outer
  frf : ∀ b ∈ frs outer, H b = none
  hok : HOk P w H s.heap
  bare : AllBare s.gens
/-- a call's end -/
def CE (outer : List Env) (P : Program) (w : World) (H : Hp) (s : Shared) (Q : VK) (u : Value) (s' : Shared) : Prop :=
  ∃ v H', s'.os = s.os ∧ AllBare s'.gens ∧ Un (frs outer) [] H H' s.heap s'.heap ∧ HOk P w H' s'.heap ∧ RelV v u ∧ Q v H'
def CR (CX : CXT) (outer : List Env) (P : Program) (w : World) (H : Hp) (s : Shared) (Q : VK) (E : XK) (r : Result) (s' : Shared) : Prop :=
  match r with
  | .ok (.ret u) => CE outer P w H s Q u s'
  | .ok _ => False
  | .error e => CX outer H s E e s'
structure FnOk (P : Program) (w : World) (K : PySem.W.Frag) (mg : Str → Option Value) (base : Heap) (CX : CXT) (k : Nat) (f : Addr) (fd : FuncData) (ps : List Str) (sp : Sp) : Prop where
  len : ∀ vs H Q E, sp vs H Q E → vs.length = ps.length
  run : ∀ (A : Around) (outer : List Env) (s : Shared) (H : Hp) (args : Args) (us : List Value) (vs : List V) (Q : VK) (E : XK), Room k A → Env0 P w K mg base A outer s H → BindsTo s fd args (ps.zip us) → Vals vs us → sp vs H Q E →
    codeAny (model P w) A (.call (.ref f) args) (CR CX outer P w H s Q E) s
theorem FnOk.mono {P : Program} {w : World} {K : PySem.W.Frag} {mg : Str → Option Value} {base : Heap} {CX : CXT} {j k : Nat} {f : Addr} {fd : FuncData} {ps : List Str} {sp : Sp} (F : FnOk P w K mg base CX j f fd ps sp) (h : j ≤ k) :
    FnOk P w K mg base CX k f fd ps sp := ⟨F.len, fun A outer s H args us vs Q E hr => F.run A outer s H args us vs Q E (hr.mono h)⟩
theorem Env0.make {P : Program} {w : World} {K : PySem.W.Frag} {mg : Str → Option Value} {base : Heap} {A : Around} {outer : List Env} {s : Shared} {H : Hp} (e : Env0 P w K mg base A outer s H) (C : Addr) (us : List Value) (kw : List (Str × Value)) :
    Env0 P w K mg base (A.under (.builtin "type.__call__" ⟨.ref C :: us, kw⟩)) outer s H := ⟨by first | exact e.frames | (simpa [Around.under, Code.envs, Code.isFrame, pushEnvs] using e.frames), e.mod, e.bs, e.bsz, e.funs, e.frf, e.hok, e.bare⟩
section
variable {X : Cx} {pins : List (Addr × Obj)} {σ : St} {H : Hp} {s s' : Shared}
/-- from a body: what a callee wants -/
theorem Inv.env0 (I : Inv X pins σ H s) : Env0 X.prog X.w X.K X.mg X.base X.A X.stack s H :=
  ⟨I.ok.frames, I.ok.mod, I.bs, Nat.le_trans I.ok.bsz I.sz, I.stack, I.stkFree, I.hok, I.bare⟩
/-- behind a call -/
theorem Inv.after {Q : VK} {u : Value} (I : Inv X pins σ H s) (h : CE X.stack X.prog X.w H s Q u s') : EP X pins σ Q u s' := by
  obtain ⟨v, H', os, bare, un, hok, r, q⟩ := h
  obtain ⟨hh, g, d, t, os'⟩ := s'
  obtain rfl : os' = s.os := os
  exact ⟨v, H', I.call (h' := hh) (g' := g) (d' := d) (t' := t) (ch := []) un hok bare (fun b z => absurd z (by simp)), r, q⟩
end
/-! ### calls -/
/-- f(..): the written arguments, then the defaults dvs; E: what is wanted of an exception -/
def tCall (sp : Sp) (dvs : List V) (E : XK) (t : TA) : TE := fun σ H Q => t σ H fun vs H1 => sp (vs ++ dvs) H1 Q E
/-- o.m(..) of an instance of the class at C -/
def tMeth (C : Addr) (m : Str) (sp : Sp) (dvs : List V) (E : XK) (ta : TE) (t : TA) : TE := fun σ H Q => ta σ H fun x H1 => ∃ a dx fs, x = .ref a ∧ H1 a = some (.ins C dx fs) ∧ fs.lookup m = none ∧
  t σ H1 fun vs H2 => sp (x :: (vs ++ dvs)) H2 Q E
/-- C(..): a new instance and its dict, then __init__ -/
def tMake (C : Addr) (sp : Sp) (dvs : List V) (E : XK) (t : TA) : TE := fun σ H Q => t σ H fun vs H1 => ∀ x dx, H1 x = none → H1 dx = none → dx ≠ x →
  sp (.ref x :: (vs ++ dvs)) (upd (upd H1 dx (.own x)) x (.ins C dx [])) (fun v H2 => v = .non ∧ Q (.ref x) H2) E
/-- how the parameters are bound: us the positional arguments, kw the keywords' values by name, ds the defaults that fill up -/
def Binds (K : PySem.W.Frag) (fd : FuncData) (ps : List Str) (ds : List Value) : Prop :=
  ∀ (s : Shared) (us : List Value), K.In s.heap → (us ++ ds).length = ps.length → BindsTo s fd ⟨us, []⟩ (ps.zip (us ++ ds))
/-- every parameter is given -/
theorem Binds.all {K : PySem.W.Frag} {fd : FuncData} {ps : List Str} (h : ∀ us : List Value, us.length = ps.length → bindArgs fd ⟨us, []⟩ = pure (ps.zip us)) : Binds K fd ps [] := fun s us _ hl => by
  rw [List.append_nil] at hl ⊢
  exact .of_eq (h us hl)
/-- an exception of a callee reaches what this body wants of exceptions -/
def Passes (CX : CXT) (X : Cx) (E : XK) : Prop := ∀ (pins : List (Addr × Obj)) (σ : St) (H : Hp) (s : Shared) (e : Value) (s' : Shared), Inv X pins σ H s → CX X.stack H s E e s' → X.xe e s'
section
variable {X : Cx} {CX : CXT} {k : Nat} {f C : Addr} {fd : FuncData} {ps : List Str} {sp : Sp} {dvs : List V} {ds : List Value} {E : XK} {x m : Str} {p pos apos : Pos} {e o : Expr} {es : List Expr} {ta : TE} {t : TA}
/-- the callee runs -/
theorem run_fn {pins : List (Addr × Obj)} {σ : St} {H : Hp} {s : Shared} {Q : VK} {us : List Value} {vs : List V} (F : FnOk X.prog X.w X.K X.mg X.base CX k f fd ps sp) (hr : Room k X.A) (hb : Binds X.K fd ps ds) (hd : Vals dvs ds) (hx : Passes CX X E)
    (I : Inv X pins σ H s) (r : Vals vs us) (h : sp (vs ++ dvs) H Q E) : wpAny (model X.prog X.w) X.A (call (.ref f) us) (EP X pins σ Q) X.xe s := by
  have r2 : Vals (vs ++ dvs) (us ++ ds) := r.append hd
  have hl : (us ++ ds).length = ps.length := by rw [← r2.length]; exact F.len _ _ _ _ h
  refine wpAny_call (codeAny_mono (F.run X.A X.stack s H ⟨us, []⟩ (us ++ ds) (vs ++ dvs) Q E hr I.env0 (hb s us I.kIn hl) r2 h) fun r s' hq => ?_)
  cases r with
  | error e => exact hx pins σ H s e s' I hq
  | ok fl =>
    cases fl with
    | ret u => exact I.after hq
    | next => exact False.elim hq
    | brk => exact False.elim hq
    | cont => exact False.elim hq
theorem pe_call (F : FnOk X.prog X.w X.K X.mg X.base CX k f fd ps sp) (hr : Room k X.A) (hg : Gl X x) (hm : X.mg x = some (.ref f)) (hk : PySem.W.keepIn X.K (.ref f) = true) (hb : Binds X.K fd ps ds) (hd : Vals dvs ds) (hx : Passes CX X E)
    (ha : PA X (e :: es) t) (hdb : (x == ("__debug__" : Str)) = false := by decide) (he : starEach (e :: es) X.env = (false, eval e X.env) :: starEach es X.env := by rfl) (hpl : (backTo pos (starEach es X.env)).any (·.1) = false := by rfl) :
    PE X (.Call (.Name x p) (e :: es) [] pos) (tCall sp dvs E t) := by
  intro pins s σ H Q I h
  refine wpAny_Call_Name_kw (ld_glob I hg hm ?_ hdb)
  refine PySem.W.callWith_K (h₀ := X.base) I.ok.mod.kin hk (thn (ha pos pins s σ H _ I h) fun us s1 ⟨vs, H1, I1, r, q⟩ => ⟨I1.kIn, ?_⟩) he hpl
  exact run_fn F hr hb hd hx I1 r q
/-- o.m() -/
theorem pe_meth0 {pl : Sem Bool} (he : PE X o ta) (c : Cls X.K C) (hm : Meth X.K C m f) (F : FnOk X.prog X.w X.K X.mg X.base CX k f fd ps sp) (hr : Room k X.A) (hb : Binds X.K fd ps ds) (hd : Vals dvs ds) (hx : Passes CX X E)
    (ht : eval (.Call (.Attribute o m apos) [] [] pos) X.env = (do
      let ov ← eval o X.env
      standAt apos.atName
      let (f, first) ← holding [ov] (getMethod ov m pl)
      callWith pos f first (backTo pos (starEach [] X.env)) (backToKw pos (keywordEach [] X.env))) := by rfl) :
    PE X (.Call (.Attribute o m apos) [] [] pos) (tMeth C m sp dvs E ta tNil) := by
  intro pins s σ H Q I h
  refine PySem.W.methodCall_KW (pl := pl) (thn (he pins s σ H _ I h) fun u s1 ⟨x, H1, I1, rx, a, dx, fs, ex, ea, l, q⟩ => ?_) ht
  subst ex
  obtain rfl : u = Value.ref a := rx
  refine getmeth_ok I1 ea c hm l ?_
  exact PySem.W.callWith_K0 (first := [.ref a]) I1.kIn hm.kp (run_fn (us := [.ref a]) (vs := [.ref a]) F hr hb hd hx I1 (.cons rfl .nil) q)
/-- what a class must have to be made -/
structure Mk (K : PySem.W.Frag) (C f : Addr) : Prop where
  makes : PySem.W.makesIn K C = true
  init : PySem.W.findIn K (.ref C) "__init__" = some (some (.ref f))
  fn : PySem.W.isFn K (.ref f) = true
  kp : PySem.W.keepIn K (.ref C) = true
theorem run_make {pins : List (Addr × Obj)} {σ : St} {H : Hp} {s : Shared} {Q : VK} {us : List Value} {vs : List V} (M : Mk X.K C f) (F : FnOk X.prog X.w X.K X.mg X.base CX k f fd ps sp) (hr : Room (k + 1) X.A) (hb : Binds X.K fd ps ds) (hd : Vals dvs ds)
    (hx : Passes CX X E) (I : Inv X pins σ H s) (r : Vals vs us)
    (h : ∀ x dx, H x = none → H dx = none → dx ≠ x → sp (.ref x :: (vs ++ dvs)) (upd (upd H dx (.own x)) x (.ins C dx [])) (fun v H2 => v = .non ∧ Q (.ref x) H2) E) :
    wpAny (model X.prog X.w) X.A (call (.ref C) us) (EP X pins σ Q) X.xe s := by
  have hq := h (s.heap.objs.size + 1) s.heap.objs.size (I.hok.fresh (Nat.le_succ _)) (I.hok.fresh (Nat.le_refl _)) (Nat.ne_of_lt (Nat.lt_succ_self _))
  have I2 := Inv.made (C := C) I
  have r2 : Vals (V.ref (s.heap.objs.size + 1) :: (vs ++ dvs)) (Value.ref (s.heap.objs.size + 1) :: (us ++ ds)) := .cons rfl (r.append hd)
  have hl : (Value.ref (s.heap.objs.size + 1) :: us ++ ds).length = ps.length := by
    have e := r2.length
    rw [F.len _ _ _ _ hq] at e
    exact e.symm
  refine wpAny_call (make_map (f := f) I.kIn M.makes M.init (beq_iff_eq.mp M.fn) (codeAny_mono (F.run _ X.stack _ _ ⟨Value.ref (s.heap.objs.size + 1) :: us, []⟩ (Value.ref (s.heap.objs.size + 1) :: (us ++ ds)) _ _ E (hr.make C us [])
    (I2.env0.make C us []) (hb _ (Value.ref (s.heap.objs.size + 1) :: us) I2.kIn hl) r2 hq) fun r s' hq' => ?_))
  cases r with
  | error e => exact hx pins σ _ _ e s' I2 hq'
  | ok fl =>
    cases fl with
    | ret u =>
      obtain ⟨v, H', I3, rv, ev, q3⟩ := I2.after hq'
      subst ev
      exact ⟨rv, ⟨V.ref (s.heap.objs.size + 1), H', I3, rfl, q3⟩⟩
    | next => exact False.elim hq'
    | brk => exact False.elim hq'
    | cont => exact False.elim hq'
theorem pe_make (M : Mk X.K C f) (F : FnOk X.prog X.w X.K X.mg X.base CX k f fd ps sp) (hr : Room (k + 1) X.A) (hg : Gl X x) (hm : X.mg x = some (.ref C)) (hb : Binds X.K fd ps ds) (hd : Vals dvs ds) (hx : Passes CX X E)
    (ha : PA X (e :: es) t) (hdb : (x == ("__debug__" : Str)) = false := by decide) (he : starEach (e :: es) X.env = (false, eval e X.env) :: starEach es X.env := by rfl) (hpl : (backTo pos (starEach es X.env)).any (·.1) = false := by rfl) :
    PE X (.Call (.Name x p) (e :: es) [] pos) (tMake C sp dvs E t) := by
  intro pins s σ H Q I h
  refine wpAny_Call_Name_kw (ld_glob I hg hm ?_ hdb)
  refine PySem.W.callWith_K (h₀ := X.base) I.ok.mod.kin M.kp (thn (ha pos pins s σ H _ I h) fun us s1 ⟨vs, H1, I1, r, q⟩ => ⟨I1.kIn, ?_⟩) he hpl
  exact run_make M F hr hb hd hx I1 r q
theorem pe_make0 (M : Mk X.K C f) (F : FnOk X.prog X.w X.K X.mg X.base CX k f fd ps sp) (hr : Room (k + 1) X.A) (hg : Gl X x) (hm : X.mg x = some (.ref C)) (hb : Binds X.K fd ps ds) (hd : Vals dvs ds) (hx : Passes CX X E)
    (hdb : (x == ("__debug__" : Str)) = false := by decide) : PE X (.Call (.Name x p) [] [] pos) (tMake C sp dvs E tNil) := by
  intro pins s σ H Q I h
  refine wpAny_Call_Name_kw (ld_glob I hg hm ?_ hdb)
  exact PySem.W.callWith_K0 I.kIn M.kp (run_make (us := []) M F hr hb hd hx I .nil h)
end
/-! ### keywords -/
/-- the values of the keywords, from the left -/
def PK (X : Cx) (kws : List Keyword) (t : TA) : Prop :=
  ∀ (pos : Pos) (pins : List (Addr × Obj)) (s : Shared) (σ : St) (H : Hp) (Q : List V → Hp → Prop), Inv X pins σ H s → t σ H Q → wpAny (model X.prog X.w) X.A (evalAll ((backToKw pos (keywordEach kws X.env)).map (·.2))) (AP X pins σ Q) X.xe s
section
variable {X : Cx} {CX : CXT} {k : Nat} {f C : Addr} {fd : FuncData} {ps ks : List Str} {sp : Sp} {E : XK} {x m : Str} {p pos apos kpos : Pos} {e o : Expr} {es : List Expr} {kws : List Keyword} {te ta : TE} {t tk : TA} {nm : Option Str}
theorem pk_nil : PK X [] tNil := fun _ _ _ _ H Q I h => wpAny_evalAll_nil ⟨[], H, I, .nil, h⟩
theorem pk_cons (ha : PE X e te) (hr : PK X kws t) : PK X (⟨nm, e, kpos⟩ :: kws) (tCons te t) := by
  intro pos pins s σ H Q I h
  show wpAny _ _ (evalAll ((do let v ← eval e X.env; standAt pos; pure v) :: (backToKw pos (keywordEach kws X.env)).map (·.2))) _ _ s
  refine wpAny_evalAll_cons (wpAny_bind (thn (ha pins s σ H _ I h) fun u s1 ⟨x, H1, I1, r1, q1⟩ => wpAny_bind (wpAny_standAt (wpAny_pure ?_))))
  exact thn (hr pos pins s1 σ H1 _ I1 q1) fun us s2 ⟨xs, H2, I2, r2, q2⟩ => ⟨x :: xs, H2, I2, .cons r1 r2, q2⟩
variable {g : List Value → List Value → List Value} {gV : List V → List V → List V}
end
/-! ### a def's body keeps its promise -/
/-- names: the parameters first -/
structure FnScope (N P : List Str) (sc : Scope) : Prop where
  kind : sc.kind = .function
  co : sc.isCoroutine = false
  gen : sc.isGenerator = false
  nd : N.Nodup
  pre : N.take P.length = P
  par : ∀ x ∈ P, sc.names.lookup x = some .local ∨ sc.names.lookup x = some .cell
  nofree : ∀ y ∈ sc.names, y.2 ≠ .free
theorem bindL_out {kindOf : Str → Option NameKind} {x : Str} : ∀ {binds : List (Str × Value)} {m : Str → Option Value}, (∀ v, (x, v) ∉ binds) → bindL kindOf binds m x = m x
  | [], _, _ => rfl
  | (n, v) :: r, m, h => by
    unfold bindL
    rw [bindL_out fun w hw => h w (List.mem_cons_of_mem _ hw)]
    split
    · have : x ≠ n := by rintro rfl; exact h v List.mem_cons_self
      simp [this]
    · rfl
theorem bindC_out {kindOf : Str → Option NameKind} {x : Str} : ∀ {binds : List (Str × Value)} {m : Str → Option Value}, (∀ v, (x, v) ∉ binds) → bindC kindOf binds m x = m x
  | [], _, _ => rfl
  | (n, v) :: r, m, h => by
    unfold bindC
    rw [bindC_out fun w hw => h w (List.mem_cons_of_mem _ hw)]
    split
    · rfl
    · have : x ≠ n := by rintro rfl; exact h v List.mem_cons_self
      simp [this]
theorem bindL_get {kindOf : Str → Option NameKind} {x : Str} {v : Value} : ∀ {P : List Str} {vs : List Value} {i : Nat} {m : Str → Option Value}, P.Nodup → P[i]? = some x → vs[i]? = some v → kindOf x = some .local →
    bindL kindOf (P.zip vs) m x = some v
  | [], _, _, _, _, h, _, _ => by simp at h
  | _ :: _, [], _, _, _, _, h, _ => by simp at h
  | p :: P, w :: vs, 0, m, nd, h1, h2, hk => by
    simp at h1 h2; subst h1; subst h2
    show bindL kindOf ((p, w) :: P.zip vs) m p = _
    unfold bindL
    rw [bindL_out fun v hv => (List.nodup_cons.mp nd).1 (List.of_mem_zip hv).1, if_pos hk]
    simp
  | p :: P, w :: vs, i + 1, m, nd, h1, h2, hk => by
    show bindL kindOf ((p, w) :: P.zip vs) m x = _
    unfold bindL
    exact bindL_get (i := i) (List.nodup_cons.mp nd).2 (by simpa using h1) (by simpa using h2) hk
theorem bindC_get {kindOf : Str → Option NameKind} {x : Str} {v : Value} : ∀ {P : List Str} {vs : List Value} {i : Nat} {m : Str → Option Value}, P.Nodup → P[i]? = some x → vs[i]? = some v → kindOf x ≠ some .local →
    bindC kindOf (P.zip vs) m x = some v
  | [], _, _, _, _, h, _, _ => by simp at h
  | _ :: _, [], _, _, _, _, h, _ => by simp at h
  | p :: P, w :: vs, 0, m, nd, h1, h2, hk => by
    simp at h1 h2; subst h1; subst h2
    show bindC kindOf ((p, w) :: P.zip vs) m p = _
    unfold bindC
    rw [bindC_out fun v hv => (List.nodup_cons.mp nd).1 (List.of_mem_zip hv).1, if_neg hk]
    simp
  | p :: P, w :: vs, i + 1, m, nd, h1, h2, hk => by
    show bindC kindOf ((p, w) :: P.zip vs) m x = _
    unfold bindC
    exact bindC_get (i := i) (List.nodup_cons.mp nd).2 (by simpa using h1) (by simpa using h2) hk
/-- the names' values at the entry -/
def start (N : List Str) (vs : List V) : St := vs.map some ++ List.replicate (N.length - vs.length) none
/-- the context of a def's body, at its entry; an exception leaves the frame, then lies as CX says -/
def cxOf (CX : CXT) (P : Program) (w : World) (K : PySem.W.Frag) (mg : Str → Option Value) (base : Heap) (N : List Str) (qual : Str) (scope : Scope) (f : Addr) (cd : Value) (A : Around) (outer : List Env) (s : Shared) (H : Hp) (E : XK) : Cx where
  prog := P
  w := w
  K := K
  mg := mg
  base := base
  A := A.deeper (envOfC qual scope s.heap.objs.size f cd)
  N := N
  s_0 := s
  H_0 := H
  env := envOfC qual scope s.heap.objs.size f cd
  outer := outer
  stack := envOfC qual scope s.heap.objs.size f cd :: outer
  ex := []
  calm := true
  fn := fun _ => true
  pn := []
  xe := fun e s' => wpAny (model P w) (A.deeper (envOfC qual scope s.heap.objs.size f cd)) (leaving (envOfC qual scope s.heap.objs.size f cd) e) (fun _ s'' => CX outer H s E e s'') (fun e' s'' => CX outer H s E e' s'') s'
theorem cell_has {sc : Scope} {n : Nat} {x : Str} (h : sc.names.lookup x = some .cell) : ∃ c, (cellsFrom n sc.names []).lookup x = some c := by
  have q := PySem.W.cellsFrom_some sc.names n [] (.inl h)
  exact Option.isSome_iff_exists.mp q
theorem inv_start {CX : CXT} {P : Program} {w : World} {K : PySem.W.Frag} {mg : Str → Option Value} {base : Heap} {N ps : List Str} {qual : Str} {scope : Scope} {f : Addr} {cd : Value} {A : Around} {outer : List Env} {s s1 : Shared} {H : Hp} {E : XK} {us : List Value} {vs : List V}
    (S : FnScope N ps scope) (hd : A.handled = none) (e0 : Env0 P w K mg base A outer s H) (hl : vs.length = ps.length) (r : Vals vs us)
    (x : InCallC s s.heap.objs.size (bindL (envOfC qual scope s.heap.objs.size f cd).kindOf (ps.zip us) fun _ => none) (cellsFrom (s.heap.objs.size + 1) scope.names []) (bindC (envOfC qual scope s.heap.objs.size f cd).kindOf (ps.zip us) fun _ => none) s1) :
    Inv (cxOf CX P w K mg base N qual scope f cd A outer s H E) [] (start N vs) H s1 := by
  have hpl : ps.length ≤ N.length := by have := congrArg List.length S.pre; rw [List.length_take] at this; omega
  obtain ⟨h1, tk, rfl, hk⟩ := x.done
  have noA : ∀ b : Addr, b ∉ (cxOf CX P w K mg base N qual scope f cd A outer s H E).ex := fun b z => absurd (show b ∈ ([] : List Addr) from z) (by simp)
  refine ⟨⟨e0.mod, S.kind, rfl, rfl, Nat.le_refl _, fun y z c h1 h2 => ?_, fun y hy => ?_, fun y c _ h => ?_, fun _ => hd, Around.frames_deeper e0.frames, .inr ⟨rfl, rfl⟩, fun b z => absurd z (noA b), e0.bs, e0.bsz, fun b _ _ => noA b, fun b z => absurd z (noA b), e0.funs, e0.frf⟩,
    rfl, e0.bare, Un.kept hk, ⟨_, x.toInCall.ns, fun i y v h1 h2 h3 => ?_⟩, fun y c h => ⟨_, x.cell y c h⟩, e0.hok.fresh (Nat.le_refl _), fun y c h => ?_, fun p hp => absurd (show p ∈ ([] : List (Addr × Obj)) from hp) (by simp), e0.hok.kept hk, ?_⟩
  · exact name_of_addr x.apart (PySem.mem_of_lookup h1) (PySem.mem_of_lookup h2)
  · have hy : scope.names.lookup y = some .cell ∨ scope.names.lookup y = some .free := hy
    rcases hy with hy | hy
    · exact cell_has hy
    · exact absurd rfl (S.nofree _ (PySem.mem_of_lookup hy))
  · exact Nat.le_of_lt (x.above y c (PySem.mem_of_lookup h))
  · have hi : i < vs.length := by
      unfold start at h2
      by_cases hi : i < vs.length
      · exact hi
      · rw [List.getElem?_append_right (by simpa using hi)] at h2
        rw [List.getElem?_replicate] at h2
        split at h2 <;> cases h2
    have ha : vs[i]? = some v := by
      unfold start at h2
      rw [List.getElem?_append_left (by simpa using hi), List.getElem?_map] at h2
      cases e : vs[i]? with
      | none => rw [e] at h2; cases h2
      | some a => rw [e] at h2; cases h2; rfl
    obtain ⟨u, hu, rv⟩ := r.get ha
    have hp : ps[i]? = some y := by
      rw [← S.pre, List.getElem?_take_of_lt (by omega)]; exact h1
    have ndP : ps.Nodup := by rw [← S.pre]; exact S.nd.sublist (List.take_sublist _ _)
    refine ⟨u, rv, ?_⟩
    rcases S.par y (List.mem_of_getElem? hp) with k | k
    · exact .inl ⟨k, bindL_get ndP hp hu k⟩
    · obtain ⟨c, e⟩ := cell_has (n := s.heap.objs.size + 1) k
      refine .inr ⟨.inl k, c, e, ?_⟩
      have q := x.cell y c e
      rw [bindC_get ndP hp hu (by show scope.names.lookup y ≠ _; rw [k]; decide)] at q
      exact q
  · exact e0.hok.fresh (Nat.le_of_lt (x.above y c (PySem.mem_of_lookup h)))
  · unfold start
    show _ = N.length
    rw [List.length_append, List.length_map, List.length_replicate]
    omega
/-- THE RULE: a def (or a method) of the text, by its body. The body's reading t is chosen for each entry; it is run at the parameters' values -/
theorem fn_of {CX : CXT} {P : Program} {w : World} {K : PySem.W.Frag} {mg : Str → Option Value} {base : Heap} {k : Nat} {f : Addr} {name qual : Str} {params : Arguments} {body : List Stmt} {scope : Scope} {dV kV doc pm cdv ct oc : Value} {an od : Option Addr}
    {osl : Array (Option Value)} {N ps : List Str} {sp : Sp} (lk : K.lookup f = some ⟨oc, od, .func (PySem.W.fnOf name qual params body scope dV kV doc pm an cdv ct), osl⟩) (hcd : PySem.W.codeIn K cdv qual = true) (S : FnScope N ps scope)
    (len : ∀ vs H Q E, sp vs H Q E → vs.length = ps.length)
    (hbody : ∀ (A : Around) (outer : List Env) (s : Shared) (H : Hp) (vs : List V) (Q : VK) (E : XK), Room k (A.deeper (envOfC qual scope s.heap.objs.size f cdv)) → sp vs H Q E →
      ∃ t, PSs (cxOf CX P w K mg base N qual scope f cdv A outer s H E) body t ∧ t { nx := fun _ H' => Q .non H', rt := Q } (start N vs) H) :
    FnOk P w K mg base CX (k + 1) f (PySem.W.fnOf name qual params body scope dV kV doc pm an cdv ct) ps sp := by
  refine ⟨len, fun A outer s H args us vs Q E hr e0 hb r hsp => ?_⟩
  have hl := len _ _ _ _ hsp
  have KX : K.In s.heap := e0.mod.kin.keeps fun b o e => (e0.bs b o e).1
  have lim : s.heap.NoLimit := e0.mod.nolimit.keeps fun b o e => (e0.bs b o e).1
  have hkind : ∀ y ∈ ps.zip us, scope.names.lookup y.1 = some .local ∨ (scope.names.lookup y.1 = some .cell ∧ ((cellsFrom (s.heap.objs.size + 1) scope.names []).lookup y.1).isSome = true) := fun ⟨n, v⟩ hy => by
    rcases S.par n (List.of_mem_zip hy).1 with q | q
    · exact .inl q
    · exact .inr ⟨q, PySem.W.cellsFrom_some _ _ _ (.inl q)⟩
  refine codeAny_call_function hr.depth (KX _ _ lk) rfl S.co S.gen rfl (PySem.W.codeRec_of KX hcd) (hb _ _ _ _ ?_)
  refine wpAny_newFunctionEnv_cells S.kind hkind fun env he s1 x => ?_
  subst he
  refine ⟨lim.keeps x.toInCall.keep, codeAny_func ?_⟩
  obtain ⟨t, ht, hq⟩ := hbody A outer s H vs Q E (hr.deeper _) hsp
  have I : Inv (cxOf CX P w K mg base N qual scope f cdv A outer s H E) [] (start N vs) H s1 := inv_start S hr.hd e0 hl r x
  refine wpAny_mono (ht [] s1 (start N vs) H _ I hq) (fun fl s' hs => ?_) fun e s' hs => hs
  have fin : ∀ {σ' : St} {H' : Hp} {v : V} {u : Value}, Inv (cxOf CX P w K mg base N qual scope f cdv A outer s H E) [] σ' H' s' → RelV v u → Q v H' → CE outer P w H s Q u s' :=
    fun {σ' H' v u} J rv q => ⟨v, H', J.os, J.bare, J.base, J.hok, rv, q⟩
  cases fl with
  | ret u =>
    obtain ⟨v, σ', H', J, rv, q⟩ := hs
    exact fin J rv q
  | next =>
    obtain ⟨σ', H', J, q⟩ := hs
    exact fin (v := V.non) (u := Value.none) J rfl q
  | brk =>
    obtain ⟨_, _, _, q⟩ := hs
    exact False.elim q
  | cont =>
    obtain ⟨_, _, _, q⟩ := hs
    exact False.elim q
end L2
namespace L2
open PySem PySem.Spec PyProof.Rows
section
variable {X : Cx} {x : Str} {p pos : Pos} {e : Expr} {es : List Expr} {t : TA} {id T : String} {r : List V → Hp → VK → Prop}
def tCB (r : List V → Hp → VK → Prop) (t : TA) : TE := fun σ H Q => t σ H fun vs H1 => r vs H1 Q
/-- f(e, ..), f a built-in function -/
theorem pe_callB (hc : CallR X (.builtin id) r) (hg : Gl X x) (hm : X.mg x = none) (hv : bootBuiltins x = some (.builtin id)) (ha : PA X (e :: es) t) (hn : x ≠ "__name__" := by decide) (hdb : (x == ("__debug__" : Str)) = false := by decide)
    (he : starEach (e :: es) X.env = (false, eval e X.env) :: starEach es X.env := by rfl) (hpl : (backTo pos (starEach es X.env)).any (·.1) = false := by rfl) : PE X (.Call (.Name x p) (e :: es) [] pos) (tCB r t) := by
  intro pins s σ H Q I h
  refine wpAny_Call_Name_kw (ld_blt I hg hm hv ?_ hn hdb)
  exact PyProof.Rows.callWith_builtin1 (thn (ha pos pins s σ H _ I h) fun us s1 ⟨vs, H1, I1, r1, q1⟩ => hc pins s1 σ H1 vs us Q I1 r1 q1) he hpl
/-- T(e, ..), T a built-in type -/
theorem pe_callTy (hc : CallR X (.type T) r) (hg : Gl X x) (hm : X.mg x = none) (hv : bootBuiltins x = some (.type T)) (ha : PA X (e :: es) t) (hn : x ≠ "__name__" := by decide) (hdb : (x == ("__debug__" : Str)) = false := by decide)
    (he : starEach (e :: es) X.env = (false, eval e X.env) :: starEach es X.env := by rfl) (hpl : (backTo pos (starEach es X.env)).any (·.1) = false := by rfl) : PE X (.Call (.Name x p) (e :: es) [] pos) (tCB r t) := by
  intro pins s σ H Q I h
  refine wpAny_Call_Name_kw (ld_blt I hg hm hv ?_ hn hdb)
  exact PyProof.Rows.callWith_type1 (thn (ha pos pins s σ H _ I h) fun us s1 ⟨vs, H1, I1, r1, q1⟩ => hc pins s1 σ H1 vs us Q I1 r1 q1) he hpl
end
end L2
namespace HT
open PySem PyProof.Rows
section
open PySem.SeqAt
open PySem.AutoSeq1 (wpAny_loadPart')
open PySem.MeetsSeq PySem.MeetsSeq2 PySem.MeetsSeq3
end
section
variable {prog : Program} {w : World} {A : Around} {E : Value → Shared → Prop} {s : Shared}
/-! ### t[a:b], not the whole -/
/-- a slice's bound as a place among n (d where it is left out) -/
def sIx (n d : Nat) : Option Int → Nat
  | none => d
  | some v => if v < 0 then (v + (n : Int)).toNat else min v.toNat n
theorem sIx_nat (n d k : Nat) : sIx n d (some (k : Int)) = min k n := by
  show (if (k : Int) < 0 then ((k : Int) + (n : Int)).toNat else min (k : Int).toNat n) = min k n
  rw [if_neg (by omega), Int.toNat_natCast]
end
end HT
namespace L2
open PySem PySem.Spec PyProof.Rows
/-! ### the parts of a slice -/
abbrev TO := St → Hp → (Option Int → Hp → Prop) → Prop
/-- a slice's part (left out, or an int) -/
def PO (X : Cx) (e : Option Expr) (t : TO) : Prop :=
  ∀ (pins : List (Addr × Obj)) (s : Shared) (σ : St) (H : Hp) (Q : Option Int → Hp → Prop), Inv X pins σ H s → t σ H Q →
    wpAny (model X.prog X.w) X.A (evalPart e X.env) (fun u s' => ∃ o H', Inv X pins σ H' s' ∧ IsPart u o ∧ Q o H') X.xe s
def tPart (t : TE) : TO := fun σ H Q => t σ H fun x H1 => ∃ i, x = .int i ∧ Q (some i) H1
section
variable {X : Cx} {e : Expr} {te : TE} {lo hi : Option Expr} {tl th : TO} {pos p2 : Pos}
theorem po_some (h : PE X e te) : PO X (some e) (tPart te) := by
  intro pins s σ H Q I hw
  rw [evalPart_some]
  refine thn (h pins s σ H _ I hw) fun u s1 ⟨x, H1, I1, r1, q1⟩ => ?_
  obtain ⟨i, rfl, q⟩ := q1
  obtain ⟨t, rfl⟩ := r1
  exact ⟨some i, H1, I1, .int i t, q⟩
/-- what a slice of a value is, by values: the slice object stands at sl -/
def SlR (X : Cx) (r : V → Option Int → Option Int → Hp → VK → Prop) : Prop :=
  ∀ (pins : List (Addr × Obj)) (s : Shared) (σ : St) (H : Hp) (x : V) (v vl vu : Value) (lo hi : Option Int) (sl : Addr) (Q : VK), Inv X pins σ H s → RelV x v → s.heap.IsSliceOf sl vl vu .none → IsPart vl lo → IsPart vu hi → r x lo hi H Q →
    ∃ T id, typeLookup (.type T) "__getitem__" = pure (some (.builtin id)) ∧ s.TypeIs v T ∧ wpAny (model X.prog X.w) X.A (getItem v (.ref sl)) (EP X pins σ Q) X.xe s
def tSl (r : V → Option Int → Option Int → Hp → VK → Prop) (te : TE) (tl th : TO) : TE := fun σ H Q => te σ H fun x H1 => tl σ H1 fun l H2 => th σ H2 fun u H3 => r x l u H3 Q
/-- a[lo:hi], any a -/
theorem pe_slice {r : V → Option Int → Option Int → Hp → VK → Prop} (hr : SlR X r) (he : PE X e te) (hl : PO X lo tl) (hu : PO X hi th) : PE X (.Subscript e (.Slice lo hi none p2) pos) (tSl r te tl th) := by
  intro pins s σ H Q I h
  refine Subscript_ (thn (he pins s σ H _ I h) fun v s1 ⟨x, H1, I1, r1, q1⟩ => ?_)
  refine wpAny_Slice (thn (hl pins s1 σ H1 _ I1 q1) fun vl s2 ⟨l, H2, I2, pl, q2⟩ => thn (hu pins s2 σ H2 _ I2 q2) fun vu s3 ⟨u, H3, I3, pu, q3⟩ => ?_)
  rw [evalPart_none]
  refine wpAny_pure ?_
  have I4 : Inv X pins σ H3 { s3 with heap := s3.heap.push { cls := .type "slice", data := .fields #[vl, vu, .none] } } := I3.kept (t' := s3.toks) fun b ob q => Heap.get?_push_of_some _ q
  obtain ⟨T, id, hT, ht, hg⟩ := hr pins { s3 with heap := s3.heap.push { cls := .type "slice", data := .fields #[vl, vu, .none] } } σ H3 x v vl vu l u s3.heap.objs.size Q I4 r1 (Heap.IsSliceOf.new ..) pl pu q3
  show wpAny (model X.prog X.w) X.A (subscriptTail e (.Slice lo hi none p2) v (.ref s3.heap.objs.size)) (EP X pins σ Q) X.xe { s3 with heap := s3.heap.push { cls := .type "slice", data := .fields #[vl, vu, .none] } }
  exact tail_any (ops := [.ref s3.heap.objs.size, v]) ht hT hg (by with_unfolding_all rfl)
/-- the items of xs[lo:hi] -/
def cutV (xs : List V) (lo hi : Option Int) : List V := (xs.drop (HT.sIx xs.length 0 lo)).take (HT.sIx xs.length xs.length hi - HT.sIx xs.length 0 lo)
theorem cutV_length (xs : List V) (lo hi : Option Int) : (cutV xs lo hi).length ≤ xs.length := by
  unfold cutV
  rw [List.length_take, List.length_drop]
  omega
/-! ### t < u, t + u -/
end
end L2
namespace L2
open PySem PySem.Spec PyProof.Rows
/-! ### places -/
/-- the place that an index of any sign means -/
def ixN (n : Nat) (i : Int) : Option Nat := if 0 ≤ i then (if i < n then some i.toNat else none) else if -(n : Int) ≤ i then some (i + n).toNat else none
def atI {α : Type} (xs : List α) (i : Int) : Option α := (ixN xs.length i).bind fun j => xs[j]?
theorem ixN_seq {n : Nat} {i : Int} {j : Nat} (h : ixN n i = some j) : seqIndex? i n = some j ∧ j < n ∧ -(n : Int) ≤ i ∧ i < n := by
  unfold ixN at h
  by_cases h0 : 0 ≤ i
  · rw [if_pos h0] at h
    by_cases h1 : i < n
    · rw [if_pos h1] at h
      have e : i.toNat = j := Option.some.inj h
      exact ⟨by rw [seqIndex_of h0 h1, e], by omega, by omega, h1⟩
    · rw [if_neg h1] at h; cases h
  · rw [if_neg h0] at h
    by_cases h1 : -(n : Int) ≤ i
    · rw [if_pos h1] at h
      have e : (i + n).toNat = j := Option.some.inj h
      exact ⟨by rw [seqIndex_neg (by omega) h1, e], by omega, h1, by omega⟩
    · rw [if_neg h1] at h; cases h
theorem atI_get {α : Type} {xs : List α} {i : Int} {v : α} (h : atI xs i = some v) : ∃ j, seqIndex? i xs.length = some j ∧ xs[j]? = some v ∧ j < xs.length ∧ -(xs.length : Int) ≤ i ∧ i < xs.length := by
  unfold atI at h
  cases e : ixN xs.length i with
  | none => rw [e] at h; cases h
  | some j =>
    rw [e] at h
    obtain ⟨h1, h2, h3, h4⟩ := ixN_seq e
    exact ⟨j, h1, h, h2, h3, h4⟩
theorem atI_nat {α : Type} {xs : List α} {j : Nat} {v : α} (h : xs[j]? = some v) : atI xs (j : Int) = some v := by
  have hj : j < xs.length := (List.getElem?_eq_some_iff.mp h).1
  have e : ixN xs.length (j : Int) = some j := by
    unfold ixN
    rw [if_pos (by omega), if_pos (by omega)]; simp
  unfold atI; rw [e]; exact h
/-! ### what may be subscripted -/
/-- what stands as an index of a plain subscript -/
def PlainIx (b : Expr) : Prop := ∀ o i, subscripted b false o i = operate [o, i] (getItem o i)
/-- a subscript by values -/
def IxR (X : Cx) (r : R2) : Prop :=
  ∀ (value slice : Expr) (pins : List (Addr × Obj)) (s : Shared) (σ : St) (H : Hp) (x y : V) (v u : Value) (Q : VK), Inv X pins σ H s → RelV x v → RelV y u → r x y H Q →
    subscripted slice false v u = operate [v, u] (getItem v u) → wpAny (model X.prog X.w) X.A (subscriptTail value slice v u) (EP X pins σ Q) X.xe s
/-- a call of a builtin's method by values: the receiver, the arguments -/
def MtR (X : Cx) (id : String) (r : V → List V → Hp → VK → Prop) : Prop :=
  ∀ (pins : List (Addr × Obj)) (s : Shared) (σ : St) (H : Hp) (x : V) (xs : List V) (v : Value) (us : List Value) (Q : VK), Inv X pins σ H s → RelV x v → Vals xs us → r x xs H Q →
    wpAny (model X.prog X.w) X.A (call (.builtin id) (v :: us)) (EP X pins σ Q) X.xe s
section
variable {X : Cx} {a b : Expr} {ta tb : TE} {pos : Pos}
/-- a[b] -/
theorem pe_ix {r : R2} (hr : IxR X r) (ha : PE X a ta) (hb : PE X b tb) (hs : PlainIx b) : PE X (.Subscript a b pos) (tOp r ta tb) := by
  intro pins s σ H Q I h
  exact Subscript_ (binT ha hb I h fun v u s2 x y H2 I2 rx ry q => hr a b pins s2 σ H2 x y v u Q I2 rx ry q (hs _ _))
def rIxL (K : PySem.W.Frag) : R2 := fun x y H Q => ∃ p xs i v, x = .ref p ∧ y = .int i ∧ SqL K H p xs ∧ atI xs i = some v ∧ Q v H
def rIxT (K : PySem.W.Frag) : R2 := fun x y H Q => ∃ p xs i v, x = .ref p ∧ y = .int i ∧ SqT K H p xs ∧ atI xs i = some v ∧ Q v H
theorem ix_list : IxR X (rIxL X.K) := by
  intro value slice pins s σ H x y v u Q I rx ry h hs
  obtain ⟨p, xs, i, z, rfl, rfl, hq, he, q⟩ := h
  cases rx
  obtain ⟨t, rfl⟩ := ry
  obtain ⟨its, r, pl, hz⟩ := I.list hq
  obtain ⟨j, h1, h2, h3, h4, h5⟩ := atI_get he
  obtain ⟨w, ew, rw'⟩ := r.get h2
  have hl := r.length
  have hn := line63
  have fin : EP X pins σ Q w s := ⟨z, H, I, rw', q⟩
  by_cases h0 : 0 ≤ i
  · have hj : i.toNat = j := by
      rw [seqIndex_of h0 h5] at h1
      exact Option.some.inj h1
    exact item_listR pl.isList h0 (by omega) (by rw [hj]; simpa using ew) fin hs
  · have hj : (i + (its.toArray.size : Int)).toNat = j := by
      rw [seqIndex_neg (by omega) h4] at h1
      rw [List.size_toArray, ← hl]
      exact Option.some.inj h1
    exact subscriptTail_builtinR (x := w) pl.isList.typeIs slot_list_getitem.lookup
      (wpAny_getItem_list_neg (Q := fun r s' => r = w ∧ EP X pins σ Q r s') pl.isList (by omega) (by rw [List.size_toArray] <;> omega) (by omega) (by rw [hj]; simpa using ew) ⟨rfl, fin⟩) hs
theorem ix_tup : IxR X (rIxT X.K) := by
  intro value slice pins s σ H x y v u Q I rx ry h hs
  obtain ⟨p, xs, i, z, rfl, rfl, hq, he, q⟩ := h
  cases rx
  obtain ⟨t, rfl⟩ := ry
  obtain ⟨its, r, pl, hz⟩ := I.tuple hq
  obtain ⟨j, h1, h2, h3, h4, h5⟩ := atI_get he
  obtain ⟨w, ew, rw'⟩ := r.get h2
  have hl := r.length
  have hn := line63
  have fin : EP X pins σ Q w s := ⟨z, H, I, rw', q⟩
  exact subscriptTail_builtinR (x := w) pl.typeIs slot_tuple_getitem.lookup
    (getItem_tuple (j := j) (Q := fun r s' => r = w ∧ EP X pins σ Q r s') pl (by omega) (by omega) (by rw [List.size_toArray, ← hl]; exact h1) (by simpa using ew) ⟨rfl, fin⟩) hs
/-! ### xs[i] = v, any sign -/
/-- the list's object behind a store -/
theorem mapSeq_set (its : List Value) (n j : Nat) (u : Value) : Obj.mapSeq (·.setIfInBounds j u) { cls := .type "list", data := .seq its.toArray n } = { cls := .type "list", data := .seq (its.set j u).toArray n } := by
  simp [Obj.mapSeq]
theorem Inv.lst {pins : List (Addr × Obj)} {σ : St} {H : Hp} {s : Shared} {p : Addr} {xs : List V} (I : Inv X pins σ H s) (h : H p = some (.lst xs)) :
    ∃ (its : List Value) (n : Nat), Vals xs its ∧ s.heap.get? p = some { cls := .type "list", data := .seq its.toArray n } ∧ xs.length ≤ sizeLine := by
  obtain ⟨z, its, n, r, e⟩ := I.hok p _ h
  exact ⟨its, n, r, e, z⟩
/-- the list at p is written by an update of its object -/
theorem Inv.lstUpd {pins : List (Addr × Obj)} {σ : St} {H : Hp} {s : Shared} {p : Addr} {xs ys : List V} {its its' : List Value} {n n' : Nat} {f : Obj → Obj} (I : Inv X pins σ H s) (h : H p = some (.lst xs))
    (ho : s.heap.get? p = some { cls := .type "list", data := .seq its.toArray n }) (hf : f { cls := .type "list", data := .seq its.toArray n } = { cls := .type "list", data := .seq its'.toArray n' }) (r : Vals ys its') (hz : ys.length ≤ sizeLine) (t : Nat) :
    Inv X pins σ (upd H p (.lst ys)) { s with heap := s.heap.update p f, toks := t } := by
  have e : (s.heap.update p f).get? p = some { cls := .type "list", data := .seq its'.toArray n' } := by
    rw [Heap.get?_update_self f ho (by rw [hf] <;> rfl), hf]
  refine I.write (x := p) (e := p) (by rw [h]; trivial) (.inl rfl) (fun b u hb q => (Heap.get?_update_other _ _ (Ne.symm hb)).trans q) ⟨_, e⟩ ?_
  exact ⟨hz, its', n', r, e⟩
def rSetL : V → V → V → Hp → (Hp → Prop) → Prop := fun o i v H Q => ∃ p xs k j, o = .ref p ∧ i = .int k ∧ H p = some (.lst xs) ∧ ixN xs.length k = some j ∧ Q (upd H p (.lst (xs.set j v)))
theorem set_list : PSet X rSetL := by
  intro pins s σ H o i v ov iv u Q I ro ri rv h
  obtain ⟨p, xs, k, j, rfl, rfl, hp, hj, q⟩ := h
  cases ro
  obtain ⟨t, rfl⟩ := ri
  obtain ⟨its, n, r, ho, hz⟩ := I.lst hp
  obtain ⟨h1, h2, h3, h4⟩ := ixN_seq hj
  have hl := r.length
  have hn := line63
  have I' : Inv X pins σ (upd H p (.lst (xs.set j v))) { s with heap := s.heap.update p (Obj.mapSeq (·.setIfInBounds j u)) } :=
    I.lstUpd hp ho (mapSeq_set its n j u) (r.set rv j) (by rw [List.length_set]; exact hz) s.toks
  by_cases h0 : 0 ≤ k
  · have hk : k.toNat = j := by
      rw [seqIndex_of h0 h4] at h1
      exact Option.some.inj h1
    exact PySem.W.ki_setAt ho h0 (by omega) (by rw [List.size_toArray, ← hl]; exact h4) (by rw [hk]; exact ⟨_, I', q⟩)
  · have hk : (k + (its.toArray.size : Int)).toNat = j := by
      rw [seqIndex_neg (by omega) h3] at h1
      rw [List.size_toArray, ← hl]
      exact Option.some.inj h1
    exact PySem.W.ki_setBack ho (by omega) (by rw [List.size_toArray, ← hl]; exact h3) (by omega) (by rw [hk]; exact ⟨_, I', q⟩)
/-! ### slices -/
theorem slice_bounds (lo hi : Option Int) (n : Nat) : (sliceBounds lo hi none n).1 = ((HT.sIx n 0 lo : Nat) : Int) ∧ (sliceBounds lo hi none n).2.1 = ((HT.sIx n n hi : Nat) : Int) ∧ (sliceBounds lo hi none n).2.2 = 1 := by
  refine ⟨?_, ?_, rfl⟩
  · cases lo with
    | none => simp [sliceBounds, HT.sIx]
    | some i =>
      simp only [sliceBounds, HT.sIx, Option.getD_none, show (1 : Int) > 0 by decide, if_true]
      by_cases h : i < 0
      · simp only [h, if_true] <;> omega
      · simp only [h, if_false] <;> omega
  · cases hi with
    | none => simp [sliceBounds, HT.sIx]
    | some i =>
      simp only [sliceBounds, HT.sIx, Option.getD_none, show (1 : Int) > 0 by decide, if_true]
      by_cases h : i < 0
      · simp only [h, if_true] <;> omega
      · simp only [h, if_false] <;> omega
theorem slicePick_cut (its : List Value) (lo hi : Option Int) : slicePick its.toArray lo hi none = ((its.drop (HT.sIx its.length 0 lo)).take (HT.sIx its.length its.length hi - HT.sIx its.length 0 lo)).toArray := by
  obtain ⟨h1, h2, h3⟩ := slice_bounds lo hi its.toArray.size
  unfold slicePick
  rw [h1, h2, h3]
  simp only [sliceRange_one, pick_run, List.size_toArray] <;> rfl
/-- xs[lo:hi] of a list: a new list -/
def rSlL (K : PySem.W.Frag) : V → Option Int → Option Int → Hp → VK → Prop := fun x lo hi H Q => ∃ a xs, x = .ref a ∧ SqL K H a xs ∧ ∀ p, H p = none → Q (.ref p) (upd H p (.lst (cutV xs lo hi)))
theorem sl_list : SlR X (rSlL X.K) := by
  intro pins s σ H x v vl vu lo hi sl Q I rx hs pl pu h
  obtain ⟨a, xs, rfl, hx, q⟩ := h
  cases rx
  obtain ⟨its, r, ht, hz⟩ := I.list hx
  have hlen := r.length
  refine ⟨"list", _, slot_list_getitem.lookup, ht.isList.typeIs, ?_⟩
  refine wpAny_getItem_list_slice ht.isList hs pl pu .none (by simp) ?_ (by rw [List.size_toArray] <;> omega)
  rw [slicePick_cut, ← hlen]
  refine ⟨.ref s.heap.objs.size, _, I.laid (t' := s.toks) (o := .lst (cutV xs lo hi)) (fun b ob q => Heap.get?_push_of_some _ q) (Nat.le_refl _) ?_, rfl, q _ (I.hok.fresh (Nat.le_refl _))⟩
  exact ⟨Nat.le_trans (cutV_length xs lo hi) hz, _, 0, (r.drop (HT.sIx xs.length 0 lo)).take (HT.sIx xs.length xs.length hi - HT.sIx xs.length 0 lo), Heap.get?_push_size _ rfl⟩
/-! ### in, not in: flat items -/
/-! ### len, list(x), tuple(x) of any list or tuple that is read -/
theorem call_len_seq : CallR X (.builtin "len") (fun xs H Q => ∃ p ys, xs = [.ref p] ∧ (SqL X.K H p ys ∨ SqT X.K H p ys) ∧ Q (.int ys.length) H) := by
  intro pins s σ H xs us Q I r h
  obtain ⟨p, ys, rfl, hq, q⟩ := h
  obtain ⟨u, rfl, rx⟩ := vals1 r
  cases rx
  have hn := line63
  rcases hq with hq | hq
  · obtain ⟨its, r', pl, hz⟩ := I.list hq
    have hlen := r'.length
    exact Calls.call_len_list pl.isList (by simp only [List.size_toArray] <;> omega) ⟨.int ys.length, H, I.tok _, ⟨s.toks + 1, by rw [List.size_toArray, hlen]⟩, q⟩
  · obtain ⟨its, r', pl, hz⟩ := I.tuple hq
    have hlen := r'.length
    exact len_tuple pl (by simp only [List.size_toArray] <;> omega) ⟨.int ys.length, H, I.tok _, ⟨s.toks + 1, by rw [List.size_toArray, hlen]⟩, q⟩
theorem call_list_of : CallR X (.type "list") (fun xs H Q => ∃ p ys, xs = [.ref p] ∧ (SqL X.K H p ys ∨ SqT X.K H p ys) ∧ ∀ l, H l = none → Q (.ref l) (upd H l (.lst ys))) := by
  intro pins s σ H xs us Q I r h
  obtain ⟨p, ys, rfl, hq, q⟩ := h
  obtain ⟨u, rfl, rx⟩ := vals1 r
  cases rx
  have fin : ∀ (its : List Value), Vals ys its → ys.length ≤ sizeLine → ∀ (h' : Heap) (c' : Nat), (∀ b o', s.heap.get? b = some o' → h'.get? b = some o') →
      h'.get? s.heap.objs.size = some { cls := .type "list", dict := none, data := .seq its.toArray c', slots := #[] } → EP X pins σ Q (.ref s.heap.objs.size) { s with heap := h' } := fun its r' hz h' c' kp e =>
    ⟨.ref s.heap.objs.size, _, I.laid (t' := s.toks) kp (Nat.le_refl _) (show ObjOk X.prog X.w _ h' _ (.lst ys) from ⟨hz, its, c', r', e⟩), rfl, q _ (I.hok.fresh (Nat.le_refl _))⟩
  rcases hq with hq | hq
  · obtain ⟨its, r', pl, hz⟩ := I.list hq
    have hlen := r'.length
    obtain ⟨o, ho, hc, n, hd⟩ := pl.isList
    exact call_list_seq p (.inl rfl) ho hc hd (fun h' c' kp e => fin its r' hz h' c' kp e) (by simp only [List.size_toArray] <;> omega)
  · obtain ⟨its, r', pl, hz⟩ := I.tuple hq
    have hlen := r'.length
    obtain ⟨o, ho, hc, n, hd⟩ := pl
    exact call_list_seq p (.inr rfl) ho hc hd (fun h' c' kp e => fin its r' hz h' c' kp e) (by simp only [List.size_toArray] <;> omega)
/-! ### the call of a builtin's method: o.m(..) -/
/-- the value is of that builtin type -/
def tyV (K : PySem.W.Frag) (T : String) (x : V) (H : Hp) : Prop := match x with
  | .str _ => T = "str"
  | .int _ => T = "int"
  | .ref p => (T = "list" ∧ ∃ xs, SqL K H p xs) ∨ (T = "tuple" ∧ ∃ o, K.lookup p = some o ∧ o.cls = .type "tuple" ∧ o.dict = none) ∨
      (T = "dict" ∧ ((∃ kvs, H p = some (.dK kvs)) ∨ ∃ kvs, H p = some (.dT kvs))) ∨ (T = "set" ∧ ∃ S n, H p = some (.set S n))
  | _ => False
theorem tyV_is {pins : List (Addr × Obj)} {σ : St} {H : Hp} {s : Shared} {T : String} {x : V} {v : Value} (I : Inv X pins σ H s) (r : RelV x v) (ty : tyV X.K T x H) :
    s.TypeIs v T ∧ ∀ a, v = .ref a → ∃ ob, s.heap.get? a = some ob ∧ ob.dict = none := by
  cases x with
  | str z =>
    obtain ⟨t, rfl⟩ := r
    cases (show T = "str" from ty)
    exact ⟨typeIs_str s z t, fun _ e => nomatch e⟩
  | int i =>
    obtain ⟨t, rfl⟩ := r
    cases (show T = "int" from ty)
    exact ⟨typeIs_int s i t, fun _ e => nomatch e⟩
  | ref p =>
    cases r
    rcases ty with ⟨rfl, xs, hq⟩ | ⟨rfl, o, hk, hc, hd⟩ | ⟨rfl, hk⟩ | ⟨rfl, S, n, hk⟩
    · obtain ⟨its, _, pl, _⟩ := I.list hq
      refine ⟨pl.isList.typeIs, fun a e => ?_⟩
      cases e
      obtain ⟨o, n, e, c, hd, _⟩ := pl
      exact ⟨o, e, hd⟩
    · refine ⟨⟨o, I.kIn p o hk, hc⟩, fun a e => ?_⟩
      cases e
      exact ⟨o, I.kIn _ o hk, hd⟩
    · have z : ∃ o, s.heap.get? p = some o ∧ o.ExactDict := by
        rcases hk with ⟨kvs, hk⟩ | ⟨kvs, hk⟩
        · obtain ⟨_, _, _, _, o, _, _, e, ex, _⟩ := I.hok p _ hk
          exact ⟨o, e, ex⟩
        · obtain ⟨_, _, _, _, o, _, _, e, ex, _⟩ := I.hok p _ hk
          exact ⟨o, e, ex⟩
      obtain ⟨o, e, ex⟩ := z
      refine ⟨⟨o, e, ex.1⟩, fun a e2 => ?_⟩
      cases e2
      exact ⟨o, e, ex.2.1⟩
    · obtain ⟨o, _, _, _, e, ex, _⟩ := I.hok p _ hk
      refine ⟨⟨o, e, ex.1⟩, fun a e2 => ?_⟩
      cases e2
      exact ⟨o, e, ex.2.1⟩
  | _ => exact False.elim ty
def tBM0 (K : PySem.W.Frag) (T : String) (r : V → List V → Hp → VK → Prop) (to : TE) : TE := fun σ H Q => to σ H fun x H1 => tyV K T x H1 ∧ r x [] H1 Q
def tBM (K : PySem.W.Frag) (T : String) (r : V → List V → Hp → VK → Prop) (to : TE) (t : TA) : TE := fun σ H Q => to σ H fun x H1 => tyV K T x H1 ∧ t σ H1 fun xs H2 => r x xs H2 Q
variable {o e : Expr} {es : List Expr} {to : TE} {t : TA} {name : Str} {apos cpos : Pos} {T id : String} {r : V → List V → Hp → VK → Prop}
theorem pe_bm0 (pa : PlainAttrs T) (slot : Slot T name id) (hty : typeOf (.builtin id) = pure (.type "method_descriptor")) (hm : MtR X id r) (ho : PE X o to)
    (hbase : attributeBase o name X.env (eval o X.env) = eval o X.env := by rfl) (hline : (apos.endLine == cpos.line) = true := by rfl) : PE X (.Call (.Attribute o name apos) [] [] cpos) (tBM0 X.K T r to) := by
  intro pins s σ H Q I h
  refine wpAny_Call_method0_late hbase hline (thn (ho pins s σ H _ I h) fun v s1 ⟨x, H1, I1, r1, ty, q1⟩ => ?_)
  obtain ⟨h1, h2⟩ := tyV_is I1 r1 ty
  exact ⟨T, id, pa, slot, hty, h1, h2, Calls.callWith_builtin rfl (PySem.evalArgs_none (hm pins s1 σ H1 x [] v [] Q I1 r1 .nil q1))⟩
theorem pe_bm (pa : PlainAttrs T) (slot : Slot T name id) (hty : typeOf (.builtin id) = pure (.type "method_descriptor")) (hm : MtR X id r) (ho : PE X o to) (ha : PA X (e :: es) t)
    (hbase : attributeBase o name X.env (eval o X.env) = eval o X.env := by rfl)
    (hfew : ((backTo cpos (starEach (e :: es) X.env)).all (fun x => !x.1) && (backToKw cpos (keywordEach [] X.env)).all (fun x => x.1.isSome)
      && decide ((e :: es).length + ([] : List Keyword).length + (if ([] : List Keyword).isEmpty then 0 else 1) < 30)) = true := by rfl)
    (hline : (apos.endLine == cpos.line) = true := by rfl) (hs : starEach (e :: es) X.env = (false, eval e X.env) :: starEach es X.env := by rfl) (hplain : (backTo cpos (starEach es X.env)).any (·.1) = false := by rfl) :
    PE X (.Call (.Attribute o name apos) (e :: es) [] cpos) (tBM X.K T r to t) := by
  intro pins s σ H Q I h
  refine wpAny_Call_method_late hbase hfew hline rfl (thn (ho pins s σ H _ I h) fun v s1 ⟨x, H1, I1, r1, ty, q1⟩ => ?_)
  obtain ⟨h1, h2⟩ := tyV_is I1 r1 ty
  refine ⟨T, id, pa, slot, hty, h1, h2, ?_⟩
  have hA := ha cpos pins s1 σ H1 _ I1 q1
  rw [hs] at hA ⊢
  refine Calls.callWith_builtin (by show (false || (backTo cpos (starEach es X.env)).any (·.1)) = false; rw [hplain] <;> rfl) (Calls.evalArgs_plain ?_)
  exact thn hA fun us s2 ⟨vs, H2, I2, r2, q2⟩ => hm pins s2 σ H2 x vs v us Q I2 r1 r2 q2
/- xs.append(e), list.index on a module's tuple .. are MtR facts of 06m -/
end
end L2
namespace L2
open PySem PySem.Spec PyProof.Rows
def MtM (X : Cx) (id : String) (r : V → List V → Hp → VK → Prop) : Prop :=
  ∀ (pins : List (Addr × Obj)) (s : Shared) (σ : St) (H : Hp) (x : V) (xs : List V) (v : Value) (us : List Value) (Q : VK), Inv X pins σ H s → RelV x v → Vals xs us → r x xs H Q →
    wpAny (model X.prog X.w) X.A (call (.builtin id) (v :: us)) (EP X pins σ Q) X.xe s
/-! ### lists of values -/
theorem Vals.one : ∀ {x : V} {us : List Value}, Vals [x] us → ∃ u, us = [u] ∧ RelV x u
  | _, _, .cons r .nil => ⟨_, rfl, r⟩
theorem Vals.zero : ∀ {us : List Value}, Vals [] us → us = []
  | _, .nil => rfl
theorem Vals.dropLast {xs : List V} {us : List Value} (h : Vals xs us) : Vals xs.dropLast us.dropLast := by
  induction h with
  | nil => exact .nil
  | cons r t ih =>
    cases t with
    | nil => exact .nil
    | cons q t' => exact .cons r ih
theorem Vals.eraseIdx : ∀ {xs : List V} {us : List Value} (i : Nat), Vals xs us → Vals (xs.eraseIdx i) (us.eraseIdx i)
  | _, _, _, .nil => .nil
  | _, _, 0, .cons _ t => t
  | _, _, i + 1, .cons r t => .cons r (Vals.eraseIdx i t)
theorem Vals.rep {xs : List V} {us : List Value} (h : Vals xs us) : ∀ k : Nat, Vals (List.replicate k xs).flatten (List.replicate k us).flatten
  | 0 => .nil
  | k + 1 => by
    rw [List.replicate_succ, List.replicate_succ, List.flatten_cons, List.flatten_cons]
    exact Vals.append h (Vals.rep h k)
theorem erase_last {α : Type} (l : List α) : l.eraseIdx (l.length - 1) = l.dropLast := by
  induction l with
  | nil => rfl
  | cons a r ih =>
    cases r with
    | nil => rfl
    | cons b r =>
      have e : (a :: b :: r).length - 1 = ((b :: r).length - 1) + 1 := by
        have h1 : (a :: b :: r).length = r.length + 2 := rfl
        have h2 : (b :: r).length = r.length + 1 := rfl
        omega
      rw [e, List.eraseIdx_cons_succ, ih]
      all_goals rfl
theorem len_erase {α : Type} : ∀ (l : List α) (i : Nat), (l.eraseIdx i).length ≤ l.length
  | [], _ => Nat.le_refl _
  | _ :: _, 0 => Nat.le_succ _
  | _ :: r, i + 1 => Nat.succ_le_succ (len_erase r i)
theorem foldl_rep (its : List Value) : ∀ (k : Nat) (acc : List Value),
    List.foldl (fun x1 x2 => x1 ++ x2) acc.toArray (List.replicate k its.toArray) = (acc ++ (List.replicate k its).flatten).toArray
  | 0, acc => by simp
  | k + 1, acc => by
    have e : acc.toArray ++ its.toArray = (acc ++ its).toArray := by simp
    have e2 : (acc ++ its) ++ (List.replicate k its).flatten = acc ++ (List.replicate (k + 1) its).flatten := by
      rw [List.replicate_succ, List.flatten_cons, List.append_assoc]
    rw [← e2, ← foldl_rep its k (acc ++ its), ← e, List.replicate_succ, List.foldl_cons]
section
variable {X : Cx} {pins : List (Addr × Obj)} {σ : St} {H : Hp} {s : Shared} {l b : Addr} {xs ys zs : List V}
/-! ### the two steps: a tracked list is rewritten, a new list is laid -/
theorem Inv.lset {its its' : List Value} {n : Nat} {f : Array Value → Array Value} {t' : Nat} (I : Inv X pins σ H s) (hH : H l = some (.lst xs))
    (e : s.heap.get? l = some { cls := .type "list", data := .seq its.toArray n }) (hf : f its.toArray = its'.toArray) (hv : Vals ys its') (hz : ys.length ≤ sizeLine) :
    Inv X pins σ (upd H l (.lst ys)) { s with heap := s.heap.update l (Obj.mapSeq f), toks := t' } := by
  have q := PySem.IsL.update e f
  rw [hf] at q
  refine I.write (x := l) (e := l) (by rw [hH]; exact trivial) (.inl rfl) (fun b' u hb hu => (Heap.get?_update_other s.heap (Obj.mapSeq f) (Ne.symm hb)).trans hu) ⟨_, q⟩ ?_
  exact ⟨hz, its', _, hv, q⟩
theorem Inv.lnew {its : List Value} {t' : Nat} (I : Inv X pins σ H s) (hv : Vals ys its) (hz : ys.length ≤ sizeLine) :
    Inv X pins σ (upd H s.heap.objs.size (.lst ys)) { s with heap := s.heap.push { cls := .type "list", data := .seq its.toArray }, toks := t' } :=
  I.laid (fun _ _ q => Heap.get?_push_of_some _ q) (Nat.le_refl _) ⟨hz, its, 0, hv, Heap.get?_push_size _ rfl⟩
theorem Inv.fresh (I : Inv X pins σ H s) : H s.heap.objs.size = none := I.hok.fresh (Nat.le_refl _)
theorem Inv.lstM (I : Inv X pins σ H s) (hH : H l = some (.lst xs)) : xs.length ≤ sizeLine ∧ ∃ (its : List Value) (n : Nat), Vals xs its ∧ xs.length = its.length ∧ s.heap.get? l = some { cls := .type "list", data := .seq its.toArray n } := by
  obtain ⟨z, its, n, r, e⟩ := I.hok l _ hH
  exact ⟨z, its, n, r, r.length, e⟩
theorem notLongL {n : Nat} (h : n ≤ sizeLine) : Builtin.List.listTooLong n = false := by
  unfold Builtin.List.listTooLong
  exact decide_eq_false (by omega)
end
section
variable {X : Cx}
/-! ### methods -/
def rAppend : V → List V → Hp → VK → Prop := fun x vs H Q => ∃ l xs y, x = .ref l ∧ vs = [y] ∧ H l = some (.lst xs) ∧ xs.length < sizeLine ∧ Q .non (upd H l (.lst (xs ++ [y])))
theorem mt_append : MtM X "list.append" rAppend := by
  intro pins s σ H x vs v us Q I rx rv h
  obtain ⟨l, xs, y, rfl, rfl, hH, hz, q⟩ := h
  cases rx
  obtain ⟨u, rfl, ru⟩ := rv.one
  obtain ⟨z, its, n, r, hl, e⟩ := I.lstM hH
  refine call_meets F.slot_list_append ⟨_, e, rfl⟩ F.entry_list_append (F.args_list_append_2 _ _) (PySem.list_append l its.toArray n u (by rw [List.size_toArray]; omega)) ⟨e, ?_⟩
  refine ⟨.non, _, I.lset (its' := its ++ [u]) hH e (by simp) (r.append (.cons ru .nil)) ?_, rfl, q⟩
  rw [List.length_append, List.length_singleton]
  omega
def rExtend : V → List V → Hp → VK → Prop := fun x vs H Q => ∃ l b xs zs, x = .ref l ∧ vs = [.ref b] ∧ H l = some (.lst xs) ∧ H b = some (.lst zs) ∧ xs.length + zs.length ≤ sizeLine ∧ Q .non (upd H l (.lst (xs ++ zs)))
theorem mt_extend : MtM X "list.extend" rExtend := by
  intro pins s σ H x vs v us Q I rx rv h
  obtain ⟨l, b, xs, zs, rfl, rfl, hH, hB, hz, q⟩ := h
  cases rx
  obtain ⟨u, rfl, ru⟩ := rv.one
  cases ru
  obtain ⟨z, its, n, r, hl, e⟩ := I.lstM hH
  obtain ⟨z2, its2, n2, r2, hl2, e2⟩ := I.lstM hB
  have hsz : its.toArray.size + its2.toArray.size ≤ sizeLine := by rw [List.size_toArray, List.size_toArray]; omega
  have hlong : ¬ (!its.toArray.isEmpty && Builtin.List.listTooLong (its.toArray.size + its2.toArray.size)) = true := by
    rw [notLongL hsz, Bool.and_false]
    exact Bool.false_ne_true
  refine call_meets F.slot_list_extend ⟨_, e, rfl⟩ F.entry_list_extend (F.args_list_extend_2 _ _)
    (AutoSeq1.list_extend_list_list_0 l its.toArray n b its2.toArray n2 hlong (by rw [List.size_toArray]; omega) (by omega)) ⟨e, e2, ?_⟩
  refine ⟨.non, _, I.lset (its' := its ++ its2) hH e (by simp) (r.append r2) ?_, rfl, q⟩
  rw [List.length_append]
  omega
def rPop : V → List V → Hp → VK → Prop := fun x vs H Q => ∃ l xs y, x = .ref l ∧ vs = [] ∧ H l = some (.lst xs) ∧ xs[xs.length - 1]? = some y ∧ Q y (upd H l (.lst xs.dropLast))
theorem mt_pop : MtM X "list.pop" rPop := by
  intro pins s σ H x vs v us Q I rx rv h
  obtain ⟨l, xs, y, rfl, rfl, hH, hy, q⟩ := h
  cases rx
  have hus := rv.zero
  subst hus
  obtain ⟨z, its, n, r, hl, e⟩ := I.lstM hH
  obtain ⟨u, hu, ru⟩ := r.get hy
  have hy' : its.toArray[its.toArray.size - 1]? = some u := by
    show its.toArray[its.length - 1]? = some u
    rw [← Array.getElem?_toList, ← hl]
    exact hu
  refine call_meets F.slot_list_pop ⟨_, e, rfl⟩ F.entry_list_pop (F.args_list_pop_1 _) (MeetsSeq.list_pop_last l its.toArray n u hy' (by rw [List.size_toArray]; omega)) ⟨e, ?_⟩
  refine ⟨y, _, I.lset (its' := its.dropLast) hH e ?_ r.dropLast ?_, ru, q⟩
  · show its.toArray.eraseIdxIfInBounds (its.toArray.size - 1) = its.dropLast.toArray
    rw [List.size_toArray, List.eraseIdxIfInBounds_toArray, erase_last]
  · rw [List.length_dropLast]
    omega
def rPopAt : V → List V → Hp → VK → Prop := fun x vs H Q => ∃ l xs i k y, x = .ref l ∧ vs = [.int i] ∧ H l = some (.lst xs) ∧ -(2 ^ 63) ≤ i ∧ i < 2 ^ 63 ∧ seqIndex? i xs.length = some k ∧ xs[k]? = some y ∧ Q y (upd H l (.lst (xs.eraseIdx k)))
theorem mt_popAt : MtM X "list.pop" rPopAt := by
  intro pins s σ H x vs v us Q I rx rv h
  obtain ⟨l, xs, i, k, y, rfl, rfl, hH, h1, h2, hk, hy, q⟩ := h
  cases rx
  obtain ⟨u, rfl, ru⟩ := rv.one
  obtain ⟨t, rfl⟩ := ru
  obtain ⟨z, its, n, r, hl, e⟩ := I.lstM hH
  obtain ⟨w, hw, rw'⟩ := r.get hy
  refine call_meets F.slot_list_pop ⟨_, e, rfl⟩ F.entry_list_pop (F.args_list_pop_2 _ _)
    (MeetsSeq.list_pop_at l its.toArray n i t k w (fitsIndex_both h1 h2) (by rw [List.size_toArray, ← hl]; exact hk) (by rw [← Array.getElem?_toList]; exact hw) (by rw [List.size_toArray]; omega)) ⟨e, ?_⟩
  refine ⟨y, _, I.lset (its' := its.eraseIdx k) hH e ?_ (r.eraseIdx k) ?_, rw', q⟩
  · show its.toArray.eraseIdxIfInBounds k = (its.eraseIdx k).toArray
    rw [List.eraseIdxIfInBounds_toArray]
  · have := len_erase xs k
    omega
/-! ### list + list, list += list, list * int -/
def rCat : R2 := fun x y H Q => ∃ l b xs zs, x = .ref l ∧ y = .ref b ∧ H l = some (.lst xs) ∧ H b = some (.lst zs) ∧ xs.length + zs.length ≤ sizeLine ∧ ∀ p, H p = none → Q (.ref p) (upd H p (.lst (xs ++ zs)))
theorem op_cat : OpR X (binaryOp .Add) rCat := by
  intro pins s σ H x y v u Q I rx ry h
  obtain ⟨l, b, xs, zs, rfl, rfl, hH, hB, hz, q⟩ := h
  cases rx
  cases ry
  obtain ⟨z, its, n, r, hl, e⟩ := I.lstM hH
  obtain ⟨z2, its2, n2, r2, hl2, e2⟩ := I.lstM hB
  refine PySem.P.add_list e e2 ?_ (by rw [List.size_toArray, List.size_toArray]; omega)
  have ea : its.toArray ++ its2.toArray = (its ++ its2).toArray := by simp
  rw [ea]
  exact ⟨.ref _, _, I.lnew (t' := s.toks) (r.append r2) (by rw [List.length_append]; omega), rfl, q _ I.fresh⟩
/-- a list times an int (a negative one is nothing) -/
def rRep : R2 := fun x y H Q => ∃ l k xs, x = .ref l ∧ y = .int k ∧ H l = some (.lst xs) ∧ -(2 ^ 63) ≤ k ∧ k < 2 ^ 63 ∧ xs.length * k.toNat ≤ sizeLine ∧
  ∀ p, H p = none → Q (.ref p) (upd H p (.lst (List.replicate k.toNat xs).flatten))
theorem len_rep {α : Type} (xs : List α) (k : Nat) : (List.replicate k xs).flatten.length = k * xs.length := by
  induction k with
  | zero => simp
  | succ k ih => rw [List.replicate_succ, List.flatten_cons, List.length_append, ih, Nat.succ_mul, Nat.add_comm]
theorem op_rep : OpR X (binaryOp .Mult) rRep := by
  intro pins s σ H x y v u Q I rx ry h
  obtain ⟨l, k, xs, rfl, rfl, hH, h1, h2, hz, q⟩ := h
  cases rx
  obtain ⟨t, rfl⟩ := ry
  obtain ⟨z, its, n, r, hl, e⟩ := I.lstM hH
  have hlen : its.toArray.size * k.toNat ≤ sizeLine := by rw [List.size_toArray, ← hl]; exact hz
  have hcap : ¬ its.toArray.size * k.toNat > (2 ^ 63 - 1) / 8 := by
    have : (sizeLine : Nat) ≤ (2 ^ 63 - 1) / 8 := by decide
    omega
  have hfit : ¬ (!Builtin.List.listFitsIndex k) = true := by
    rw [fitsIndex_both h1 h2]
    exact Bool.false_ne_true
  have hlong : ¬ Builtin.List.listTooLong (its.toArray.size * k.toNat) = true := by
    rw [notLongL hlen]
    exact Bool.false_ne_true
  have hnew : List.foldl (fun x1 x2 => x1 ++ x2) #[] (List.replicate (if its.toArray.isEmpty = true then 0 else k.toNat) its.toArray) = (List.replicate k.toNat its).flatten.toArray := by
    have f0 : ∀ m : Nat, List.foldl (fun x1 x2 => x1 ++ x2) #[] (List.replicate m its.toArray) = (List.replicate m its).flatten.toArray := fun m => by
      have := foldl_rep its m []
      rw [List.nil_append] at this
      exact this
    rw [f0]
    cases its with
    | nil => simp
    | cons a r' => rw [if_neg (by simp)]
  refine wpAny_binaryOp_repeat_ref (T := "list") (U := "int") (by decide) ⟨_, e, rfl⟩ (fun s' => typeIs_int s' k t) noFill_list_mul F.fills_int_mul F.slot_int_rmul repeat_list F.slot_int_index.lookup
    (call_meets F.slot_int_rmul (typeIs_int s k t) F.entry_int_rmul (F.args_int_rmul_2 _ _) (int___rmul___int_list k t l its.toArray n)
      ⟨e, rfl, ⟨_, e, rfl⟩, call_meets F.slot_list_mul ⟨_, e, rfl⟩ F.entry_list_mul (F.args_list_mul_2 _ _) (AutoListH.list___mul___list_int_3 l its.toArray n k t hfit hcap hlong) ⟨e, ?_⟩⟩)
  rw [hnew]
  exact ⟨.ref _, _, I.lnew (t' := s.toks) (r.rep k.toNat) (by rw [len_rep, Nat.mul_comm]; exact hz), rfl, q _ I.fresh⟩
/-! ### del xs[i] -/
end
/-! ### xs[a:b] = ys -/
section
variable {prog : Program} {w : World} {A : Around} {E : Value → Shared → Prop} {s : Shared}
end
section
variable {X : Cx}
end
end L2
namespace L2
open PySem PySem.Spec PyProof.Rows
theorem Vals.ints : ∀ {ns : List Int} {us : List Value}, Vals (ns.map V.int) us → IntsAre us ns
  | [], us, h => by
    rw [List.map_nil] at h
    cases h
    exact IntsAre.nil
  | n :: ns, us, h => by
    rw [List.map_cons] at h
    cases h with
    | cons r t =>
      obtain ⟨k, rfl⟩ := r
      exact IntsAre.cons n k (Vals.ints t)
theorem Vals.bls : ∀ {bs : List Bool} {us : List Value}, Vals (bs.map V.bl) us → us = bs.map Value.bool
  | [], us, h => by
    rw [List.map_nil] at h
    cases h
    rfl
  | b :: bs, us, h => by
    rw [List.map_cons] at h
    cases h with
    | cons r t =>
      cases r
      rw [Vals.bls t, List.map_cons]
theorem Vals.ref1 {a : Addr} {us : List Value} (r : Vals [V.ref a] us) : us = [Value.ref a] := by
  cases r with
  | cons r t =>
    cases t
    cases r
    rfl
/-! ### the library's walks over a list of ints, kept objects alone -/
section
variable {prog : Program} {w : World} {A : Around} {E : Value → Shared → Prop} {s : Shared} {l : Addr} {its : List Value} {ns : List Int} {Q : Value → Shared → Prop}
theorem sum_raw (hh : A.handled = none) (hl : s.heap.IsList l its.toArray) (hi : IntsAre its ns)
    (h : ∀ h' tk t', (∀ b o, s.heap.get? b = some o → h'.get? b = some o) → Q (.int ns.sum t') { s with heap := h', toks := tk }) : wpAny (model prog w) A (call (.builtin "sum") [.ref l]) Q E s := by
  obtain ⟨xs, e⟩ := hi.allInts.items
  have hn : numsOf (intItems xs).toList = ns := by rw [← e]; exact hi.numsOf
  rw [nums_intItems] at hn
  rw [e] at hl
  refine PySem.sum_intListG hh hl fun h' tk t' hk => ?_
  have := h h' tk t' hk
  rw [preSum_eq, List.take_of_length_le (by simp), hn]; exact this
theorem max_raw (hh : A.handled = none) (hl : s.heap.IsList l its.toArray) (hi : IntsAre its ns) (hne : 0 < ns.length)
    (h : ∀ h' tk M t', (∀ b o, s.heap.get? b = some o → h'.get? b = some o) → M ∈ ns → (∀ a, a ∈ ns → a ≤ M) → Q (.int M t') { s with heap := h', toks := tk }) : wpAny (model prog w) A (call (.builtin "max") [.ref l]) Q E s := by
  obtain ⟨xs, e⟩ := hi.allInts.items
  have hn : numsOf (intItems xs).toList = ns := by rw [← e]; exact hi.numsOf
  rw [nums_intItems] at hn
  subst hn
  rw [e] at hl
  have hsz : 0 < xs.size := by simpa using hne
  refine PySem.max_intList hh hl hsz fun v h' tk hv hk => ?_
  obtain ⟨t, rfl⟩ := intItems_at hv
  obtain ⟨h1, h2⟩ := argBest_gt (numAt xs) (xs.size - 1)
  refine h h' tk _ t hk ?_ fun a ha => ?_
  · rw [numAt_eq]; exact PySem.getD_mem (by rw [List.length_map, Array.length_toList]; omega)
  · obtain ⟨j, hj, rfl⟩ := mem_getD ha
    rw [List.length_map, Array.length_toList] at hj
    rw [← numAt_eq]; exact h2 j (by omega)
theorem min_raw (hh : A.handled = none) (hl : s.heap.IsList l its.toArray) (hi : IntsAre its ns) (hne : 0 < ns.length)
    (h : ∀ h' tk M t', (∀ b o, s.heap.get? b = some o → h'.get? b = some o) → M ∈ ns → (∀ a, a ∈ ns → M ≤ a) → Q (.int M t') { s with heap := h', toks := tk }) : wpAny (model prog w) A (call (.builtin "min") [.ref l]) Q E s := by
  obtain ⟨xs, e⟩ := hi.allInts.items
  have hn : numsOf (intItems xs).toList = ns := by rw [← e]; exact hi.numsOf
  rw [nums_intItems] at hn
  subst hn
  rw [e] at hl
  have hsz : 0 < xs.size := by simpa using hne
  refine PySem.min_intList hh hl hsz fun v h' tk hv hk => ?_
  obtain ⟨t, rfl⟩ := intItems_at hv
  obtain ⟨h1, h2⟩ := argBest_lt (numAt xs) (xs.size - 1)
  refine h h' tk _ t hk ?_ fun a ha => ?_
  · rw [numAt_eq]; exact PySem.getD_mem (by rw [List.length_map, Array.length_toList]; omega)
  · obtain ⟨j, hj, rfl⟩ := mem_getD ha
    rw [List.length_map, Array.length_toList] at hj
    rw [← numAt_eq]; exact h2 j (by omega)
end
/-! ### the calls, by values (CallR of 03t; MtR of 06l) -/
section
variable {X : Cx}
/-- sum(xs) of a list of ints -/
def rSum (K : PySem.W.Frag) : List V → Hp → VK → Prop := fun vs H Q => ∃ (a : Addr) (ns : List Int), vs = [V.ref a] ∧ SqL K H a (ns.map V.int) ∧ Q (.int ns.sum) H
/-- max(xs), min(xs) of a list of ints -/
def rMax (K : PySem.W.Frag) : List V → Hp → VK → Prop := fun vs H Q => ∃ (a : Addr) (ns : List Int), vs = [V.ref a] ∧ SqL K H a (ns.map V.int) ∧ 0 < ns.length ∧ ∀ m, m ∈ ns → (∀ y, y ∈ ns → y ≤ m) → Q (.int m) H
def rMin (K : PySem.W.Frag) : List V → Hp → VK → Prop := fun vs H Q => ∃ (a : Addr) (ns : List Int), vs = [V.ref a] ∧ SqL K H a (ns.map V.int) ∧ 0 < ns.length ∧ ∀ m, m ∈ ns → (∀ y, y ∈ ns → m ≤ y) → Q (.int m) H
theorem cr_sum (hc : X.calm = true) : CallR X (.builtin "sum") (rSum X.K) := by
  intro pins s σ H vs us Q I r h
  obtain ⟨a, ns, rfl, hs, q⟩ := h
  obtain ⟨its, rv, hl, _⟩ := I.list hs
  rw [Vals.ref1 r]
  exact sum_raw (I.ok.hd hc) hl.isList rv.ints fun h' tk t' hk => ⟨.int _, H, I.kept hk, ⟨_, rfl⟩, q⟩
theorem cr_max (hc : X.calm = true) : CallR X (.builtin "max") (rMax X.K) := by
  intro pins s σ H vs us Q I r h
  obtain ⟨a, ns, rfl, hs, hne, q⟩ := h
  obtain ⟨its, rv, hl, _⟩ := I.list hs
  rw [Vals.ref1 r]
  exact max_raw (I.ok.hd hc) hl.isList rv.ints hne fun h' tk m t' hk h1 h2 => ⟨.int _, H, I.kept hk, ⟨_, rfl⟩, q m h1 h2⟩
theorem cr_min (hc : X.calm = true) : CallR X (.builtin "min") (rMin X.K) := by
  intro pins s σ H vs us Q I r h
  obtain ⟨a, ns, rfl, hs, hne, q⟩ := h
  obtain ⟨its, rv, hl, _⟩ := I.list hs
  rw [Vals.ref1 r]
  exact min_raw (I.ok.hd hc) hl.isList rv.ints hne fun h' tk m t' hk h1 h2 => ⟨.int _, H, I.kept hk, ⟨_, rfl⟩, q m h1 h2⟩
/-! sorted, sort (fewer than 64 items: the library's own bound) -/
end
/-! ### list.index, flat items -/
section
variable {X : Cx}
end
/-! ### type(x) of an own instance; is, is not of a module's class -/
section
variable {X : Cx}
end
/-! ### any(xs), all(xs) of a list of bools -/
theorem iter_any {prog : Program} {w : World} {A : Around} {E : Value → Shared → Prop} {s : Shared} {l : Addr} {items : Array Value} {Q : Value → Shared → Prop} (hl : s.heap.IsList l items)
    (h : ∀ s₂ : Shared, s₂ = { s with heap := s.heap.push { cls := .type "list_iterator", data := .fields #[.ref l, .int 0 0] } } →
      (s₂.heap.IsListIter s.heap.objs.size l 0 ∧ s₂.heap.IsList l items) → l ≠ s.heap.objs.size → Q (.ref s.heap.objs.size) s₂) : wpAny (model prog w) A (pyIter (.ref l)) Q E s := by
  have hlt : l < s.heap.objs.size := by obtain ⟨_, e, _⟩ := hl; exact Heap.lt_size e
  exact wpAny_pyIter_list hl (h _ rfl ⟨⟨_, Heap.get?_push_size _ rfl, rfl, rfl⟩, hl.push _⟩ (Nat.ne_of_lt hlt))
theorem truth_bools {prog : Program} {w : World} {A : Around} {bs : List Bool} {its : List Value} (e : its = bs.map Value.bool) :
    TruthOf prog w A (fun i v => its.toArray[i]? = some v) (fun i => bs.getD i false) := fun i v s Q E hv hq => by
  have hv' : its[i]? = some v := by simpa using hv
  rw [e, List.getElem?_map] at hv'
  obtain ⟨b, hb, rfl⟩ := Option.map_eq_some_iff.mp hv'
  have hg : bs.getD i false = b := by rw [List.getD_eq_getElem?_getD, hb] <;> rfl
  have hq' : Q (bs.getD i false) s := hq
  rw [hg] at hq'
  exact wpAny_truthy_bool hq'
theorem all_range : ∀ bs : List Bool, (List.range bs.length).all (fun i => bs.getD i false) = bs.all id
  | [] => rfl
  | b :: bs => by
    rw [List.length_cons, List.range_succ_eq_map, List.all_cons, List.all_map, List.all_cons, ← all_range bs]
    all_goals rfl
section
variable {X : Cx}
def rAll (K : PySem.W.Frag) : List V → Hp → VK → Prop := fun vs H Q => ∃ (a : Addr) (bs : List Bool), vs = [V.ref a] ∧ SqL K H a (bs.map V.bl) ∧ Q (.bl (bs.all id)) H
theorem cr_all (hc : X.calm = true) : CallR X (.builtin "all") (rAll X.K) := by
  intro pins s σ H vs us Q I r h
  obtain ⟨a, bs, rfl, hs, q⟩ := h
  obtain ⟨its, rv, hl, _⟩ := I.list hs
  rw [Vals.ref1 r]
  have hb := rv.bls
  refine call_all_walk (iter_any hl.isList fun s₂ e2 st hne => ?_)
  subst e2
  refine ⟨_, _, _, _, _, _, _, rfl, Walks.list (A := X.A.in1) (I.ok.hd hc) _ a hne its.toArray, st, truth_bools hb, fun h' tk hk => ?_⟩
  refine ⟨.bl _, H, I.kept fun b o eo => hk b o (fun hmem => ?_) (Heap.get?_push_of_some _ eo), ?_, q⟩
  · rcases List.mem_cons.mp hmem with e1 | hmem
    · exact absurd (e1 ▸ Heap.lt_size eo) (Nat.lt_irrefl _)
    · cases hmem
  · show Value.bool _ = Value.bool _
    rw [← all_range, hb, List.size_toArray, List.length_map]
end
/-! ### == and != of data at any depth: none, bools, ints, texts, lists, tuples -/
section
variable {X : Cx} {pins : List (Addr × Obj)} {σ : St} {H : Hp} {s : Shared}
end
section
variable {X : Cx}
end
end L2
namespace L2
open PySem PySem.Spec PyProof.Rows
abbrev CellAt (h : Heap) (c : Addr) (v : Option Value) : Prop := h.IsCell c v
def relS (scope sc : Scope) : Scope :=
  { scope with names := scope.names.map fun (n, k) => if (k == .free && sc.kind == .function && sc.names.lookup n == some .cell) then (n, .cell) else (n, k) }
def cloFrom (cells : List (Str × Addr)) : List (Str × NameKind) → List (Str × Addr) → List (Str × Addr)
  | [], acc => acc
  | (n, k) :: r, acc => if k == .free then cloFrom cells r ((n, (cells.lookup n).getD 0) :: acc) else cloFrom cells r acc
theorem closure_loop (env : Env) (f : Str × NameKind → List (Str × Addr) → Sem (ForInStep (List (Str × Addr))))
    (hf : ∀ n k c, f (n, k) c = if k == .free then (do let a ← cellOf env n; pure (.yield ((n, a) :: c))) else pure (.yield c)) :
    ∀ (names : List (Str × NameKind)) (acc : List (Str × Addr)), (∀ y ∈ names, y.2 = .free → ∃ c, env.cells.lookup y.1 = some c) → forIn names acc f = pure (cloFrom env.cells names acc)
  | [], acc, _ => by rw [List.forIn_nil]; rfl
  | (n, k) :: r, acc, h => by
    rw [List.forIn_cons, hf]
    have ih := fun acc => closure_loop env f hf r acc fun y hy => h y (List.mem_cons_of_mem _ hy)
    unfold cloFrom
    by_cases hk : (k == NameKind.free) = true
    · rw [if_pos hk, if_pos hk]
      obtain ⟨c, hc⟩ := h (n, k) List.mem_cons_self (by simpa using hk)
      have e : cellOf env n = pure c := by unfold cellOf; rw [hc]
      rw [e]
      have e2 : (env.cells.lookup n).getD 0 = c := by rw [hc]; rfl
      rw [e2]
      exact ih _
    · rw [if_neg hk, if_neg hk]
      exact ih _
theorem closure_ok {scope : Scope} {env : Env} (h : ∀ y ∈ scope.names, y.2 = .free → ∃ c, env.cells.lookup y.1 = some c) : closureFor scope env = pure (cloFrom env.cells scope.names []) := by
  simp only [closureFor]
  rw [closure_loop env _ (fun n k c => rfl) scope.names [] h]
  rfl
theorem mem_lookup {α : Type} : ∀ {l : List (Str × α)} {n : Str} {c : α}, (n, c) ∈ l → ∃ c', l.lookup n = some c'
  | (k, v) :: r, n, c, h => by
    rw [List.lookup_cons]
    cases hb : n == k with
    | true => exact ⟨_, rfl⟩
    | false =>
      rcases List.mem_cons.mp h with e | h
      · cases e; simp at hb
      · exact mem_lookup h
theorem cloFrom_mem {cells : List (Str × Addr)} : ∀ {names : List (Str × NameKind)} {acc : List (Str × Addr)} {n : Str} {c : Addr}, (n, c) ∈ cloFrom cells names acc → (n, c) ∈ acc ∨ ((n, .free) ∈ names ∧ c = (cells.lookup n).getD 0)
  | [], _, _, _, h => .inl h
  | (m, k) :: r, acc, n, c, h => by
    unfold cloFrom at h
    split at h
    · rename_i hk
      have hk : k = .free := by simpa using hk
      rcases cloFrom_mem h with h | ⟨h1, h2⟩
      · rcases List.mem_cons.mp h with e | h
        · cases e; exact .inr ⟨hk ▸ List.mem_cons_self, rfl⟩
        · exact .inl h
      · exact .inr ⟨List.mem_cons_of_mem _ h1, h2⟩
    · rcases cloFrom_mem h with h | ⟨h1, h2⟩
      · exact .inl h
      · exact .inr ⟨List.mem_cons_of_mem _ h1, h2⟩
theorem cloFrom_acc {cells : List (Str × Addr)} : ∀ {names : List (Str × NameKind)} {acc : List (Str × Addr)} {p : Str × Addr}, p ∈ acc → p ∈ cloFrom cells names acc
  | [], _, _, h => h
  | (m, k) :: r, acc, p, h => by
    unfold cloFrom
    split
    · exact cloFrom_acc (List.mem_cons_of_mem _ h)
    · exact cloFrom_acc h
theorem cloFrom_has {cells : List (Str × Addr)} : ∀ {names : List (Str × NameKind)} {acc : List (Str × Addr)} {n : Str}, (n, .free) ∈ names → (n, (cells.lookup n).getD 0) ∈ cloFrom cells names acc
  | (m, k) :: r, acc, n, h => by
    unfold cloFrom
    rcases List.mem_cons.mp h with e | h
    · cases e
      exact cloFrom_acc List.mem_cons_self
    · split
      · exact cloFrom_has h
      · exact cloFrom_has h
theorem cells_mem : ∀ {names : List (Str × NameKind)} {h : Heap} {acc : List (Str × Addr)} {x : Str} {c : Addr}, (x, c) ∈ cellsFrom h.objs.size names acc →
    (x, c) ∈ acc ∨ ((x, .cell) ∈ names ∧ h.objs.size ≤ c ∧ CellAt (pushCells h names) c none)
  | [], _, _, _, _, h => .inl h
  | (n, k) :: r, h, acc, x, c, hm => by
    unfold cellsFrom at hm
    unfold pushCells
    split at hm
    · rename_i hk
      rw [if_pos hk]
      have hk : k = .cell := by simpa using hk
      rw [← Heap.size_push h { cls := .type "cell", data := .cell none }] at hm
      rcases cells_mem hm with hm | ⟨h1, h2, h3⟩
      · rcases List.mem_cons.mp hm with e | hm
        · cases e
          exact .inr ⟨hk ▸ List.mem_cons_self, Nat.le_refl _, _, pushCells_keeps r _ _ _ (Heap.get?_push_size _ rfl), rfl⟩
        · exact .inl hm
      · rw [Heap.size_push] at h2
        exact .inr ⟨List.mem_cons_of_mem _ h1, Nat.le_of_succ_le h2, h3⟩
    · rename_i hk
      rw [if_neg hk]
      rcases cells_mem hm with hm | ⟨h1, h2, h3⟩
      · exact .inl hm
      · exact .inr ⟨List.mem_cons_of_mem _ h1, h2, h3⟩
theorem cells_acc : ∀ {names : List (Str × NameKind)} {n : Nat} {acc : List (Str × Addr)} {p : Str × Addr}, p ∈ acc → p ∈ cellsFrom n names acc
  | [], _, _, _, h => h
  | (m, k) :: r, n, acc, p, h => by
    unfold cellsFrom
    split
    · exact cells_acc (List.mem_cons_of_mem _ h)
    · exact cells_acc h
theorem cells_has : ∀ {names : List (Str × NameKind)} {n : Nat} {acc : List (Str × Addr)} {x : Str}, (x, .cell) ∈ names → ∃ c, (x, c) ∈ cellsFrom n names acc
  | (m, k) :: r, n, acc, x, h => by
    unfold cellsFrom
    rcases List.mem_cons.mp h with e | h
    · cases e
      exact ⟨n, cells_acc List.mem_cons_self⟩
    · split
      · exact cells_has h
      · exact cells_has h
theorem cells_inj : ∀ {names : List (Str × NameKind)} {h : Heap} {acc : List (Str × Addr)} {x y : Str} {c : Addr}, (∀ p ∈ acc, p.2 < h.objs.size) → (∀ x y c, (x, c) ∈ acc → (y, c) ∈ acc → x = y) →
    (x, c) ∈ cellsFrom h.objs.size names acc → (y, c) ∈ cellsFrom h.objs.size names acc → x = y
  | [], _, _, _, _, _, _, hi, h1, h2 => hi _ _ _ h1 h2
  | (n, k) :: r, h, acc, x, y, c, hl, hi, h1, h2 => by
    unfold cellsFrom at h1 h2
    split at h1
    · rename_i hk
      rw [if_pos hk] at h2
      rw [← Heap.size_push h { cls := .type "cell", data := .cell none }] at h1 h2
      refine cells_inj (h := h.push _) (fun p hp => ?_) (fun x y c a b => ?_) h1 h2
      · rw [Heap.size_push]
        rcases List.mem_cons.mp hp with rfl | hp
        · exact Nat.lt_succ_self _
        · exact Nat.lt_succ_of_lt (hl p hp)
      · rcases List.mem_cons.mp a with e | a <;> rcases List.mem_cons.mp b with e' | b
        · cases e; cases e'; rfl
        · cases e; exact absurd (hl _ b) (Nat.lt_irrefl _)
        · cases e'; exact absurd (hl _ a) (Nat.lt_irrefl _)
        · exact hi _ _ _ a b
    · rename_i hk
      rw [if_neg hk] at h2
      exact cells_inj hl hi h1 h2
theorem newEnv_comp {M : Model} {A : Around} {E : Value → Shared → Prop} {s : Shared} {scope : Scope} {globals : Addr} {closure : List (Str × Addr)} {qual : Str} {func : Option Addr} {code : Value} {around : Env} {builtins : Addr} {Q : Env → Shared → Prop}
    (h : Q (newEnv scope s.heap.objs.size globals (cellsFrom (s.heap.objs.size + 1) scope.names closure) qual func code (some around) builtins)
      { s with heap := pushCells (s.heap.push { cls := .type "dict", data := .dict #[] }) scope.names }) :
    wpAny M A (newFunctionEnv scope globals closure [] qual func code (some around) builtins) Q E s := by
  simp only [newFunctionEnv, Option.isSome_some, if_true]
  refine wpAny_bind (wpAny_alloc ?_)
  refine wpAny_bind (wpAny_layCells _ (fun n k c => rfl) scope.names closure _ _ ?_)
  rw [show ({ s with heap := s.heap.push { cls := .type "dict", data := .dict #[] } } : Shared).heap.objs.size = s.heap.objs.size + 1 from Heap.size_push ..]
  rw [List.forIn_nil]
  exact wpAny_bind (wpAny_pure (wpAny_pure h))
/-- every name of the written scope, in the scope that runs -/
theorem lookup_relS {sc : Scope} : ∀ {names : List (Str × NameKind)} {x : Str} {k : NameKind},
    (names.map fun (n, k) => if (k == NameKind.free && sc.kind == .function && sc.names.lookup n == some .cell) then (n, NameKind.cell) else (n, k)).lookup x = some k →
    ∃ k', names.lookup x = some k' ∧ (k = k' ∨ (k' = .free ∧ k = .cell))
  | [], _, _, h => by simp at h
  | (n, k₀) :: r, x, k, h => by
    have ih := @lookup_relS sc r x k
    have h' : List.lookup x ((if (k₀ == NameKind.free && sc.kind == .function && sc.names.lookup n == some .cell) = true then (n, NameKind.cell) else (n, k₀)) :: (r.map _)) = some k := h
    cases hx : x == n with
    | true =>
      simp only [List.lookup_cons, hx]
      by_cases hc : (k₀ == NameKind.free && sc.kind == .function && sc.names.lookup n == some .cell) = true
      · rw [if_pos hc] at h'
        simp only [List.lookup_cons, hx] at h'
        cases h'
        simp only [Bool.and_eq_true, beq_iff_eq] at hc
        exact ⟨k₀, rfl, .inr ⟨hc.1.1, rfl⟩⟩
      · rw [if_neg hc] at h'
        simp only [List.lookup_cons, hx] at h'
        cases h'
        exact ⟨_, rfl, .inl rfl⟩
    | false =>
      simp only [List.lookup_cons, hx]
      by_cases hc : (k₀ == NameKind.free && sc.kind == .function && sc.names.lookup n == some .cell) = true
      · rw [if_pos hc] at h'
        simp only [List.lookup_cons, hx] at h'
        exact ih h'
      · rw [if_neg hc] at h'
        simp only [List.lookup_cons, hx] at h'
        exact ih h'
/-- the names of a comprehension's block: its own (with their places in N), or captured -/
structure BlkOk (N : List Str) (sc scope : Scope) (own : List (Str × Nat)) : Prop where
  kind : scope.kind = .function
  uniq : ∀ y ∈ scope.names, scope.names.lookup y.1 = some y.2
  ix : ∀ p ∈ own, N[p.2]? = some p.1
  free : ∀ y ∈ scope.names, y.2 = .free → sc.names.lookup y.1 = some .cell ∨ sc.names.lookup y.1 = some .free
  own : ∀ y ∈ scope.names, y.2 = .local ∨ y.2 = .cell → y.1 ∈ own.map (·.1) ∨ y.1 ∉ N
/-- the slots of the block's own names forgotten -/
def wipe (σ : St) : List Nat → St
  | [] => σ
  | v :: vs => (wipe σ vs).set v none
theorem wipe_length (σ : St) : ∀ vs : List Nat, (wipe σ vs).length = σ.length
  | [] => rfl
  | v :: vs => by unfold wipe; rw [List.length_set, wipe_length σ vs]
theorem wipe_some {σ : St} {i : Nat} {x : V} : ∀ {vs : List Nat}, (wipe σ vs)[i]? = some (some x) → σ[i]? = some (some x) ∧ i ∉ vs
  | [], h => ⟨h, by simp⟩
  | v :: vs, h => by
    unfold wipe at h
    by_cases hi : v = i
    · subst hi
      by_cases hv : v < (wipe σ vs).length
      · rw [List.getElem?_set_self hv] at h; cases h
      · rw [List.getElem?_eq_none (by simpa using hv)] at h; cases h
    · rw [List.getElem?_set_ne hi] at h
      obtain ⟨h1, h2⟩ := wipe_some h
      exact ⟨h1, by simp only [List.mem_cons, not_or]; exact ⟨fun e => hi e.symm, h2⟩⟩
/-- the context of a block that starts at s, its iterator's objects at fp -/
abbrev Cx.blk (X : Cx) (s : Shared) (H : Hp) (scope : Scope) (cenv : Env) (fp : List Addr) : Cx := { X with s_0 := s, H_0 := H, env := cenv, outer := X.stack, ex := fp, fn := fun x => scope.names.lookup x == some .cell, pn := [], xe := fun _ _ => False }
section
variable {X : Cx} {pins : List (Addr × Obj)} {σ : St} {H : Hp} {s : Shared}
theorem block_start {scope : Scope} {own : List (Str × Nat)} {fp : List Addr} (I : Inv X pins σ H s) (ok : BlkOk X.N X.env.scope scope own) (hN : X.N.Nodup) (hfp : ∀ b ∈ fp, FpOk X pins H b ∧ b < s.heap.objs.size) :
    Inv (X.blk s H scope (compEnvC scope (cellsFrom (s.heap.objs.size + 1) scope.names (cloFrom X.env.cells scope.names [])) s.heap.objs.size X.env) fp) [] (wipe σ (own.map (·.2))) H { s with heap := pushCells (s.heap.push { cls := .type "dict", data := .dict #[] }) scope.names } := by
  have hfree : ∀ y ∈ scope.names, y.2 = .free → ∃ c, X.env.cells.lookup y.1 = some c := fun y hy e => by
    rcases ok.free y hy e with k | k
    · exact I.ok.has _ (.inl k)
    · exact I.ok.has _ (.inr k)
  generalize hcenv : compEnvC scope (cellsFrom (s.heap.objs.size + 1) scope.names (cloFrom X.env.cells scope.names [])) s.heap.objs.size X.env = cenv
  have kp : ∀ b o, s.heap.get? b = some o → (pushCells (s.heap.push { cls := .type "dict", data := .dict #[] }) scope.names).get? b = some o := fun b o e => pushCells_keeps _ _ _ _ (Heap.get?_push_of_some _ e)
  have hL : cenv.locals = s.heap.objs.size := by rw [← hcenv]; rfl
  have hcl : cenv.cells = cellsFrom (s.heap.objs.size + 1) scope.names (cloFrom X.env.cells scope.names []) := by rw [← hcenv]; rfl
  have hsc : cenv.scope = relS scope X.env.scope := by rw [← hcenv]; rfl
  rw [← Heap.size_push s.heap { cls := .type "dict", data := .dict #[] }] at hcl
  have cm : ∀ {y c}, (y, c) ∈ cloFrom X.env.cells scope.names [] → X.env.cells.lookup y = some c ∧ c < s.heap.objs.size := fun {y c} hm => by
    rcases cloFrom_mem hm with hm | ⟨h1, rfl⟩
    · cases hm
    · obtain ⟨c, hc⟩ := hfree _ h1 rfl
      rw [hc]
      obtain ⟨w, z⟩ := I.cell _ _ hc
      exact ⟨rfl, z.lt⟩
  have mem : ∀ {y c}, cenv.cells.lookup y = some c → (X.env.cells.lookup y = some c ∧ c < s.heap.objs.size) ∨ (s.heap.objs.size + 1 ≤ c ∧ CellAt (pushCells (s.heap.push { cls := .type "dict", data := .dict #[] }) scope.names) c none) := fun {y c} e => by
    rw [hcl] at e
    rcases cells_mem (PySem.mem_of_lookup e) with hm | ⟨_, h2, h3⟩
    · exact .inl (cm hm)
    · rw [Heap.size_push] at h2; exact .inr ⟨h2, h3⟩
  have look : ∀ {y}, scope.names.lookup y = some .free → ∃ c, cenv.cells.lookup y = some c ∧ X.env.cells.lookup y = some c := fun {y} hl => by
    have hy : (y, NameKind.free) ∈ scope.names := PySem.mem_of_lookup hl
    obtain ⟨c', e'⟩ := mem_lookup (cells_acc (names := scope.names) (n := (s.heap.push { cls := .type "dict", data := .dict #[] }).objs.size) (cloFrom_has (cells := X.env.cells) (acc := []) hy))
    rw [← hcl] at e'
    refine ⟨c', e', ?_⟩
    rw [hcl] at e'
    rcases cells_mem (PySem.mem_of_lookup e') with hm | ⟨h1, _, _⟩
    · exact (cm hm).1
    · have := ok.uniq _ h1
      rw [hl] at this; cases this
  have okB : (X.blk s H scope cenv fp).Ok := by
    refine ⟨I.ok.mod, by show cenv.scope.kind = _; rw [hsc]; exact ok.kind, by show cenv.globals = _; rw [← hcenv]; exact I.ok.glob, by show cenv.builtins = _; rw [← hcenv]; exact I.ok.blt, by show s.heap.objs.size ≤ cenv.locals; rw [hL]; exact Nat.le_refl _,
      fun y z c e1 e2 => ?_, fun y hy => ?_, fun y c z e => ?_, I.ok.hd, I.ok.frames, .inl rfl, fun b hb => ⟨?_, fun y c e z => ?_⟩, I.bs, Nat.le_trans I.ok.bsz I.sz, fun b o e hb => ?_, fun b hb z => ?_, I.stack, I.stkFree⟩
    · have e1 : cenv.cells.lookup y = some c := e1
      have e2 : cenv.cells.lookup z = some c := e2
      rw [hcl] at e1 e2
      refine cells_inj (fun p hp => ?_) (fun y z c a b => I.ok.inj y z c (cm a).1 (cm b).1) (PySem.mem_of_lookup e1) (PySem.mem_of_lookup e2)
      rw [Heap.size_push]
      exact Nat.lt_succ_of_lt (cm (y := p.1) (c := p.2) hp).2
    · show ∃ c, cenv.cells.lookup y = some c
      have key : ∀ k, cenv.kindOf y = some k → (k = .cell ∨ k = .free) → ∃ c, cenv.cells.lookup y = some c := fun k hk hk' => by
        unfold Env.kindOf at hk
        rw [hsc] at hk
        obtain ⟨k', e, r⟩ := lookup_relS hk
        have : k' = .cell ∨ k' = .free := by
          rcases r with rfl | ⟨rfl, _⟩
          · exact hk'
          · exact .inr rfl
        rcases this with rfl | rfl
        · obtain ⟨c, hm⟩ := cells_has (n := (s.heap.push { cls := .type "dict", data := .dict #[] }).objs.size) (acc := cloFrom X.env.cells scope.names []) (PySem.mem_of_lookup e)
          obtain ⟨c', e'⟩ := mem_lookup hm
          exact ⟨c', by rw [hcl]; exact e'⟩
        · obtain ⟨c, h1, _⟩ := look e
          exact ⟨c, h1⟩
      rcases hy with hy | hy
      · exact key _ hy (.inl rfl)
      · exact key _ hy (.inr rfl)
    · have z : (scope.names.lookup y == some NameKind.cell) = true := z
      have z : scope.names.lookup y = some .cell := by simpa using z
      have e : cenv.cells.lookup y = some c := e
      rw [hcl] at e
      rcases cells_mem (PySem.mem_of_lookup e) with hm | ⟨_, h2, _⟩
      · rcases cloFrom_mem hm with hm | ⟨h1, _⟩
        · cases hm
        · have q := ok.uniq _ h1
          rw [z] at q; cases q
      · rw [Heap.size_push] at h2
        exact Nat.le_of_succ_le h2
    · show b ≠ cenv.locals
      rw [hL]; exact Nat.ne_of_lt (hfp b hb).2
    · have e : cenv.cells.lookup y = some c := e
      rcases mem e with ⟨h1, _⟩ | ⟨h1, _⟩
      · exact (hfp b hb).1.2.2.2.2.1 y c h1 z
      · have h2 : s.heap.objs.size + 1 ≤ b := by rw [← z]; exact h1
        exact absurd (Nat.lt_of_lt_of_le (hfp b hb).2 (Nat.le_of_succ_le h2)) (Nat.lt_irrefl _)
    · rcases (hfp b hb).1.2.2.2.1 with z | z
      · exact I.ok.noex b o e z
      · exact absurd (Nat.lt_of_lt_of_le (Heap.lt_size e) (Nat.le_trans I.ok.bsz z)) (Nat.lt_irrefl _)
    · rcases List.mem_cons.mp (I.stkSub b z) with z | z
      · exact (hfp b hb).1.2.1 z
      · exact (hfp b hb).1.2.2.1 z
  refine ⟨okB, rfl, I.bare, Un.kept kp, ⟨fun _ => none, ?_, fun i y av e1 e2 e3 => ?_⟩, fun y c e => ?_, ?_, fun y c e => ?_, fun p hp => ?_, I.hok.kept kp, by rw [wipe_length]; exact I.len⟩
  · show Heap.Ns _ cenv.locals _
    rw [hL]
    exact Heap.Ns.keeps (Heap.Ns.new ..) fun b o e => pushCells_keeps _ _ _ _ e
  · obtain ⟨e2, hne⟩ := wipe_some e2
    have hfr : scope.names.lookup y = some .free ∧ (cenv.kindOf y = some .cell ∨ cenv.kindOf y = some .free) := by
      have key : ∀ k, cenv.scope.names.lookup y = some k → k = .local ∨ k = .cell ∨ k = .free → scope.names.lookup y = some .free ∧ (cenv.kindOf y = some .cell ∨ cenv.kindOf y = some .free) := fun k hk hk' => by
        have hk0 := hk
        rw [hsc] at hk
        obtain ⟨k', e, r⟩ := lookup_relS hk
        have no : ¬ (k' = .local ∨ k' = .cell) := fun hh => by
          rcases ok.own _ (PySem.mem_of_lookup e) hh with e' | e'
          · obtain ⟨p, hp, hpy⟩ := List.mem_map.mp e'
            have e3 := ok.ix p hp
            have : p.1 = y := hpy
            rw [this] at e3
            exact hne (List.mem_map.mpr ⟨p, hp, nodup_ix hN e3 e1⟩)
          · exact e' (List.mem_of_getElem? e1)
        rcases r with rfl | ⟨rfl, rfl⟩
        · rcases hk' with rfl | rfl | rfl
          · exact absurd (.inl rfl) no
          · exact absurd (.inr rfl) no
          · exact ⟨e, .inr hk0⟩
        · exact ⟨e, .inl hk0⟩
      have e3 : Vis cenv.scope y := e3
      rcases e3 with e3 | e3 | e3
      · exact key _ e3 (.inl rfl)
      · exact key _ e3 (.inr (.inl rfl))
      · exact key _ e3 (.inr (.inr rfl))
    obtain ⟨m, hn, hl⟩ := I.loc
    have hvis : Vis X.env.scope y := (ok.free _ (PySem.mem_of_lookup hfr.1) rfl).elim (fun k => .inr (.inl k)) (fun k => .inr (.inr k))
    obtain ⟨w, r, q⟩ := hl i y av e1 e2 hvis
    refine ⟨w, r, .inr ⟨hfr.2, ?_⟩⟩
    obtain ⟨c, h1, h2⟩ := look hfr.1
    rcases q with ⟨k, _⟩ | ⟨_, c', e', z⟩
    · have k : X.env.scope.names.lookup y = some .local := k
      rcases ok.free _ (PySem.mem_of_lookup hfr.1) rfl with k' | k' <;> rw [show X.env.scope.names.lookup y = _ from k'] at k <;> cases k
    · rw [h2] at e'; cases e'
      exact ⟨c, h1, z.keeps kp⟩
  · have e : cenv.cells.lookup y = some c := e
    rcases mem e with ⟨h1, _⟩ | ⟨_, z⟩
    · obtain ⟨w, z⟩ := I.cell y c h1
      exact ⟨w, z.keeps kp⟩
    · exact ⟨_, z⟩
  · show H cenv.locals = none
    rw [hL]; exact I.hok.fresh (Nat.le_refl _)
  · have e : cenv.cells.lookup y = some c := e
    rcases mem e with ⟨h1, _⟩ | ⟨h1, _⟩
    · exact I.freeC y c h1
    · exact I.hok.fresh (Nat.le_of_succ_le h1)
  · exact absurd (show p ∈ ([] : List (Addr × Obj)) ++ [] from hp) (by simp)
/-- an item appended to a tracked list -/
theorem app_ok {E : Value → Shared → Prop} {D : Addr} {xs : List V} {y : V} {v : Value} {Q : Value → Shared → Prop} (I : Inv X pins σ H s) (hD : H D = some (.lst xs)) (hz : xs.length < sizeLine) (r : RelV y v)
    (h : ∀ s', Inv X pins σ (upd H D (.lst (xs ++ [y]))) s' → Q .none s') : wpAny (model X.prog X.w) X.A (call (.builtin "list.append") [.ref D, v]) Q E s := by
  obtain ⟨hz', its, n, ri, e⟩ := I.hok D _ hD
  have hl := ri.length
  refine append_at (hsz := by rw [List.size_toArray]; omega) e fun h' sb ho' => ?_
  refine h { s with heap := h' } (I.write (t' := s.toks) (by rw [hD]; trivial) (.inl rfl) (fun b u hb q => (sb.2 b hb).trans q) ⟨_, ho'⟩ ⟨by rw [List.length_append]; exact hz, its ++ [v], n + 1, ri.append (.cons r .nil), ?_⟩)
  rw [ho']
  simp
/-- a clause's tests -/
def PTs (X : Cx) (ifs : List Expr) (t : TT) : Prop :=
  ∀ (pins : List (Addr × Obj)) (s : Shared) (σ : St) (H : Hp) (Q : Bool → Hp → Prop), Inv X pins σ H s → t σ H Q →
    wpAny (model X.prog X.w) X.A (forIn ifs true fun c r => if r = true then do let ok ← isTrue c X.env (eval c X.env); pure (ForInStep.yield ok) else pure (ForInStep.yield r)) (TP X pins σ Q) X.xe s
def tYes : TT := fun _ H Q => Q true H
theorem pts_nil : PTs X [] tYes := fun _ _ _ H _ I h => wpAny_tests_nil ⟨H, I, h⟩
theorem pts_one {c : Expr} {t : TT} (h : PT X c t) : PTs X [c] t := fun pins s σ H Q I hw => wpAny_tests_one (h pins s σ H Q I hw)
end
theorem thnF {α : Type} {t : Sem α} {Q Q' : α → Shared → Prop} {M : Model} {A : Around} {E : Value → Shared → Prop} {s : Shared} (h : wpAny M A t Q (fun _ _ => False) s) (hQ : ∀ a s, Q a s → Q' a s) : wpAny M A t Q' E s := wpAny_mono h hQ fun _ _ z => False.elim z
/-- the loop of a list comprehension's block, the target of any form (codeAny_compLoop_tests asks a target that no tuple goes to; statement and proof follow it, PyProof/CompMap.lean:41-61, with the step letOwnedTupleGo kept) -/
theorem compLoop_any {prog : Program} {w : World} {A : Around} {R : Result → Shared → Prop} {s : Shared} {elt target iter : Expr} {ifs : List Expr} {scope : Scope} {pos : Pos} {it acc : Value} {env : Env} (I : Nat → Shared → Prop)
    (turn : ∀ n s, I n s → wpAny (model prog w) A (pyNext it) (fun r s₁ => match r with
      | none => R (.ok .next) s₁
      | some v => wpAny (model prog w) A (letOwnedTupleGo target it v) (fun _ s₁' => wpAny (model prog w) A (assign target env v) (fun _ s₂ =>
          wpAny (model prog w) A (forIn ifs true fun c r => if r = true then do let ok ← isTrue c env (eval c env); pure (ForInStep.yield ok) else pure (ForInStep.yield r)) (fun ok s₃ =>
            if ok = true then wpAny (model prog w) A (eval elt env) (fun x s₄ =>
              wpAny (model prog w) A (call (.builtin "list.append") [acc, x]) (fun _ s₅ => ∃ m, m < n ∧ I m s₅) (notedBy (model prog w) A env fun e s' => R (.error e) s') s₄) (notedBy (model prog w) A env fun e s' => R (.error e) s') s₃
            else ∃ m, m < n ∧ I m s₃) (notedBy (model prog w) A env fun e s' => R (.error e) s') s₂) (notedBy (model prog w) A env fun e s' => R (.error e) s') s₁') (notedBy (model prog w) A env fun e s' => R (.error e) s') s₁) (notedBy (model prog w) A env fun e s' => R (.error e) s') s)
    (n : Nat) (h : I n s) :
    codeAny (model prog w) A (.compLoop (.ListComp elt [⟨target, iter, ifs, 0⟩] scope pos) 0 it acc env) R s := by
  refine codeAny_loop rfl I (fun n s hI => ?_) n h
  show wpAny _ A ((compTurn (.ListComp elt [⟨target, iter, ifs, 0⟩] scope pos) 0 it acc env).onRaise (fun x => do noteFrame x env; theTreesLotGoes x)) _ _ s
  refine wpAny_noted ?_
  rw [compTurn_list]
  refine wpAny_bind (wpAny_standAt (wpAny_bind (wpAny_mono (turn n s hI) (fun r s₁ h₁ => ?_) fun _ _ h' => h')))
  cases r with
  | none => exact wpAny_pure h₁
  | some v =>
    refine wpAny_bind (wpAny_mono h₁ (fun _ s₁' h₁' => ?_) fun _ _ h' => h')
    refine wpAny_bind (wpAny_mono h₁' (fun _ s₂ h₂ => wpAny_bind (wpAny_mono h₂ (fun ok s₃ h₃ => ?_) fun _ _ h' => h')) fun _ _ h' => h')
    cases ok with
    | false => exact wpAny_pure ⟨rfl, h₃⟩
    | true =>
      exact wpAny_bind (wpAny_bind (wpAny_mono h₃ (fun x s₄ h₄ => wpAny_bind (wpAny_mono h₄ (fun _ s₅ h₅ => wpAny_pure (wpAny_pure ⟨rfl, h₅⟩)) fun _ _ h' => h')) fun _ _ h' => h'))
section
variable {X : Cx}
/-- [elt for target in iter if ..]: D the new list; W by the turn and a measure, Nx what a turn is to reach -/
def tLc (wi : TI) (g : TG) (tt : TT) (te : TE) (vs : List Nat) : TE := fun σ H Q => wi σ H fun J H1 => ∀ D, H1 D = none → ∃ W : Nat → Nat → Hp → Prop, (∃ m, W 0 m (upd H1 D (.lst []))) ∧ ∀ i m H, W i m H →
  (J.stop i H ∧ Q (.ref D) H) ∨ (J.go i H ∧ ∃ Nx : Hp → Prop, (∀ H', Nx H' → ∃ m', m' < m ∧ W (i + 1) m' H') ∧ ∀ x H', J.yld i H x H' → g x (wipe σ vs) H' fun σ2 H2 => wipe σ2 vs = wipe σ vs ∧ tt σ2 H2 fun b H3 =>
    if b = true then te σ2 H3 fun y H4 => ∃ acc, H4 D = some (.lst acc) ∧ acc.length < sizeLine ∧ Nx (upd H4 D (.lst (acc ++ [y]))) else Nx H3)
theorem lc_core {pins : List (Addr × Obj)} {s : Shared} {σ : St} {H : Hp} {Q : VK} {elt tg iter : Expr} {ifs : List Expr} {scope : Scope} {own : List (Str × Nat)} {pos pos' : Pos} {wi : TI} {g : TG} {tt : TT} {te : TE} {use : Option (Value → Sem Unit)} {Qf : Value → Shared → Prop}
    (hc : X.calm = true) (hN : X.N.Nodup) (I : Inv X pins σ H s) (hi : PI X tg iter wi) (ok : BlkOk X.N X.env.scope scope own)
    (hg : ∀ (s : Shared) (H : Hp) (C : Addr) (cl : List (Str × Addr)) (fp : List Addr), PG (X.blk s H scope (compEnvC scope cl C X.env) fp) tg g) (ht : ∀ (s : Shared) (H : Hp) (C : Addr) (cl : List (Str × Addr)) (fp : List Addr), PTs (X.blk s H scope (compEnvC scope cl C X.env) fp) ifs tt)
    (he : ∀ (s : Shared) (H : Hp) (C : Addr) (cl : List (Str × Addr)) (fp : List Addr), PE (X.blk s H scope (compEnvC scope cl C X.env) fp) elt te) (hs : ∀ x, foldedSetIterable iter X.env x = pure x)
    (h : tLc wi g tt te (own.map (·.2)) σ H Q)
    (hRR : ∀ D C s' m H', Inv X pins σ H' s' → Q (.ref D) H' → s'.heap.Ns C m → FpOk X pins H' C → compPost (model X.prog X.w) X.A X.xe use Qf (.ref D) C (.ok .next) s') :
    wpAny (model X.prog X.w) X.A (comprehension (.ListComp elt [⟨tg, iter, ifs, 0⟩] scope pos) scope X.env pos' (newList []) false (eval iter X.env) use) Qf X.xe s := by
  have hfree : ∀ y ∈ scope.names, y.2 = .free → ∃ c, X.env.cells.lookup y.1 = some c := fun y hy e => by
    rcases ok.free y hy e with k | k
    · exact I.ok.has _ (.inl k)
    · exact I.ok.has _ (.inr k)
  refine wpAny_comprehension_free (use := use) rfl hs (closure_ok hfree) ok.kind (fun y hy e => by rw [ok.uniq y hy, e])
    (thn (hi pins s σ H _ I h) fun xv s1 hx => thn hx fun itv s2 h2 => ?_)
  obtain ⟨it, fp, tn, J, H2, e, I2, T, st2, f2, q⟩ := h2
  subst e
  refine wpAny_newObj_type (newEnv_comp ?_) (by show 0 ≤ sizeLine; decide)
  generalize hD : s2.heap.objs.size = D
  have hDn : H2 D = none := I2.hok.fresh (Nat.le_of_eq hD)
  obtain ⟨W, ⟨m0, w0⟩, turn⟩ := q D hDn
  -- the new list
  generalize hs3 : ({ s2 with heap := s2.heap.push { cls := .type "list", data := .seq ([] : List Value).toArray } } : Shared) = s3
  have I3 : Inv X pins σ (upd H2 D (.lst [])) s3 := by
    rw [← hs3]
    refine I2.laid (t' := s2.toks) (fun b o e => Heap.get?_push_of_some _ e) (Nat.le_of_eq hD) ⟨Nat.zero_le _, [], 0, .nil, ?_⟩
    rw [← hD]
    exact Heap.get?_push_size _ rfl
  have h3 : s3.heap = s2.heap.push { cls := .type "list", data := .seq ([] : List Value).toArray } := by rw [← hs3]
  have sz : ∀ b ∈ fp, b < s2.heap.objs.size := fun b hb => by
    obtain ⟨o, e, _⟩ := T.obj _ _ st2 b hb
    exact Heap.lt_size e
  have f3 : ∀ b ∈ fp, FpOk X pins (upd H2 D (.lst [])) b ∧ b < s3.heap.objs.size := fun b hb => by
    have hlt := sz b hb
    refine ⟨⟨?_, (f2 b hb).2⟩, by rw [h3, Heap.size_push]; exact Nat.lt_succ_of_lt hlt⟩
    rw [upd_ne (by rw [← hD]; exact Nat.ne_of_lt hlt)]
    exact (f2 b hb).1
  have st3 : tn 0 s3.heap := T.keep _ _ _ st2 fun b _ o e => by rw [h3]; exact Heap.get?_push_of_some _ e
  have I4 := block_start I3 ok hN f3
  have pg := hg s3 (upd H2 D (.lst [])) s3.heap.objs.size (cellsFrom (s3.heap.objs.size + 1) scope.names (cloFrom X.env.cells scope.names [])) fp
  have pt := ht s3 (upd H2 D (.lst [])) s3.heap.objs.size (cellsFrom (s3.heap.objs.size + 1) scope.names (cloFrom X.env.cells scope.names [])) fp
  have pe := he s3 (upd H2 D (.lst [])) s3.heap.objs.size (cellsFrom (s3.heap.objs.size + 1) scope.names (cloFrom X.env.cells scope.names [])) fp
  show codeAny _ _ (.compStart (.ListComp elt [⟨tg, iter, ifs, 0⟩] scope pos) 0 (.ref it) (.ref D) (compEnvC scope (cellsFrom (s3.heap.objs.size + 1) scope.names (cloFrom X.env.cells scope.names [])) s3.heap.objs.size X.env)) (compPost (model X.prog X.w) X.A X.xe use Qf (.ref D) s3.heap.objs.size) { s3 with heap := pushCells (s3.heap.push { cls := .type "dict", data := .dict #[] }) scope.names }
  have nfp : ∀ b ∈ fp, (upd H2 D (.lst [])) b = none := fun b hb => (f3 b hb).1.1
  generalize hce : compEnvC scope (cellsFrom (s3.heap.objs.size + 1) scope.names (cloFrom X.env.cells scope.names [])) s3.heap.objs.size X.env = ce at I4 pg pt pe ⊢
  have cL : ce.locals = s3.heap.objs.size := by subst hce; rfl
  generalize hH3 : upd H2 D (.lst []) = H3 at I3 I4 pg pt pe w0 nfp f3
  generalize hs4 : ({ s3 with heap := pushCells (s3.heap.push { cls := .type "dict", data := .dict #[] }) scope.names } : Shared) = s4 at I4 ⊢
  have st4 : tn 0 s4.heap := T.keep _ _ _ st3 fun b _ o e => by rw [← hs4]; exact pushCells_keeps _ _ _ _ (Heap.get?_push_of_some _ e)
  have stat : ∀ {σ' : St} {H' : Hp} {s' : Shared}, Inv (X.blk s3 H3 scope ce fp) [] σ' H' s' → (∀ b ∈ fp, H' b = none) → ∀ b ∈ fp, FpOk (X.blk s3 H3 scope ce fp) [] H' b := fun {σ' H' s'} I' hn b hb =>
    ⟨hn b hb, (I'.ok.exf b hb).1, I'.ok.exfs b hb, .inl hb, fun x c e => (I'.ok.exf b hb).2 x c e, fun p hp => absurd (show p ∈ ([] : List (Addr × Obj)) ++ [] from hp) (by simp)⟩
  have loop : codeAny (model X.prog X.w) X.A (.compLoop (.ListComp elt [⟨tg, iter, ifs, 0⟩] scope pos) 0 (.ref it) (.ref D) ce) (compPost (model X.prog X.w) X.A X.xe use Qf (.ref D) s3.heap.objs.size) s4 := by
    refine compLoop_any (fun n s' => ∃ i H', Inv (X.blk s3 H3 scope ce fp) [] (wipe σ (own.map (·.2))) H' s' ∧ tn i s'.heap ∧ (∀ b ∈ fp, H' b = none) ∧ W i n H') ?_ m0 ⟨0, H3, I4, st4, nfp, w0⟩
    rintro n s5 ⟨i, H5, I5, st5, n5, w5⟩
    rcases turn i n H5 w5 with ⟨stop, qq⟩ | ⟨go, Nx, hNx, step⟩
    · have td := T.done (X.blk s3 H3 scope ce fp) rfl rfl rfl hc i [] s5 _ H5 (fun _ _ => False) I5 (stat I5 n5) st5 stop
      refine thnF td fun r s6 ⟨hr, I6⟩ => ?_
      subst hr
      -- back in the def's context
      have I7 : Inv X pins σ H5 s6 := I3.call' (ch := fp) I6.os I6.base I6.hok I6.bare fun b hb => ⟨(f3 b hb).1.2.2.2.1, (f3 b hb).1.2.1, (f3 b hb).1.2.2.2.2.1, (f3 b hb).1.2.2.2.2.2⟩
      have nC : H5 s3.heap.objs.size = none := by
        have z : H5 ce.locals = none := I6.free
        rw [cL] at z
        exact z
      obtain ⟨m, hn, _⟩ := I6.loc
      have hn : s6.heap.Ns ce.locals m := hn
      rw [cL] at hn
      exact hRR D s3.heap.objs.size s6 m H5 I7 qq hn (I3.fpOk (Nat.le_refl _) nC)
    · have ti := T.item (X.blk s3 H3 scope ce fp) rfl rfl rfl hc i [] s5 _ H5 (fun _ _ => False) I5 (stat I5 n5) st5 go
      refine thnF ti fun r s6 ⟨u, hr, h6⟩ => ?_
      subst hr
      refine thnF h6 fun _ s7 ⟨x, H7, I7, r7, y7, st7, n7⟩ => ?_
      have I7' := I7.pinned (stat I7 n7) (T.obj _ _ st7)
      refine thnF (pg _ s7 _ H7 x u _ I7' r7 (step x H7 y7)) fun _ s8 ⟨σ8, H8, I8, hw8, q8⟩ => ?_
      refine thnF (pt _ s8 σ8 H8 _ I8 q8) fun b s9 ⟨H9, I9, q9⟩ => ?_
      -- the turn's end
      have fin : ∀ {s' : Shared} {H' : Hp}, Inv (X.blk s3 H3 scope ce fp) ([] ++ pinsAt fp s7.heap) σ8 H' s' → Nx H' → ∃ m, m < n ∧ ∃ i H', Inv (X.blk s3 H3 scope ce fp) [] (wipe σ (own.map (·.2))) H' s' ∧ tn i s'.heap ∧ (∀ b ∈ fp, H' b = none) ∧ W i m H' := fun {s' H'} I' nx => by
        obtain ⟨m', hm, w'⟩ := hNx H' nx
        have pin' : ∀ b ∈ fp, ∀ o, s7.heap.get? b = some o → s'.heap.get? b = some o ∧ H' b = none := fun b hb o e =>
          let z := I'.pin (b, o) (List.mem_append_right _ (List.mem_append_right _ (mem_pinsAt hb e)))
          ⟨z.1, z.2.1⟩
        have hl : (wipe σ (own.map (·.2))).length = σ8.length := by rw [← hw8, wipe_length]
        refine ⟨m', hm, i + 1, H', (I'.unpinned (pins := [])).weak hl (fun j v e => ?_), T.keep _ _ _ st7 fun b hb o e => (pin' b hb o e).1, fun b hb => ?_, w'⟩
        · rw [← hw8] at e
          exact (wipe_some e).1
        · obtain ⟨o, e, _⟩ := T.obj _ _ st7 b hb
          exact (pin' b hb o e).2
      cases b with
      | false =>
        simp only [Bool.false_eq_true, if_false] at q9 ⊢
        exact fin I9 q9
      | true =>
        simp only [if_true] at q9 ⊢
        refine thnF (pe _ s9 σ8 H9 _ I9 q9) fun z s10 ⟨yv, H10, I10, r10, acc, hD10, hz10, nx⟩ => ?_
        exact app_ok (X := X.blk s3 H3 scope ce fp) I10 hD10 hz10 r10 fun s11 I11 => fin I11 nx
  exact codeAny_compStart_list loop (T.self X.A 0 _ _ _ st4 loop)
/-- as a value -/
theorem pe_lc {elt tg iter : Expr} {ifs : List Expr} {scope : Scope} {own : List (Str × Nat)} {pos : Pos} {wi : TI} {g : TG} {tt : TT} {te : TE} (hc : X.calm = true) (hN : X.N.Nodup) (hi : PI X tg iter wi) (ok : BlkOk X.N X.env.scope scope own)
    (hg : ∀ (s : Shared) (H : Hp) (C : Addr) (cl : List (Str × Addr)) (fp : List Addr), PG (X.blk s H scope (compEnvC scope cl C X.env) fp) tg g) (ht : ∀ (s : Shared) (H : Hp) (C : Addr) (cl : List (Str × Addr)) (fp : List Addr), PTs (X.blk s H scope (compEnvC scope cl C X.env) fp) ifs tt)
    (he : ∀ (s : Shared) (H : Hp) (C : Addr) (cl : List (Str × Addr)) (fp : List Addr), PE (X.blk s H scope (compEnvC scope cl C X.env) fp) elt te) (hs : ∀ x, foldedSetIterable iter X.env x = pure x := by intro _; rfl) :
    PE X (.ListComp elt [⟨tg, iter, ifs, 0⟩] scope pos) (tLc wi g tt te (own.map (·.2))) := by
  intro pins s σ H Q I h
  rw [eval_ListComp]
  refine lc_core hc hN I hi ok hg ht he hs h fun D C s' m H' I' q hn f => ⟨m, hn, fun h'' sb => ?_⟩
  obtain ⟨f0, f1, f2, f3, f4, f5⟩ := f
  exact ⟨.ref D, H', I'.turned (t' := s'.toks) (fun b o hb e => (sb.2 b hb).trans e) f0 f1 f3 f4 f5, rfl, q⟩
/-- name = [..] on one line, the name a local -/
theorem ps_setLc {i : Nat} {y : Str} {py : Pos} {elt tg iter : Expr} {ifs : List Expr} {scope : Scope} {own : List (Str × Nat)} {pos spos : Pos} {wi : TI} {g : TG} {tt : TT} {te : TE} (hc : X.calm = true) (hN : X.N.Nodup) (hy : X.N[i]? = some y) (hyl : X.env.scope.names.lookup y = some .local)
    (hsw : swapsWith (.ListComp elt [⟨tg, iter, ifs, 0⟩] scope pos) (some (.Name y py)) spos.line X.env = pure true) (hi : PI X tg iter wi) (ok : BlkOk X.N X.env.scope scope own)
    (hg : ∀ (s : Shared) (H : Hp) (C : Addr) (cl : List (Str × Addr)) (fp : List Addr), PG (X.blk s H scope (compEnvC scope cl C X.env) fp) tg g) (ht : ∀ (s : Shared) (H : Hp) (C : Addr) (cl : List (Str × Addr)) (fp : List Addr), PTs (X.blk s H scope (compEnvC scope cl C X.env) fp) ifs tt)
    (he : ∀ (s : Shared) (H : Hp) (C : Addr) (cl : List (Str × Addr)) (fp : List Addr), PE (X.blk s H scope (compEnvC scope cl C X.env) fp) elt te) (hs : ∀ x, foldedSetIterable iter X.env x = pure x := by intro _; rfl) :
    PS X (.Assign [.Name y py] (.ListComp elt [⟨tg, iter, ifs, 0⟩] scope pos) spos) (tAsg (tLc wi g tt te (own.map (·.2))) (gName i)) := by
  intro pins s σ H D I h
  rw [exec_Assign_Name_used _ _ _ _ hsw]
  refine wpAny_bind (wpAny_standAt (wpAny_bind ?_))
  show wpAny _ X.A (do let _ ← comprehension (.ListComp elt [⟨tg, iter, ifs, 0⟩] scope pos) scope X.env (firstIterPos [⟨tg, iter, ifs, 0⟩] pos) (newList []) false (eval iter X.env) (some (assign (.Name y py) X.env))) _ _ s
  have h : tLc wi g tt te (own.map (·.2)) σ H (fun x H1 => gName i x σ H1 D.nx) := h
  refine wpAny_bind (thn (lc_core (Qf := fun _ s' => SP X pins D .next s') hc hN I hi ok hg ht he hs h fun L C s' m H' I' q hn f => ?_) fun _ s' hq => wpAny_pure (wpAny_pure hq))
  show wpAny _ _ (assign (.Name y py) X.env (.ref L)) _ _ _
  refine wpAny_assign_Name (store_ok2 (v := V.ref L) I' hN hy (.inl hyl) rfl (fun s2 I2 ⟨a, sb, ha⟩ => ?_) (.inr hyl))
  obtain ⟨f0, f1, f2, f3, f4, f5⟩ := f
  have haC : C ≠ a := by
    rcases ha with z | z
    · rw [z]; exact f1
    · exact fun e => f4 y a z e.symm
  refine ⟨m, hn.sameBut sb haC, fun h3 sb3 => ?_⟩
  exact ⟨_, H', I2.turned (t' := s2.toks) (fun b o hb e => (sb3.2 b hb).trans e) f0 f1 f3 f4 f5, q⟩
theorem sw_true {elt : Expr} {gs : List Comprehension} {scope : Scope} {pos py : Pos} {y : Str} {l : Nat} {env : Env} (hk : env.scope.kind = .function) (hy : env.scope.names.lookup y = some .local) (hl : (py.line == pos.line) = true)
    (ha : (scope.names.any fun (n, k) => n == y && (k == .local || k == .cell)) = false) : swapsWith (.ListComp elt gs scope pos) (some (.Name y py)) l env = pure true := by
  have ky : env.kindOf y = some .local := hy
  have hb : env.blockKind = .function := by unfold Env.blockKind; rw [hk]; rfl
  unfold swapsWith
  simp only [hb, ky, ha, Expr.pos, hl]
  rfl
end
/-! ### the forms one uses -/
/-- over a range: Pv by the turn and the heap (the new list at D within) -/
theorem lc_range {lo : Int} {n : Nat} {g : TG} {tt : TT} {te : TE} {vs : List Nat} {σ : St} {H1 : Hp} {D : Addr} {Qd : Hp → Prop} (Pv : Nat → Hp → Prop) (h0 : Pv 0 (upd H1 D (.lst [])))
    (hs : ∀ i H, i < n → Pv i H → g (.int (lo + i)) (wipe σ vs) H fun σ2 H2 => wipe σ2 vs = wipe σ vs ∧ tt σ2 H2 fun b H3 =>
      if b = true then te σ2 H3 fun y H4 => ∃ acc, H4 D = some (.lst acc) ∧ acc.length < sizeLine ∧ Pv (i + 1) (upd H4 D (.lst (acc ++ [y]))) else Pv (i + 1) H3) (hd : ∀ H, Pv n H → Qd H) :
    ∃ W : Nat → Nat → Hp → Prop, (∃ m, W 0 m (upd H1 D (.lst []))) ∧ ∀ i m H, W i m H →
      ((Itr lo n).stop i H ∧ Qd H) ∨ ((Itr lo n).go i H ∧ ∃ Nx : Hp → Prop, (∀ H', Nx H' → ∃ m', m' < m ∧ W (i + 1) m' H') ∧ ∀ x H', (Itr lo n).yld i H x H' → g x (wipe σ vs) H' fun σ2 H2 => wipe σ2 vs = wipe σ vs ∧ tt σ2 H2 fun b H3 =>
        if b = true then te σ2 H3 fun y H4 => ∃ acc, H4 D = some (.lst acc) ∧ acc.length < sizeLine ∧ Nx (upd H4 D (.lst (acc ++ [y]))) else Nx H3) := by
  refine ⟨fun i m H => m = n - i ∧ i ≤ n ∧ Pv i H, ⟨n, by simp, Nat.zero_le _, h0⟩, ?_⟩
  rintro i m H ⟨rfl, hi, p⟩
  by_cases hlt : i < n
  · refine .inr ⟨hlt, Pv (i + 1), fun H' p' => ⟨n - (i + 1), by omega, rfl, hlt, p'⟩, fun x H' y => ?_⟩
    obtain ⟨e, y⟩ := y
    subst e y
    exact hs i _ hlt p
  · have e : i = n := by omega
    subst e
    exact .inl ⟨Nat.le_refl _, hd H p⟩
/-- over a list that the block leaves as it is -/
theorem lc_list {K : PySem.W.Frag} {a : Addr} {xs : List V} {g : TG} {tt : TT} {te : TE} {vs : List Nat} {σ : St} {H1 : Hp} {D : Addr} {Qd : Hp → Prop} (Pv : Nat → Hp → Prop) (h0 : Pv 0 (upd H1 D (.lst []))) (hl : ∀ i H, i ≤ xs.length → Pv i H → SqL K H a xs)
    (hs : ∀ i x H, xs[i]? = some x → Pv i H → g x (wipe σ vs) H fun σ2 H2 => wipe σ2 vs = wipe σ vs ∧ tt σ2 H2 fun b H3 =>
      if b = true then te σ2 H3 fun y H4 => ∃ acc, H4 D = some (.lst acc) ∧ acc.length < sizeLine ∧ Pv (i + 1) (upd H4 D (.lst (acc ++ [y]))) else Pv (i + 1) H3) (hd : ∀ H, Pv xs.length H → Qd H) :
    ∃ W : Nat → Nat → Hp → Prop, (∃ m, W 0 m (upd H1 D (.lst []))) ∧ ∀ i m H, W i m H →
      ((Itl K a).stop i H ∧ Qd H) ∨ ((Itl K a).go i H ∧ ∃ Nx : Hp → Prop, (∀ H', Nx H' → ∃ m', m' < m ∧ W (i + 1) m' H') ∧ ∀ x H', (Itl K a).yld i H x H' → g x (wipe σ vs) H' fun σ2 H2 => wipe σ2 vs = wipe σ vs ∧ tt σ2 H2 fun b H3 =>
        if b = true then te σ2 H3 fun y H4 => ∃ acc, H4 D = some (.lst acc) ∧ acc.length < sizeLine ∧ Nx (upd H4 D (.lst (acc ++ [y]))) else Nx H3) := by
  refine ⟨fun i m H => m = xs.length - i ∧ i ≤ xs.length ∧ Pv i H, ⟨xs.length, by simp, Nat.zero_le _, h0⟩, ?_⟩
  rintro i m H ⟨rfl, hi, p⟩
  have q := hl i H hi p
  by_cases hlt : i < xs.length
  · refine .inr ⟨⟨xs, xs[i], q, by simp [hlt]⟩, Pv (i + 1), fun H' p' => ⟨xs.length - (i + 1), by omega, rfl, hlt, p'⟩, fun x H' y => ?_⟩
    obtain ⟨e, y⟩ := y
    subst e
    exact hs i x _ (y xs q) p
  · have e : i = xs.length := by omega
    subst e
    exact .inl ⟨⟨xs, q, Nat.le_refl _⟩, hd H p⟩
def blkC (N : List Str) (sc scope : Scope) (own : List (Str × Nat)) : Bool :=
  (match scope.kind with | .function => true | _ => false) && (scope.names.all fun y => decide (scope.names.lookup y.1 = some y.2)) && (own.all fun p => decide (N[p.2]? = some p.1)) &&
    (scope.names.all fun y => match y.2 with
      | .free => (match sc.names.lookup y.1 with | some .cell => true | some .free => true | _ => false)
      | .local => decide (y.1 ∈ own.map (·.1)) || decide (y.1 ∉ N)
      | .cell => decide (y.1 ∈ own.map (·.1)) || decide (y.1 ∉ N)
      | _ => true)
theorem blkOk_by {N : List Str} {sc scope : Scope} {own : List (Str × Nat)} (h : blkC N sc scope own = true) : BlkOk N sc scope own := by
  unfold blkC at h
  simp only [Bool.and_eq_true, List.all_eq_true, decide_eq_true_eq] at h
  obtain ⟨⟨⟨h1, h2⟩, h3⟩, h4⟩ := h
  refine ⟨?_, h2, h3, fun y hy e => ?_, fun y hy e => ?_⟩
  · split at h1
    · assumption
    · cases h1
  · have q := h4 y hy
    simp only [e] at q
    split at q <;> first | exact .inl (by assumption) | exact .inr (by assumption) | cases q
  · have q := h4 y hy
    rcases e with e | e <;> (simp only [e, Bool.or_eq_true, decide_eq_true_eq] at q; exact q)
end L2
namespace L2
open PySem PySem.Spec PyProof.Rows
section
variable {prog : Program} {w : World} {A : Around} {R : Result → Shared → Prop} {s : Shared} {elt t0 i0 t1 i1 : Expr} {ifs0 ifs1 : List Expr} {scope : Scope} {pos : Pos} {it acc : Value} {env : Env}
end
section
variable {X : Cx}
end
end L2
namespace L2
open PySem PySem.Spec PyProof.Rows
/-! ### lists of pairs as tables -/
section
variable {κ : Type} [DecidableEq κ]
end
/-! ### a tracked dict, its keys ints and texts or tuples of these -/
section
variable {P : Program} {w : World} {H : Hp} {h : Heap} {a : Addr}
end
section
variable {X : Cx} {pins : List (Addr × Obj)} {σ : St} {H : Hp} {s : Shared} {a : Addr} {y v : V} {u r : Value} {o : Option V} {A : Around} {E : Value → Shared → Prop}
end
section
variable {X : Cx} {pins : List (Addr × Obj)} {σ : St} {H : Hp} {s : Shared} {a : Addr} {kvs : List (Key × V)} {k : Key} {u : Value} {A : Around} {E : Value → Shared → Prop}
end
/-! ### readings and rules -/
/-- the element of a subscription, not a slice -/
def NoSl (i : Expr) : Prop := ∀ ov iv, subscripted i false ov iv = operate [ov, iv] (getItem ov iv)
theorem subD_of {prog : Program} {w : World} {A : Around} {E : Value → Shared → Prop} {s : Shared} {env : Env} {value slice : Expr} {pos : Pos} {T id : String} {Q : Value → Shared → Prop}
    (hl : typeLookup (.type T) "__getitem__" = pure (some (.builtin id))) (hs : NoSl slice)
    (h : wpAny (model prog w) A (eval value env) (fun o s₁ => wpAny (model prog w) A (eval slice env) (fun i s₂ => s₂.TypeIs o T ∧ wpAny (model prog w) A (getItem o i) Q E s₂) E s₁) E s) :
    wpAny (model prog w) A (eval (.Subscript value slice pos) env) Q E s := by
  refine Subscript_ (wpAny_mono h (fun o s₁ h₁ => wpAny_mono h₁ (fun i s₂ h₂ => ?_) fun _ _ x => x) fun _ _ x => x)
  obtain ⟨hT, h₂⟩ := h₂
  unfold subscriptTail
  refine wpAny_bind ?_
  rw [getitemInPython_of_ne hT.not_modules]
  refine wpAny_bind (wpAny_specialOf hT hl ?_)
  have fin : wpAny (model prog w) A (subscripted slice false o i) (fun r s₃ => wpAny (model prog w) A (letTemporaryGo value o r >>= fun _ => pure r) Q E s₃) E s₂ := by
    rw [hs o i]
    exact wpAny_operating (wpAny_mono h₂ (fun r s₃ h₃ => wpAny_bind (wpAny_letTemporaryGo (wpAny_pure h₃))) fun _ _ x => x)
  first
    | exact wpAny_pure (wpAny_bind fin)
    | exact wpAny_bind (wpAny_pure (wpAny_bind fin))
    | exact wpAny_bind fin
section
variable {X : Cx} {o i e value : Expr} {pos pos' tpos : Pos} {td ty tv : TE}
end
/-! ### displays -/
section
variable {X : Cx} {pos : Pos}
end
/-! ### methods -/
section
variable {X : Cx} {pins : List (Addr × Obj)} {σ : St} {H : Hp} {s : Shared} {a : Addr} {y d : V} {u r : Value} {o : Option V} {A : Around} {E : Value → Shared → Prop}
end
section
variable {X : Cx} {o e f : Expr} {apos cpos : Pos} {td ty tx : TE}
end
/-! ### dict(d): a copy -/
section
variable {X : Cx} {pins : List (Addr × Obj)} {σ : St} {H : Hp} {s : Shared} {a : Addr} {kvs : List (Key × V)} {A : Around} {E : Value → Shared → Prop}
end
section
variable {X : Cx} {pins : List (Addr × Obj)} {σ : St} {H : Hp} {s : Shared} {a : Addr} {y : V} {u : Value} {A : Around} {E : Value → Shared → Prop}
end
end L2
namespace L2
open PySem PySem.Spec PyProof.Rows
section
variable {prog : Program} {w : World} {A : Around} {E : Value → Shared → Prop}
end
section
variable {X : Cx}
end
end L2
namespace L2
open PySem PySem.Spec PyProof.Rows
section
variable {X : Cx} {pins : List (Addr × Obj)} {σ : St} {H : Hp} {s : Shared} {h' : Heap}
/-- several records of ours have turned -/
theorem Inv.turnedL {t' : Nat} {ch : List Addr} (I : Inv X pins σ H s) (k : ∀ b o, b ∉ ch → s.heap.get? b = some o → h'.get? b = some o) (hf : ∀ b ∈ ch, FpOk X pins H b) : Inv X pins σ H { s with heap := h', toks := t' } := by
  have nit : ∀ b u, H b = some u → b ∉ ch := fun b u e z => by
    have q := (hf b z).1
    rw [q] at e; cases e
  refine I.step (g' := s.gens) (d' := s.drawn) (ch := ch) (fun b hb => ⟨(hf b hb).2.2.2.1, (hf b hb).2.1, (hf b hb).2.2.2.2.1, (hf b hb).2.2.2.2.2⟩) (fun b o _ _ hc e _ => k b o hc e) (fun b o _ _ hc e _ => ⟨o.slots, k b o hc e⟩)
    (fun _ _ _ _ n => n) (fun b o hc e => ⟨o, k b o hc e⟩) (fun _ _ e => e) (fun _ _ _ e => e) (fun b ps e => ⟨#[], by rw [e]; simp⟩) (fun m hm => ?_) (fun b u e => ?_) I.bare
  · obtain ⟨o, es, ep, ho, r⟩ := hm
    exact ⟨o, es, ep, k _ o (fun z => (hf _ z).2.1 rfl) ho, r⟩
  · refine (I.hok b u e).stay (fun c v hc q => k c v ?_ q) (fun _ q => q) fun _ _ q => q
    rcases hc with z | z
    · rw [z]; exact nit b u e
    · exact nit c _ z
/-- .. and one new object is laid -/
theorem Inv.turnedNew {t' : Nat} {ch : List Addr} {T : Addr} {ob : HO} (I : Inv X pins σ H s) (k : ∀ b o, b ∉ ch → s.heap.get? b = some o → h'.get? b = some o) (hf : ∀ b ∈ ch, FpOk X pins H b) (hT : s.heap.objs.size ≤ T)
    (new : ObjOk X.prog X.w (upd H T ob) h' T ob) : Inv X pins σ (upd H T ob) { s with heap := h', toks := t' } := by
  have hn : H T = none := I.hok.fresh hT
  have nit : ∀ b u, H b = some u → b ∉ ch := fun b u e z => by
    have q := (hf b z).1
    rw [q] at e; cases e
  refine I.step (g' := s.gens) (d' := s.drawn) (ch := ch) (fun b hb => ⟨(hf b hb).2.2.2.1, (hf b hb).2.1, (hf b hb).2.2.2.2.1, (hf b hb).2.2.2.2.2⟩) (fun b o _ _ hc e _ => k b o hc e) (fun b o _ _ hc e _ => ⟨o.slots, k b o hc e⟩)
    (fun b o _ e n => ?_) (fun b o hc e => ⟨o, k b o hc e⟩) (fun b xs e => ?_) (fun b o u e => ?_) (fun b ps e => ⟨#[], ?_⟩) (fun m hm => ?_) (fun b u e => ?_) I.bare
  · rw [upd_ne (Nat.ne_of_lt (Nat.lt_of_lt_of_le (Heap.lt_size e) hT))]; exact n
  · rw [upd_ne (ne_of_none e hn)]; exact e
  · rw [upd_ne (ne_of_none e hn)]; exact e
  · rw [upd_ne (ne_of_none e hn), e]; simp
  · obtain ⟨o, es, ep, ho, r⟩ := hm
    exact ⟨o, es, ep, k _ o (fun z => (hf _ z).2.1 rfl) ho, r⟩
  · by_cases hb : b = T
    · subst hb
      rw [upd_same] at e
      cases e
      exact new
    · rw [upd_ne hb] at e
      refine (I.hok b u e).stay (fun c v hc q => k c v ?_ q) (fun c q => by rw [upd_ne (ne_of_none q hn)]; exact q) fun c xs q => by rw [upd_ne (ne_of_none q hn)]; exact q
      rcases hc with z | z
      · rw [z]; exact nit b u e
      · exact nit c _ z
/-! ### locking a thing while a statement runs -/
end
section
variable {X : Cx}
/-! ### one iterator just laid -/
end
/-! ### range with a step -/
section
variable {X : Cx} {tg : Expr}
end
/-! ### reversed(list) -/
section
variable {X : Cx} {tg : Expr}
end
/-! ### a str -/
/-! ### a dict's keys: any dict's entries -/
section
variable {prog : Program} {w : World} {A : Around} {E : Value → Shared → Prop} {s : Shared}
end
/-! ### a locked dict -/
section
variable {X : Cx} {pins : List (Addr × Obj)} {σ : St} {H : Hp} {s : Shared} {d : Addr} {o : Obj}
end
section
variable {P : Program} {w : World} {K : PySem.W.Frag} {tg : Expr} {d : Addr} {o : Obj} {es : Array DictEntry} {ep : Nat}
end
/-! ### for k in d, d.keys(), d.values(), d.items() -/
section
variable {X : Cx} {tg e : Expr} {td : TE} {apos cpos : Pos}
end
/-! ### enumerate(list) -/
/-! ### zip(list, list) -/
theorem boot_zip5 : bootBuiltins "zip" = some (.type "zip") := by decide +kernel
end L2
section
set_option Elab.async false
set_option linter.all false
set_option maxRecDepth 100000
set_option maxHeartbeats 2000000
namespace L2
open PySem PySem.Spec PyProof.Rows
open PySem.W (WData Codec OpenSpec Well WellAll ReadsW ReadsAllW)
/-! ### an answer as data -/
mutual
/-- x stands for the datum d, lists and tuples all the way -/
inductive Dw (K : PySem.W.Frag) (H : Hp) : V → WData → Prop
  | non : Dw K H .non .none
  | bl (b : Bool) : Dw K H (.bl b) (.bool b)
  | int (i : Int) : Dw K H (.int i) (.int i)
  | str (x : Str) : Dw K H (.str x) (.str x)
  | byt (b : Array UInt8) : Dw K H (.byt b) (.bytes b.toList)
  | lst {a : Addr} {xs : List V} {ds : List WData} : SqL K H a xs → DwAll K H xs ds → Dw K H (.ref a) (.list ds)
  | tup {a : Addr} {xs : List V} {ds : List WData} : SqT K H a xs → DwAll K H xs ds → Dw K H (.ref a) (.tuple ds)
inductive DwAll (K : PySem.W.Frag) (H : Hp) : List V → List WData → Prop
  | nil : DwAll K H [] []
  | cons {v : V} {vs : List V} {d : WData} {ds : List WData} : Dw K H v d → DwAll K H vs ds → DwAll K H (v :: vs) (d :: ds)
end
theorem dw_ints {K : PySem.W.Frag} {H : Hp} : ∀ ns : List Int, DwAll K H (ns.map V.int) (ns.map WData.int)
  | [] => .nil
  | n :: r => .cons (.int n) (dw_ints r)
theorem ints_dw {K : PySem.W.Frag} {H : Hp} : ∀ (ns : List Int) (xs : List V), DwAll K H xs (ns.map WData.int) → xs = ns.map V.int
  | [], xs, h => by
    cases h
    rfl
  | n :: r, xs, h => by
    cases h with
    | cons h1 h2 =>
      cases h1
      rw [ints_dw r _ h2] <;> rfl
section
variable {P : Program} {w : World} {K : PySem.W.Frag} {H : Hp} {h : Heap} {R : PySem.W.WRecords} {cl : Str → Option Addr}
theorem sqL_at {a : Addr} {xs : List V} (hok : HOk P w H h) (KX : K.In h) (q : SqL K H a xs) : ∃ (its : List Value) (o : Obj) (n : Nat), Vals xs its ∧ h.get? a = some o ∧ o.cls = .type "list" ∧ o.data = .seq its.toArray n := by
  rcases q with q | ⟨o, its, n, e, hc, _, hd, _, hv⟩
  · obtain ⟨_, its, n, hv, e⟩ := (show ObjOk P w H h a (.lst xs) from q.ok hok)
    exact ⟨its, _, n, hv, e, rfl, rfl⟩
  · exact ⟨its.toList, o, n, hv, KX _ _ e, hc, by simp [hd]⟩
theorem sqT_at {a : Addr} {xs : List V} (hok : HOk P w H h) (KX : K.In h) (q : SqT K H a xs) : ∃ (its : List Value) (o : Obj) (n : Nat), Vals xs its ∧ h.get? a = some o ∧ o.cls = .type "tuple" ∧ o.data = .seq its.toArray n := by
  rcases q with q | ⟨o, its, n, e, hc, hd, _, hv⟩
  · obtain ⟨_, its, hv, o, e, hc, n, hd⟩ := (show ObjOk P w H h a (.tup xs) from q.ok hok)
    exact ⟨its, o, n, hv, e, hc, hd⟩
  · exact ⟨its.toList, o, n, hv, KX _ _ e, hc, by simp [hd]⟩
mutual
theorem Dw.reads (hok : HOk P w H h) (KX : K.In h) : ∀ (d : WData) (v : V) (u : Value), Dw K H v d → RelV v u → ∃ as, ReadsW R cl h u d as
  | .none, _, _, x, r => by
    cases x
    cases r
    exact ⟨_, ReadsW.none⟩
  | .bool b, _, _, x, r => by
    cases x
    cases r
    exact ⟨_, ReadsW.bool b⟩
  | .int i, _, _, x, r => by
    cases x
    obtain ⟨t, rfl⟩ := r
    exact ⟨_, ReadsW.int i t⟩
  | .str s, _, _, x, r => by
    cases x
    obtain ⟨t, rfl⟩ := r
    exact ⟨_, ReadsW.str s t⟩
  | .bytes b, _, _, x, r => by
    cases x
    obtain ⟨t, rfl⟩ := r
    exact ⟨_, ReadsW.bytes _ t⟩
  | .list ds, _, _, x, r => by
    cases x with
    | lst hs ha =>
      cases r
      obtain ⟨its, o, n, rv, ho, hc, hd⟩ := sqL_at hok KX hs
      obtain ⟨as, hr⟩ := Dw.readsAll hok KX ds _ its ha rv
      exact ⟨_, ReadsW.list ho hc hd hr⟩
  | .tuple ds, _, _, x, r => by
    cases x with
    | tup hs ha =>
      cases r
      obtain ⟨its, o, n, rv, ho, hc, hd⟩ := sqT_at hok KX hs
      obtain ⟨as, hr⟩ := Dw.readsAll hok KX ds _ its ha rv
      exact ⟨_, ReadsW.tuple ho hc hd hr⟩
  | .float _, _, _, x, _ => by cases x
  | .dict _, _, _, x, _ => by cases x
  | .bytearray _, _, _, x, _ => by cases x
  | .set _, _, _, x, _ => by cases x
  | .frozenset _, _, _, x, _ => by cases x
  | .obj _ _, _, _, x, _ => by cases x
theorem Dw.readsAll (hok : HOk P w H h) (KX : K.In h) : ∀ (ds : List WData) (vs : List V) (us : List Value), DwAll K H vs ds → Vals vs us → ∃ as, ReadsAllW R cl h us ds as
  | [], _, _, x, r => by
    cases x
    cases r
    exact ⟨_, ReadsAllW.nil⟩
  | d :: ds, _, _, x, r => by
    cases x with
    | cons h1 h2 =>
      cases r with
      | cons r1 r2 =>
        obtain ⟨as, q1⟩ := Dw.reads hok KX d _ _ h1 r1
        obtain ⟨bs, q2⟩ := Dw.readsAll hok KX ds _ _ h2 r2
        exact ⟨_, ReadsAllW.cons q1 q2⟩
end
end
/-! ### the arguments -/
mutual
/-- data that a codec tells -/
def plW : WData → Bool
  | .none => true
  | .bool _ => true
  | .int _ => true
  | .str _ => true
  | .bytes _ => true
  | .list xs => plWs xs
  | .tuple xs => plWs xs
  | _ => false
def plWs : List WData → Bool
  | [] => true
  | x :: r => plW x && plWs r
end
theorem plWs_map {α : Type} {f : α → WData} (h : ∀ a, plW (f a) = true) : ∀ l : List α, plWs (l.map f) = true
  | [] => rfl
  | x :: r => by
    show (plW (f x) && plWs (r.map f)) = true
    rw [h x, plWs_map h r] <;> rfl
theorem pl_enc : ∀ (c : Codec) (a : c.denote), plW (c.enc a) = true
  | .unit, _ => rfl
  | .bool, _ => rfl
  | .int _ _, _ => rfl
  | .nat _ _, _ => rfl
  | .u8, _ => rfl
  | .bytes _ _, _ => rfl
  | .text _ _ _ _, _ => rfl
  | .list _ _ c, a => plWs_map (fun x => pl_enc c x) a
  | .pair c d, a => by
    show (plW (c.enc a.1) && (plW (d.enc a.2) && true)) = true
    rw [pl_enc c a.1, pl_enc d a.2] <;> rfl
  | .triple c d e, a => by
    show (plW (c.enc a.1) && (plW (d.enc a.2.1) && (plW (e.enc a.2.2) && true))) = true
    rw [pl_enc c a.1, pl_enc d a.2.1, pl_enc e a.2.2] <;> rfl
  | .option c, none => rfl
  | .option c, some x => pl_enc c x
theorem pl_encAll : ∀ (cs : List Codec) (a : Codec.denoteAll cs), plWs (Codec.encAll cs a) = true
  | [], _ => rfl
  | c :: cs, a => by
    show (plW (c.enc a.1) && plWs (Codec.encAll cs a.2)) = true
    rw [pl_enc c a.1, pl_encAll cs a.2] <;> rfl
theorem weight_mem : ∀ {xs : List WData} {d : WData}, d ∈ xs → d.weight ≤ WData.weightAll xs
  | [], d, h => absurd h (by simp)
  | x :: r, d, h => by
    show d.weight ≤ x.weight + 1 + WData.weightAll r
    rcases List.mem_cons.mp h with e | m
    · rw [e]
      omega
    · have z := weight_mem m
      omega
def toV : Value → V
  | .none => .non
  | .bool b => .bl b
  | .int i _ => .int i
  | .str x _ => .str x
  | .bytes b _ => .byt b
  | .ref a => .ref a
  | _ => .non
/-- a value of the arguments, its objects among A -/
def OkU (A : List Addr) : Value → Prop
  | .none => True
  | .bool _ => True
  | .int _ _ => True
  | .str _ _ => True
  | .bytes _ _ => True
  | .ref a => a ∈ A
  | _ => False
theorem OkU.mono {A B : List Addr} (h : ∀ a ∈ A, a ∈ B) : ∀ {u : Value}, OkU A u → OkU B u := fun {u} x => by
  cases u with
  | ref a => exact h a x
  | none => trivial
  | bool b => trivial
  | int i t => trivial
  | str s t => trivial
  | bytes b t => trivial
  | _ => exact False.elim x
theorem relV_toV {A : List Addr} {u : Value} (x : OkU A u) : RelV (toV u) u := by
  cases u with
  | ref a => rfl
  | none => rfl
  | bool b => rfl
  | int i t => exact ⟨t, rfl⟩
  | str s t => exact ⟨t, rfl⟩
  | bytes b t => exact ⟨t, rfl⟩
  | _ => exact False.elim x
theorem vals_toV {A : List Addr} : ∀ {vs : List Value}, (∀ u ∈ vs, OkU A u) → Vals (vs.map toV) vs
  | [], _ => .nil
  | u :: r, h => .cons (relV_toV (h u (List.mem_cons_self ..))) (vals_toV fun x hx => h x (List.mem_cons_of_mem _ hx))
/-- an object of the arguments -/
def ArgOb (h : Heap) (A : List Addr) (a : Addr) : Prop := ∃ vs : List Value, vs.length ≤ sizeLine ∧ (∀ u ∈ vs, OkU A u) ∧
  (h.get? a = some { cls := .type "list", data := .seq vs.toArray } ∨ h.get? a = some { cls := .type "tuple", data := .seq vs.toArray })
theorem ArgOb.mono {h : Heap} {A B : List Addr} {a : Addr} (k : ∀ a ∈ A, a ∈ B) (x : ArgOb h A a) : ArgOb h B a := by
  obtain ⟨vs, h1, h2, h3⟩ := x
  exact ⟨vs, h1, fun u hu => (h2 u hu).mono k, h3⟩
theorem wellAll_len {P : Params} {h : Heap} : ∀ {vs : List Value} {ds : List WData}, WellAll P h vs ds → vs.length = ds.length
  | _, _, .nil => rfl
  | _, _, .cons _ b => by
    show _ + 1 = _ + 1
    rw [wellAll_len b]
theorem well_list {P : Params} {h : Heap} {v : Value} {ds : List WData} (x : Well P h v (.list ds)) : ∃ (a : Addr) (vs : List Value), v = .ref a ∧ h.get? a = some { cls := .type "list", data := .seq vs.toArray } ∧ WellAll P h vs ds := by
  cases x with
  | list ho hall => exact ⟨_, _, rfl, ho, hall⟩
theorem well_tuple {P : Params} {h : Heap} {v : Value} {ds : List WData} (x : Well P h v (.tuple ds)) : ∃ (a : Addr) (vs : List Value), v = .ref a ∧ h.get? a = some { cls := .type "tuple", data := .seq vs.toArray } ∧ WellAll P h vs ds := by
  cases x with
  | tuple ho hall => exact ⟨_, _, rfl, ho, hall⟩
theorem well_cons {P : Params} {h : Heap} {us : List Value} {d : WData} {ds : List WData} (x : WellAll P h us (d :: ds)) : ∃ (v : Value) (vs : List Value), us = v :: vs ∧ Well P h v d ∧ WellAll P h vs ds := by
  cases x with
  | cons a b => exact ⟨_, _, rfl, a, b⟩
theorem line_of {n : Nat} (h : n ≤ 1048576) : n ≤ sizeLine := Nat.le_trans h (by decide)
section
variable {P : Params} {h : Heap}
mutual
theorem area_one : ∀ (d : WData) (v : Value), Well P h v d → plW d = true → d.weight ≤ 1048576 → ∃ A : List Addr, OkU A v ∧ ∀ a ∈ A, ArgOb h A a
  | .none, _, x, _, _ => by
    cases x
    exact ⟨[], trivial, fun a m => absurd m (by simp)⟩
  | .bool b, _, x, _, _ => by
    cases x
    exact ⟨[], trivial, fun a m => absurd m (by simp)⟩
  | .int i, _, x, _, _ => by
    cases x
    exact ⟨[], trivial, fun a m => absurd m (by simp)⟩
  | .str s, _, x, _, _ => by
    cases x
    exact ⟨[], trivial, fun a m => absurd m (by simp)⟩
  | .bytes b, _, x, _, _ => by
    cases x
    exact ⟨[], trivial, fun a m => absurd m (by simp)⟩
  | .list ds, _, x, p, z => by
    obtain ⟨a, vs, rfl, ho, hall⟩ := well_list x
    have z2 : WData.weightAll ds ≤ 1048576 := z
    obtain ⟨A, h1, h2⟩ := area_all ds _ hall p fun d hd => Nat.le_trans (weight_mem hd) z2
    have k : ∀ b ∈ A, b ∈ a :: A := fun b hb => List.mem_cons_of_mem _ hb
    refine ⟨a :: A, List.mem_cons_self .., fun b hb => ?_⟩
    rcases List.mem_cons.mp hb with e | m
    · rw [e]
      exact ⟨vs, line_of (by rw [wellAll_len hall]; exact Nat.le_trans (PySem.W.length_le_weightAllW ds) z2), fun u hu => (h1 u hu).mono k, .inl ho⟩
    · exact (h2 b m).mono k
  | .tuple ds, _, x, p, z => by
    obtain ⟨a, vs, rfl, ho, hall⟩ := well_tuple x
    have z2 : WData.weightAll ds ≤ 1048576 := z
    obtain ⟨A, h1, h2⟩ := area_all ds _ hall p fun d hd => Nat.le_trans (weight_mem hd) z2
    have k : ∀ b ∈ A, b ∈ a :: A := fun b hb => List.mem_cons_of_mem _ hb
    refine ⟨a :: A, List.mem_cons_self .., fun b hb => ?_⟩
    rcases List.mem_cons.mp hb with e | m
    · rw [e]
      exact ⟨vs, line_of (by rw [wellAll_len hall]; exact Nat.le_trans (PySem.W.length_le_weightAllW ds) z2), fun u hu => (h1 u hu).mono k, .inr ho⟩
    · exact (h2 b m).mono k
  | .float _, _, _, p, _ => Bool.noConfusion (show false = true from p)
  | .dict _, _, _, p, _ => Bool.noConfusion (show false = true from p)
  | .bytearray _, _, _, p, _ => Bool.noConfusion (show false = true from p)
  | .set _, _, _, p, _ => Bool.noConfusion (show false = true from p)
  | .frozenset _, _, _, p, _ => Bool.noConfusion (show false = true from p)
  | .obj _ _, _, _, p, _ => Bool.noConfusion (show false = true from p)
theorem area_all : ∀ (ds : List WData) (vs : List Value), WellAll P h vs ds → plWs ds = true → (∀ d ∈ ds, d.weight ≤ 1048576) → ∃ A : List Addr, (∀ u ∈ vs, OkU A u) ∧ ∀ a ∈ A, ArgOb h A a
  | [], _, x, _, _ => by
    cases x
    exact ⟨[], fun u m => absurd m (by simp), fun a m => absurd m (by simp)⟩
  | d :: ds, _, x, p, z => by
    obtain ⟨v, vs, rfl, x1, x2⟩ := well_cons x
    have q : plW d = true ∧ plWs ds = true := Bool.and_eq_true_iff.mp p
    obtain ⟨A, a1, a2⟩ := area_one d v x1 q.1 (z d (List.mem_cons_self ..))
    obtain ⟨B, b1, b2⟩ := area_all ds vs x2 q.2 fun e he => z e (List.mem_cons_of_mem _ he)
    have kA : ∀ b ∈ A, b ∈ A ++ B := fun b hb => List.mem_append.mpr (.inl hb)
    have kB : ∀ b ∈ B, b ∈ A ++ B := fun b hb => List.mem_append.mpr (.inr hb)
    refine ⟨A ++ B, fun u hu => ?_, fun b hb => ?_⟩
    · rcases List.mem_cons.mp hu with e | m
      · rw [e]
        exact a1.mono kA
      · exact (b1 u m).mono kB
    · rcases List.mem_append.mp hb with m | m
      · exact (a2 b m).mono kA
      · exact (b2 b m).mono kB
end
end
/-- what is tracked of an argument's object -/
def hoOf (o : Obj) : Option HO := match o.data with
  | .seq vs _ => if (o.cls == Value.type "list") = true then some (.frz o (.lst (vs.toList.map toV))) else some (.frz o (.tup (vs.toList.map toV)))
  | _ => none
def argH (K : PySem.W.Frag) (h : Heap) (A : List Addr) : Hp := fun b => if b ∈ A then (if (K.lookup b).isNone = true then (h.get? b).bind hoOf else none) else none
/-- nothing is tracked but what is known to the object -/
def OnlyF (H : Hp) : Prop := ∀ b, H b = none ∨ ∃ o u, H b = some (.frz o u)
theorem hoOf_lst (vs : List Value) : hoOf { cls := .type "list", data := .seq vs.toArray } = some (.frz { cls := .type "list", data := .seq vs.toArray } (.lst (vs.map toV))) := by
  show (if (Value.type "list" == Value.type "list") = true then some (HO.frz { cls := .type "list", data := .seq vs.toArray } (.lst (vs.toArray.toList.map toV))) else some (HO.frz { cls := .type "list", data := .seq vs.toArray } (.tup (vs.toArray.toList.map toV)))) = _
  rw [if_pos (beq_self_eq_true _)]
theorem hoOf_tup (vs : List Value) : hoOf { cls := .type "tuple", data := .seq vs.toArray } = some (.frz { cls := .type "tuple", data := .seq vs.toArray } (.tup (vs.map toV))) := by
  show (if (Value.type "tuple" == Value.type "list") = true then some (HO.frz { cls := .type "tuple", data := .seq vs.toArray } (.lst (vs.toArray.toList.map toV))) else some (HO.frz { cls := .type "tuple", data := .seq vs.toArray } (.tup (vs.toArray.toList.map toV)))) = _
  rw [if_neg (by decide)]
section
variable {P : Program} {w : World} {K : PySem.W.Frag} {h : Heap} {A : List Addr}
theorem argH_at {b : Addr} {o : Obj} (hb : b ∈ A) (hk : K.lookup b = none) (e : h.get? b = some o) : argH K h A b = hoOf o := by
  unfold argH
  rw [if_pos hb, hk, if_pos (show (none : Option Obj).isNone = true from rfl), e] <;> rfl
theorem of_argH {b : Addr} {u : HO} (q : argH K h A b = some u) : b ∈ A ∧ K.lookup b = none := by
  unfold argH at q
  by_cases hb : b ∈ A
  · rw [if_pos hb] at q
    cases hk : K.lookup b with
    | none => exact ⟨hb, rfl⟩
    | some o =>
      rw [hk, if_neg (by simp)] at q
      cases q
  · rw [if_neg hb] at q
    cases q
/-- what stands tracked -/
theorem argH_is (ar : ∀ a ∈ A, ArgOb h A a) {b : Addr} {u : HO} (q : argH K h A b = some u) : K.lookup b = none ∧ ∃ vs : List Value, vs.length ≤ sizeLine ∧ (∀ u ∈ vs, OkU A u) ∧
    ((h.get? b = some { cls := .type "list", data := .seq vs.toArray } ∧ u = .frz { cls := .type "list", data := .seq vs.toArray } (.lst (vs.map toV))) ∨
     (h.get? b = some { cls := .type "tuple", data := .seq vs.toArray } ∧ u = .frz { cls := .type "tuple", data := .seq vs.toArray } (.tup (vs.map toV)))) := by
  obtain ⟨hb, hk⟩ := of_argH q
  obtain ⟨vs, h1, h2, h3⟩ := ar b hb
  refine ⟨hk, vs, h1, h2, ?_⟩
  rcases h3 with e | e
  · rw [argH_at hb hk e, hoOf_lst] at q
    exact .inl ⟨e, (Option.some.inj q).symm⟩
  · rw [argH_at hb hk e, hoOf_tup] at q
    exact .inr ⟨e, (Option.some.inj q).symm⟩
theorem argH_only (ar : ∀ a ∈ A, ArgOb h A a) : OnlyF (argH K h A) := fun b => by
  cases q : argH K h A b with
  | none => exact .inl rfl
  | some u =>
    obtain ⟨_, vs, _, _, ⟨_, e⟩ | ⟨_, e⟩⟩ := argH_is ar q
    · exact .inr ⟨_, _, by rw [e]⟩
    · exact .inr ⟨_, _, by rw [e]⟩
theorem argH_ok (ar : ∀ a ∈ A, ArgOb h A a) : HOk P w (argH K h A) h := fun b u q => by
  obtain ⟨_, vs, h1, h2, ⟨e, rfl⟩ | ⟨e, rfl⟩⟩ := argH_is ar q
  · exact ⟨e, by rw [List.length_map]; exact h1, vs, _, vals_toV h2, e⟩
  · exact ⟨e, by rw [List.length_map]; exact h1, vs, vals_toV h2, _, e, rfl, _, rfl⟩
theorem seq_inj {c c' : Value} {vs us : List Value} (e : (some { cls := c, data := .seq vs.toArray } : Option Obj) = some { cls := c', data := .seq us.toArray }) : c = c' ∧ vs = us := by
  have e1 := Option.some.inj e
  have e2 : c = c' := congrArg Obj.cls e1
  have e3 : Data.seq vs.toArray = Data.seq us.toArray := congrArg Obj.data e1
  injection e3 with e4
  refine ⟨e2, ?_⟩
  have e5 := congrArg Array.toList e4
  simpa using e5
/-- a list argument -/
theorem argL (KX : K.In h) (ar : ∀ a ∈ A, ArgOb h A a) {a : Addr} {vs : List Value} (ha : a ∈ A) (e : h.get? a = some { cls := .type "list", data := .seq vs.toArray }) : (∀ u ∈ vs, OkU A u) ∧ SqL K (argH K h A) a (vs.map toV) := by
  obtain ⟨us, h1, h2, h3⟩ := ar a ha
  have hu : us = vs := by
    rcases h3 with q | q
    · rw [e] at q
      exact (seq_inj q).2.symm
    · rw [e] at q
      exact absurd (Value.type.inj (seq_inj q).1) (by decide)
  subst hu
  refine ⟨h2, ?_⟩
  cases hk : K.lookup a with
  | none => exact .inl (.inr ⟨_, by rw [argH_at ha hk e, hoOf_lst]⟩)
  | some o =>
    have e2 := KX a o hk
    rw [e] at e2
    obtain rfl := Option.some.inj e2
    exact .inr ⟨_, us.toArray, _, hk, rfl, rfl, rfl, by rw [List.size_toArray]; exact h1, by simpa using vals_toV h2⟩
theorem argT (KX : K.In h) (ar : ∀ a ∈ A, ArgOb h A a) {a : Addr} {vs : List Value} (ha : a ∈ A) (e : h.get? a = some { cls := .type "tuple", data := .seq vs.toArray }) : (∀ u ∈ vs, OkU A u) ∧ SqT K (argH K h A) a (vs.map toV) := by
  obtain ⟨us, h1, h2, h3⟩ := ar a ha
  have hu : us = vs := by
    rcases h3 with q | q
    · rw [e] at q
      exact absurd (Value.type.inj (seq_inj q).1) (by decide)
    · rw [e] at q
      exact (seq_inj q).2.symm
  subst hu
  refine ⟨h2, ?_⟩
  cases hk : K.lookup a with
  | none => exact .inl (.inr ⟨_, by rw [argH_at ha hk e, hoOf_tup]⟩)
  | some o =>
    have e2 := KX a o hk
    rw [e] at e2
    obtain rfl := Option.some.inj e2
    exact .inr ⟨_, us.toArray, _, hk, rfl, rfl, by rw [List.size_toArray]; exact h1, by simpa using vals_toV h2⟩
mutual
theorem dw_one {Pm : Params} (KX : K.In h) (ar : ∀ a ∈ A, ArgOb h A a) : ∀ (d : WData) (v : Value), Well Pm h v d → plW d = true → OkU A v → Dw K (argH K h A) (toV v) d
  | .none, _, x, _, _ => by
    cases x
    exact .non
  | .bool b, _, x, _, _ => by
    cases x
    exact .bl b
  | .int i, _, x, _, _ => by
    cases x
    exact .int i
  | .str s, _, x, _, _ => by
    cases x
    exact .str s
  | .bytes b, _, x, _, _ => by
    cases x
    have z := Dw.byt (K := K) (H := argH K h A) b.toArray
    exact z
  | .list ds, _, x, p, hu => by
    obtain ⟨a, vs, rfl, ho, hall⟩ := well_list x
    obtain ⟨h2, hs⟩ := argL KX ar hu ho
    exact .lst hs (dw_all KX ar ds _ hall p h2)
  | .tuple ds, _, x, p, hu => by
    obtain ⟨a, vs, rfl, ho, hall⟩ := well_tuple x
    obtain ⟨h2, hs⟩ := argT KX ar hu ho
    exact .tup hs (dw_all KX ar ds _ hall p h2)
  | .float _, _, _, p, _ => Bool.noConfusion (show false = true from p)
  | .dict _, _, _, p, _ => Bool.noConfusion (show false = true from p)
  | .bytearray _, _, _, p, _ => Bool.noConfusion (show false = true from p)
  | .set _, _, _, p, _ => Bool.noConfusion (show false = true from p)
  | .frozenset _, _, _, p, _ => Bool.noConfusion (show false = true from p)
  | .obj _ _, _, _, p, _ => Bool.noConfusion (show false = true from p)
theorem dw_all {Pm : Params} (KX : K.In h) (ar : ∀ a ∈ A, ArgOb h A a) : ∀ (ds : List WData) (vs : List Value), WellAll Pm h vs ds → plWs ds = true → (∀ u ∈ vs, OkU A u) → DwAll K (argH K h A) (vs.map toV) ds
  | [], _, x, _, _ => by
    cases x
    exact .nil
  | d :: ds, _, x, p, hu => by
    obtain ⟨v, vs, rfl, x1, x2⟩ := well_cons x
    have q : plW d = true ∧ plWs ds = true := Bool.and_eq_true_iff.mp p
    exact .cons (dw_one KX ar d v x1 q.1 (hu _ (List.mem_cons_self ..))) (dw_all KX ar ds vs x2 q.2 fun u m => hu u (List.mem_cons_of_mem _ m))
end
end
/-! ### the call -/
theorem spec_call {P : Program} {w : World} {K : PySem.W.Frag} {mg mb : Str → Option Value} {CX : CXT} {k : Nat} {fa : Addr} {fd : FuncData} {ps : List Str} {sp : Sp} {s₁ : Shared} {vals : List Value} {ds : List WData} {R : PySem.W.WRecords} {cl : Str → Option Addr} {d0 : WData}
    (KX : K.In s₁.heap) (hns : s₁.heap.Ns mainGlobals mg) (hb : s₁.heap.Ns builtinsNs mb) (hbb : ∀ x : Str, x ≠ "__name__" → mb x = bootBuiltins x) (hlim : s₁.heap.NoLimit) (hg : s₁.gens = #[])
    (hwl : WellAll w.params s₁.heap vals ds) (hpl : plWs ds = true) (hwt : ∀ d ∈ ds, d.weight ≤ 1048576) (hr : Room k callerA)
    (F : ∀ base : Heap, K.In base → base.Ns mainGlobals mg → FnOk P w K mg base CX k fa fd ps sp) (hbind : ∀ (s : Shared) (us : List Value), us.length = ps.length → BindsTo s fd ⟨us, []⟩ (ps.zip us)) (hlen : ds.length = ps.length)
    (hsp : ∀ (H : Hp) (xs : List V), OnlyF H → DwAll K H xs ds → sp xs H (fun v H' => Dw K H' v d0) fun _ _ _ => False)
    (hCX : ∀ H e s', CX [] H s₁ (fun _ _ _ => False) e s' → False) :
    codeAny (model P w) callerA (.call (.ref fa) ⟨vals, []⟩) (fun r s' => ∃ u as, r = .ok (.ret u) ∧ ReadsW R cl s'.heap u d0 as ∧ OldK s₁.heap s'.heap ∧ s'.os = s₁.os ∧ AllBare s'.gens) s₁ := by
  obtain ⟨A, ho, ar⟩ := area_all ds vals hwl hpl hwt
  have hO : OnlyF (argH K s₁.heap A) := argH_only ar
  have hok : HOk P w (argH K s₁.heap A) s₁.heap := argH_ok ar
  have hS := dw_all KX ar ds vals hwl hpl ho
  have hV := vals_toV ho
  have hK : ∀ b u, argH K s₁.heap A b = some u → K.lookup b = none := fun b u q => (argH_is ar q).1
  have noA : ∀ {b : Addr} {o : Obj} {es : Array DictEntry} {ep : Nat}, s₁.heap.get? b = some o → o.data = .dict es ep → argH K s₁.heap A b = none := fun {b o es ep} e d => by
    cases q : argH K s₁.heap A b with
    | none => rfl
    | some u =>
      obtain ⟨_, vs, _, _, ⟨e2, _⟩ | ⟨e2, _⟩⟩ := argH_is ar q
      · rw [e2] at e
        cases e
        have d' : Data.seq vs.toArray _ = Data.dict es ep := d
        cases d'
      · rw [e2] at e
        cases e
        have d' : Data.seq vs.toArray _ = Data.dict es ep := d
        cases d'
  generalize argH K s₁.heap A = H at hO hok hS hK noA
  have base_of : ∀ {b : Addr} {o : Obj}, s₁.heap.get? b = some o → H b = none → (hidT s₁.heap H).get? b = some o := fun e n => hidT_get e n
  have nsK : ∀ {b : Addr} {m : Str → Option Value}, s₁.heap.Ns b m → (hidT s₁.heap H).Ns b m := fun {b m} ⟨o, es, ep, e, d, r⟩ => ⟨o, es, ep, base_of e (noA e d), d, r⟩
  have nK : ∀ b o, K.lookup b = some o → H b = none := fun b o e => by
    cases q : H b with
    | none => rfl
    | some u =>
      rw [hK b u q] at e
      cases e
  have hKb : K.In (hidT s₁.heap H) := fun b o e => base_of (KX b o e) (nK b o e)
  have hM : Mod K mg (hidT s₁.heap H) := ⟨hKb, nsK hns, ⟨mb, nsK hb, hbb⟩, let ⟨mc, h1, h2⟩ := hlim; ⟨mc, nsK h1, h2⟩⟩
  have e0 : Env0 P w K mg (hidT s₁.heap H) callerA [] s₁ H := ⟨rfl, hM, fun b o e => of_hidT e, Nat.le_of_eq (hidT_size _ _), trivial, fun b hb => absurd (show b ∈ ([] : List Addr) from hb) (by simp), hok, .of_eq hg⟩
  have hl : vals.length = ps.length := by rw [wellAll_len hwl]; exact hlen
  refine codeAny_mono ((F _ hKb (nsK hns)).run callerA [] s₁ H ⟨vals, []⟩ vals (vals.map toV) _ _ hr e0 (hbind s₁ vals hl) hV (hsp H _ hO hS)) fun r s' x => ?_
  cases r with
  | error e => exact (hCX H e s' x).elim
  | ok fl =>
    cases fl with
    | next => exact False.elim x
    | brk => exact False.elim x
    | cont => exact False.elim x
    | ret u =>
      obtain ⟨v, H', os, bare, un, hok', r', q⟩ := x
      have kept : ∀ b o, s₁.heap.get? b = some o → s'.heap.get? b = some o := fun b o e => by
        cases q2 : H b with
        | none => exact un.keep b o e q2 (by intro z; exact absurd (show b ∈ ([] : List Addr) from z) (by simp)) (by simp)
        | some u2 =>
          rcases hO b with z | ⟨ob, u3, z⟩
          · rw [q2] at z
            cases z
          · have z2 := un.frzs b ob _ z
            obtain ⟨e1, _⟩ := hok b _ z
            obtain ⟨e2, _⟩ := hok' b _ z2
            rw [e] at e1
            cases e1
            exact e2
      have KX' : K.In s'.heap := fun b o e => kept b o (KX b o e)
      obtain ⟨as, hrd⟩ := Dw.reads (R := R) (cl := cl) hok' KX' d0 v u q r'
      exact ⟨u, as, rfl, hrd, OldK.of_keep kept, os, bare⟩
/-! ### the row -/
theorem layable_weight {ds : List WData} (h : WData.layableAll ds = true) : ∀ d ∈ ds, d.weight ≤ 1048576 := fun d hd =>
  (PySem.W.layableW_iff.mp (List.all_eq_true.mp h d hd)).2.2
theorem encAll_len : ∀ (cs : List Codec) (a : Codec.denoteAll cs), (Codec.encAll cs a).length = cs.length
  | [], _ => rfl
  | c :: cs, a => by
    show (Codec.encAll cs a.2).length + 1 = cs.length + 1
    rw [encAll_len cs a.2]
/-- the goal that k_headS leaves (case hc), from the promise of the row's def: whatever the arguments that the codecs let and the row asks for, the def gives what stands for enc (f ..) -/
theorem walk_spec {r : OpenSpec} {k : Nat} {q : Program} {loose : List Str} {XP : (Str → Option Value) → Heap → Prop} {YP : World → Heap → Prop} {d : DefRec} {K : Params → PySem.W.Frag} {CX : World → CXT} {ps : List Str} {sp : World → Sp}
    (hwell : r.wellSaid = true) (hdf : d.params.defaults = []) (hlen : r.args.length = ps.length) (hr : Room k callerA)
    (hY : ∀ (w : World) (h : Heap), YP w h → (K w.params).In h)
    (F : ∀ (w : World) (mg : Str → Option Value) (fa : Addr) (h : Heap), YP w h → (K w.params).In h → h.Ns mainGlobals mg → mg d.name = some (.ref fa) →
      ∃ fd : FuncData, (∀ (s : Shared) (us : List Value), us.length = ps.length → BindsTo s fd ⟨us, []⟩ (ps.zip us)) ∧
        ∀ base : Heap, (K w.params).In base → base.Ns mainGlobals mg → FnOk r.prog w (K w.params) mg base (CX w) k fa fd ps (sp w))
    (hsp : ∀ (w : World) (H : Hp) (xs : List V) (a : Codec.denoteAll r.args), OnlyF H → Codec.withinAll r.args a = true → Codec.app r.args r.asked a = true → DwAll (K w.params) H xs (Codec.encAll r.args a) →
      sp w xs H (fun v H' => Dw (K w.params) H' v (r.ret.enc (Codec.app r.args r.f a))) fun _ _ _ => False)
    (hCX : ∀ (w : World) (H : Hp) (s : Shared) (e : Value) (s' : Shared), CX w [] H s (fun _ _ _ => False) e s' → False) :
    PySem.W.WalkOS q loose XP YP r d [] (fun f vs => PySem.call f vs) := by
  intro w s_0 s₁ mg mb G Y fa o pm cd doc dV kV ho hd hcd hD hmg hg args vals as hpre hlay hrd hwl hlo
  obtain ⟨a, e1, e2⟩ := PySem.W.os_pre_some hpre
  obtain ⟨e3, hwi⟩ := Codec.encAll_of_decAll r.args args a e1
  subst e3
  have KX := hY w _ Y
  obtain ⟨fd, hb, hF⟩ := F w mg fa _ Y KX G.T.g hmg
  refine PySem.W.enter_call (codeAny_mono (spec_call (R := []) (cl := classAt s_0.heap) (d0 := r.ret.enc (Codec.app r.args r.f a)) KX G.T.g G.T.b G.T.builtins G.T.nolimit hg hwl (pl_encAll _ _) (layable_weight hlay) hr hF hb (by rw [encAll_len]; exact hlen)
    (fun H xs hO hS => hsp w H xs a hO hwi e2 hS) fun H e s' => hCX w H s₁ e s') fun r' s' hq => ?_)
  obtain ⟨u, as', rfl, h1, h2, h3, h4⟩ := hq
  exact ⟨.inl ⟨u, _, as', rfl, fun _ => rfl, h1, (OpenSpec.post_iff hwell hwi _ _).mpr rfl, fun z => Bool.noConfusion (show false = true from z)⟩, h2, h3, h4⟩
/-- the same where the promise hangs on the written part alone -/
theorem walk_specK {r : OpenSpec} {k : Nat} {q : Program} {loose : List Str} {XP : (Str → Option Value) → Heap → Prop} {YP : World → Heap → Prop} {d : DefRec} {K : Params → PySem.W.Frag} {CX : CXT} {ps : List Str} {sp : PySem.W.Frag → Sp}
    (hwell : r.wellSaid = true) (hdf : d.params.defaults = []) (hlen : r.args.length = ps.length) (hr : Room k callerA)
    (hY : ∀ (w : World) (h : Heap), YP w h → (K w.params).In h)
    (F : ∀ (w : World) (mg : Str → Option Value) (fa : Addr) (h : Heap), YP w h → (K w.params).In h → h.Ns mainGlobals mg → mg d.name = some (.ref fa) →
      ∃ fd : FuncData, (∀ (s : Shared) (us : List Value), us.length = ps.length → BindsTo s fd ⟨us, []⟩ (ps.zip us)) ∧
        ∀ base : Heap, (K w.params).In base → base.Ns mainGlobals mg → FnOk r.prog w (K w.params) mg base CX k fa fd ps (sp (K w.params)))
    (hsp : ∀ (K : PySem.W.Frag) (H : Hp) (xs : List V) (a : Codec.denoteAll r.args), OnlyF H → Codec.withinAll r.args a = true → Codec.app r.args r.asked a = true → DwAll K H xs (Codec.encAll r.args a) →
      sp K xs H (fun v H' => Dw K H' v (r.ret.enc (Codec.app r.args r.f a))) fun _ _ _ => False)
    (hCX : ∀ (H : Hp) (s : Shared) (e : Value) (s' : Shared), CX [] H s (fun _ _ _ => False) e s' → False) :
    PySem.W.WalkOS q loose XP YP r d [] (fun f vs => PySem.call f vs) :=
  walk_spec (K := K) (CX := fun _ => CX) (sp := fun w => sp (K w.params)) hwell hdf hlen hr hY F (fun w H xs a h1 h2 h3 h4 => hsp (K w.params) H xs a h1 h2 h3 h4) fun _ H s e s' => hCX H s e s'
end L2
-- rests on (row put in by the clerk, for the bench that shows a file only what it spells): KE.SpHead KE.OsShapes
end
/-! SHORT WORDS over the layer: a def of the text, its body, what a loop and a test want. -/
namespace L2
open PySem PySem.Spec PyProof.Rows
/-! ### the text by places -/
/-- the j-th statement of a class's body -/
def inClass (s : Stmt) (j : Nat) : Stmt := match s with
  | .ClassDef _ _ _ body _ _ _ _ _ _ _ => body.getD j (.Pass ⟨0, 0, 0, 0⟩)
  | _ => .Pass ⟨0, 0, 0, 0⟩
def defArgs (s : Stmt) : Arguments := match s with
  | .FunctionDef _ a _ _ _ _ _ _ _ _ => a
  | _ => { posonlyargs := [], args := [], vararg := none, kwonlyargs := [], kw_defaults := [], kwarg := none, defaults := [] }
def defBody (s : Stmt) : List Stmt := match s with
  | .FunctionDef _ _ b _ _ _ _ _ _ _ => b
  | _ => []
def defScope (s : Stmt) : Scope := match s with
  | .FunctionDef _ _ _ _ _ _ sc _ _ _ => sc
  | _ => { kind := .function, names := [], isGenerator := false, isCoroutine := false }
/-! ### no exception leaves a def -/
abbrev CX0 : CXT := fun _ _ _ _ _ _ => False
abbrev E0 : XK := fun _ _ _ => False
theorem pass0 {X : Cx} : Passes CX0 X E0 := fun _ _ _ _ _ _ _ h => h.elim
/-! ### a def (or method) of the text as it stands behind the top -/
structure Fun (K : PySem.W.Frag) (x qual : Str) (st : Stmt) (f : Addr) (fd : FuncData) : Prop where
  ex : ∃ (oc : Value) (od : Option Addr) (kV doc pm : Value) (an : Option Addr) (cdv ct : Value) (osl : Array (Option Value)),
    fd = PySem.W.fnOf x qual (defArgs st) (defBody st) (defScope st) .none kV doc pm an cdv ct ∧ K.lookup f = some ⟨oc, od, .func fd, osl⟩ ∧ PySem.W.codeIn K cdv qual = true
  kp : PySem.W.keepIn K (.ref f) = true
section
variable {P : Program} {w : World} {K : PySem.W.Frag} {mg : Str → Option Value} {base : Heap}
/-- THE RULE for a def: its body as a term of rules, and the reading of that term -/
theorem Fun.ok {x qual : Str} {st : Stmt} {f : Addr} {fd : FuncData} {N ps : List Str} {k : Nat} {sp : Sp} (F : Fun K x qual st f fd) (S : FnScope N ps (defScope st)) (len : ∀ vs H Q E, sp vs H Q E → vs.length = ps.length)
    (hbody : ∀ (cdv : Value) (A : Around) (outer : List Env) (s : Shared) (H : Hp) (vs : List V) (Q : VK) (E : XK), Room k (A.deeper (envOfC qual (defScope st) s.heap.objs.size f cdv)) → sp vs H Q E →
      ∃ t, PSs (cxOf CX0 P w K mg base N qual (defScope st) f cdv A outer s H E).nox (defBody st) t ∧ t { nx := fun _ H' => Q .non H', rt := Q } (start N vs) H) : FnOk P w K mg base CX0 (k + 1) f fd ps sp := by
  obtain ⟨oc, od, kV, doc, pm, an, cdv, ct, osl, rfl, lk, hcd⟩ := F.ex
  refine fn_of lk hcd S len fun A outer s H vs Q E hr hsp => ?_
  obtain ⟨t, h, q⟩ := hbody cdv A outer s H vs Q E hr hsp
  exact ⟨t, h.nox, q⟩
/-- how its arguments bind (no defaults): h is «fun _ _ _ _ _ _ us hl => match us, hl with | [_, _], _ => rfl», one _ a parameter -/
theorem Fun.binds {x qual : Str} {st : Stmt} {f : Addr} {fd : FuncData} {ps : List Str} (F : Fun K x qual st f fd)
    (h : ∀ (kV doc pm : Value) (an : Option Addr) (cdv ct : Value) (us : List Value), us.length = ps.length → bindArgs (PySem.W.fnOf x qual (defArgs st) (defBody st) (defScope st) .none kV doc pm an cdv ct) ⟨us, []⟩ = pure (ps.zip us)) : Binds K fd ps [] := by
  obtain ⟨oc, od, kV, doc, pm, an, cdv, ct, osl, rfl, lk, hcd⟩ := F.ex
  exact .all (h kV doc pm an cdv ct)
theorem fun_mk {x qual : Str} {st : Stmt} {f : Addr} {oc : Value} {od an : Option Addr} {osl : Array (Option Value)} {kV doc pm cdv ct : Value} (l : K.lookup f = some ⟨oc, od, .func (PySem.W.fnOf x qual (defArgs st) (defBody st) (defScope st) .none kV doc pm an cdv ct), osl⟩)
    (c : PySem.W.codeIn K cdv qual = true) (k : PySem.W.keepIn K (.ref f) = true) : Fun K x qual st f (PySem.W.fnOf x qual (defArgs st) (defBody st) (defScope st) .none kV doc pm an cdv ct) := ⟨⟨oc, od, kV, doc, pm, an, cdv, ct, osl, rfl, l, c⟩, k⟩
end
/-! ### expressions in short: the name that stands in the i-th slot -/
section
variable {X : Cx}
theorem pv (i : Nat) {x : Str} {pos : Pos} (hN : X.N[i]? = some x := by rfl) (hv : Vis X.env.scope x := by first | exact Or.inl rfl | exact Or.inr (Or.inl rfl) | exact Or.inr (Or.inr rfl)) (hd : (x == ("__debug__" : Str)) = false := by decide)
    (hcd : (x == ("__classdict__" : Str)) = false := by decide) : PE X (.Name x pos) (tVar i) := pe_var hN hv hd hcd
end
/-! ### tests -/
theorem iteF {A B : Prop} (h : B) : if false = true then A else B := by
  rw [if_neg Bool.false_ne_true]
  exact h
theorem iteT {A B : Prop} (h : A) : if true = true then A else B := by
  rw [if_pos rfl]
  exact h
theorem ite2 {c A B : Prop} [Decidable c] (h1 : c → A) (h2 : ¬ c → B) : if c then A else B := by
  by_cases h : c
  · rw [if_pos h]
    exact h1 h
  · rw [if_neg h]
    exact h2 h
/-! ### heaps -/
/-- all that was tracked is as it was -/
def Same (H H' : Hp) : Prop := ∀ b o, H b = some o → H' b = some o
theorem Same.refl (H : Hp) : Same H H := fun _ _ h => h
theorem Same.trans {H H1 H2 : Hp} (a : Same H H1) (b : Same H1 H2) : Same H H2 := fun c o h => b c o (a c o h)
theorem Same.free {H H' : Hp} (e : Same H H') {l : Addr} (h : H' l = Option.none) : H l = Option.none := by
  cases q : H l with
  | none => rfl
  | some o =>
    rw [e l o q] at h
    cases h
theorem Same.seq {K : PySem.W.Frag} {H H' : Hp} {a : Addr} {xs : List V} (e : Same H H') (h : SqL K H a xs) : SqL K H' a xs := by
  rcases h with (h | ⟨o, h⟩) | h
  · exact .inl (.inl (e _ _ h))
  · exact .inl (.inr ⟨o, e _ _ h⟩)
  · exact .inr h
/-! ### a dict's pairs: keys that differ -/
section
variable {κ : Type} [DecidableEq κ]
end
/-! ### lists -/
theorem at_of {xs : List V} {z : Int} {j : Nat} {v : V} (e : z = (j : Int)) (h : xs[j]? = some v) : atI xs z = some v := by
  rw [e]
  exact atI_nat h
/-- a new instance and its __init__ leave all that was tracked as it was -/
theorem Same.made {H H1 : Hp} {x dx C : Addr} (nx : H x = Option.none) (nd : H dx = Option.none) (k : ∀ b o, (upd (upd H dx (.own x)) x (.ins C dx [])) b = some o → b ≠ x → H1 b = some o) : Same H H1 := fun b o e =>
  k b o (by rw [upd_ne (ne_of_none e nx), upd_ne (ne_of_none e nd)]; exact e) (ne_of_none e nx)
end L2
set_option maxHeartbeats 4000000
namespace Sw
open Kqb6
/-! ### inner swings -/
theorem settle_fuel : ∀ (k j : Nat) (l o : List Nat), l.length ≤ k → l.length ≤ j → settle k l o = settle j l o
  | 0, j, l, o, hk, _ => by
    have e : l = [] := List.length_eq_zero_iff.mp (by omega)
    subst e
    cases j <;> rfl
  | k + 1, 0, l, o, _, hj => by
    have e : l = [] := List.length_eq_zero_iff.mp (by omega)
    subst e
    rfl
  | k + 1, j + 1, l, o, hk, hj => by
    match l with
    | [] => rfl
    | [_] => rfl
    | [_, _] => rfl
    | [_, _, _] => rfl
    | d :: c :: b :: a :: r =>
      show (if inner d c b a then settle k (d :: a :: r) (o ++ [far b c]) else (d :: c :: b :: a :: r, o)) = (if inner d c b a then settle j (d :: a :: r) (o ++ [far b c]) else (d :: c :: b :: a :: r, o))
      have hk' : (d :: a :: r).length ≤ k := by simp at hk ⊢; omega
      have hj' : (d :: a :: r).length ≤ j := by simp at hj ⊢; omega
      rw [settle_fuel k j (d :: a :: r) _ hk' hj']
/-- settled with as much fuel as there are readings -/
def settled (l o : List Nat) : List Nat × List Nat := settle l.length l o
theorem settled_in {d c b a : Nat} {r o : List Nat} (h : inner d c b a = true) : settled (d :: c :: b :: a :: r) o = settled (d :: a :: r) (o ++ [far b c]) := by
  unfold settled
  show (if inner d c b a then settle (r.length + 3) (d :: a :: r) (o ++ [far b c]) else _) = _
  rw [if_pos h]
  exact settle_fuel _ _ _ _ (by simp) (by simp)
def innerL : List Nat → Bool
  | d :: c :: b :: a :: _ => inner d c b a
  | _ => false
theorem settled_out : ∀ {l o : List Nat}, innerL l = false → settled l o = (l, o)
  | [], _, _ => rfl
  | [_], _, _ => rfl
  | [_, _], _, _ => rfl
  | [_, _, _], _, _ => rfl
  | d :: c :: b :: a :: r, o, h => by
    unfold settled
    show (if inner d c b a then settle (r.length + 3) (d :: a :: r) (o ++ [far b c]) else (d :: c :: b :: a :: r, o)) = _
    rw [if_neg (by rw [show inner d c b a = false from h]; exact Bool.false_ne_true)]
theorem innerL_true : ∀ {l : List Nat}, innerL l = true → ∃ d c b a r, l = d :: c :: b :: a :: r ∧ inner d c b a = true
  | d :: c :: b :: a :: r, h => ⟨d, c, b, a, r, rfl, h⟩
theorem read_eq (l : List Nat) (x : Nat) : Kqb6.read l x = settled (point l x) [] := rfl
theorem settled_len : ∀ (n : Nat) (l o : List Nat), l.length ≤ n → (settled l o).1.length + 2 * (settled l o).2.length = l.length + 2 * o.length
  | n, l, o, hn => by
    cases h : innerL l with
    | false => rw [settled_out h]
    | true =>
      obtain ⟨d, c, b, a, r, rfl, hi⟩ := innerL_true h
      rw [settled_in hi]
      match n, hn with
      | 0, hn => simp at hn
      | n + 1, hn =>
        have := settled_len n (d :: a :: r) (o ++ [far b c]) (by simp at hn ⊢; omega)
        rw [this]
        simp
        omega
theorem point_len (l : List Nat) (x : Nat) : (point l x).length ≤ l.length + 1 := by
  unfold point
  split
  · split <;> simp
  · split <;> simp
  · simp
theorem point_pos (l : List Nat) (x : Nat) : 1 ≤ (point l x).length := by
  unfold point
  split
  · split <;> simp
  · split <;> simp
  · simp
theorem read_len (l : List Nat) (x : Nat) : (Kqb6.read l x).1.length + 2 * (Kqb6.read l x).2.length ≤ l.length + 1 := by
  have h1 := settled_len _ (point l x) [] (Nat.le_refl _)
  have h2 := point_len l x
  rw [read_eq]
  simp at h1
  omega
/-! ### how far, as Python's abs tells it -/
theorem far_abs (a b : Nat) : (if (a : Int) - (b : Int) < 0 then -((a : Int) - (b : Int)) else (a : Int) - (b : Int)) = ((far a b : Nat) : Int) := by
  unfold far
  split <;> omega
theorem far_comm (a b : Nat) : far a b = far b a := by unfold far; omega
/-! ### half swings, as they came -/
def dif : List Nat → List Nat
  | a :: b :: r => far a b :: dif (b :: r)
  | _ => []
theorem dif_len : ∀ l : List Nat, (dif l).length = l.length - 1
  | [] => rfl
  | [_] => rfl
  | a :: b :: r => by
    show (dif (b :: r)).length + 1 = r.length + 1 + 1 - 1
    rw [dif_len (b :: r)]
    simp
theorem dif_get : ∀ (l : List Nat) (k : Nat) {a b : Nat}, l[k]? = some a → l[k + 1]? = some b → (dif l)[k]? = some (far a b)
  | [], k, a, b, h, _ => by simp at h
  | [_], k, a, b, _, h => by simp at h
  | x :: y :: r, 0, a, b, h, g => by
    have e1 : x = a := by simpa using h
    have e2 : y = b := by simpa using g
    subst e1 e2
    rfl
  | x :: y :: r, k + 1, a, b, h, g => by
    show (dif (y :: r))[k]? = some (far a b)
    exact dif_get (y :: r) k (by simpa using h) (by simpa using g)
theorem dif_snoc : ∀ (l : List Nat) (a b : Nat), dif (l ++ [a, b]) = dif (l ++ [a]) ++ [far a b]
  | [], a, b => rfl
  | [x], a, b => rfl
  | x :: y :: r, a, b => by
    show far x y :: dif (y :: r ++ [a, b]) = far x y :: dif (y :: r ++ [a]) ++ [far a b]
    rw [dif_snoc (y :: r) a b]
    rfl
theorem halves_dif : ∀ l : List Nat, (halves l).reverse = dif l.reverse
  | [] => rfl
  | [_] => rfl
  | b :: a :: r => by
    show (far a b :: halves (a :: r)).reverse = dif (b :: a :: r).reverse
    rw [List.reverse_cons, halves_dif (a :: r)]
    have e : (b :: a :: r).reverse = r.reverse ++ [a, b] := by simp
    have e2 : (a :: r).reverse = r.reverse ++ [a] := by simp
    rw [e, e2, dif_snoc]
/-! ### harm -/
theorem harm_nil (n : Nat) : harm [] n = 0 := rfl
theorem harm_snoc (t : List Row) (r : Row) (n : Nat) : harm (t ++ [r]) n = if r.from_ ≤ n then r.harm else harm t n := by
  unfold harm
  rw [List.filter_append, List.filter_cons, List.filter_nil]
  split
  · rename_i h
    have h' : r.from_ ≤ n := by simpa using h
    rw [if_pos h', List.getLast?_append]
    simp
  · rename_i h
    have h' : ¬ r.from_ ≤ n := by simpa using h
    rw [if_neg h', List.append_nil]
theorem take_snoc {α : Type} : ∀ {l : List α} {i : Nat} {x : α}, l[i]? = some x → l.take (i + 1) = l.take i ++ [x]
  | [], i, x, h => by simp at h
  | a :: l, 0, x, h => by
    have e : a = x := Option.some.inj h
    subst e
    rfl
  | a :: l, i + 1, x, h => by
    have ih := take_snoc (l := l) (i := i) (x := x) h
    show a :: l.take (i + 1) = a :: l.take i ++ [x]
    rw [ih]
    rfl
/-! ### sums -/
theorem sum_cons (a : Nat) (l : List Nat) : sum (a :: l) = a + sum l := rfl
theorem sum_append : ∀ l m : List Nat, sum (l ++ m) = sum l + sum m
  | [], m => by show sum m = 0 + sum m; omega
  | a :: l, m => by
    show a + sum (l ++ m) = a + sum l + sum m
    rw [sum_append l m]
    omega
theorem sum_reverse : ∀ l : List Nat, sum l.reverse = sum l
  | [] => rfl
  | a :: l => by
    rw [List.reverse_cons, sum_append, sum_reverse l]
    show sum l + (a + 0) = a + sum l
    omega
theorem sum_int : ∀ l : List Nat, (l.map fun n : Nat => (n : Int)).sum = ((sum l : Nat) : Int)
  | [] => rfl
  | a :: l => by
    rw [List.map_cons, List.sum_cons, sum_int l, sum_cons]
    omega
theorem sum_twice (f : Nat → Nat) : ∀ l : List Nat, sum (l.map fun n => 2 * f n) = 2 * sum (l.map f)
  | [] => rfl
  | a :: l => by
    rw [List.map_cons, List.map_cons, sum_cons, sum_cons, sum_twice f l]
    omega
/-- the damage, by the harm of the half swings as they came -/
theorem damage_eq (t : List Row) (done l : List Nat) : damage t done l = 2 * sum (done.map (harm t)) + sum ((dif l.reverse).map (harm t)) := by
  unfold damage
  rw [sum_twice, ← halves_dif, List.map_reverse, sum_reverse]
/-! ### a table -/
def risesB (f : List Nat) : Bool := (f.zip (f.drop 1)).all fun p => decide (p.1 < p.2)
def growsB (f : List Nat) : Bool := (f.zip (f.drop 1)).all fun p => decide (p.1 ≤ p.2)
theorem risesB_cons (a b : Nat) (r : List Nat) : risesB (a :: b :: r) = (decide (a < b) && risesB (b :: r)) := rfl
theorem growsB_cons (a b : Nat) (r : List Nat) : growsB (a :: b :: r) = (decide (a ≤ b) && growsB (b :: r)) := rfl
theorem rises_grows : ∀ f : List Nat, risesB f = true → growsB f = true
  | [], _ => rfl
  | [_], _ => rfl
  | a :: b :: r, h => by
    rw [risesB_cons, Bool.and_eq_true, decide_eq_true_eq] at h
    rw [growsB_cons, Bool.and_eq_true, decide_eq_true_eq]
    exact ⟨by omega, rises_grows (b :: r) h.2⟩
theorem grows_le : ∀ (f : List Nat) (m z : Nat), growsB f = true → f.getLast? = some z → z ≤ m → f.all (fun x => decide (x ≤ m)) = true
  | [], _, _, _, _, _ => rfl
  | [a], m, z, _, hz, h => by
    have e : a = z := by simpa using hz
    subst e
    simpa using h
  | a :: b :: r, m, z, hg, hz, h => by
    rw [growsB_cons, Bool.and_eq_true, decide_eq_true_eq] at hg
    have hz' : (b :: r).getLast? = some z := by
      rw [List.getLast?_cons_cons] at hz
      exact hz
    have ih := grows_le (b :: r) m z hg.2 hz' h
    rw [List.all_cons, Bool.and_eq_true]
    refine ⟨?_, ih⟩
    rw [List.all_cons, Bool.and_eq_true, decide_eq_true_eq] at ih
    rw [decide_eq_true_eq]
    omega
theorem le_of_all {f : List Nat} {m z : Nat} (h : f.all (fun x => decide (x ≤ m)) = true) (hz : f.getLast? = some z) : z ≤ m := by
  have := List.all_eq_true.mp h z (List.mem_of_getLast? hz)
  simpa using this
/-- as the program asks it -/
theorem okTable_eq (f h : List Nat) {y z : Nat} (hl : f.length = h.length) (h1 : 1 ≤ f.length) (h8 : f.length ≤ 8) (hy : f.getLast? = some y) (hz : h.getLast? = some z) :
    okTable f h = (risesB f && (decide (y ≤ 1000) && (growsB h && decide (z ≤ 1000)))) := by
  have e : okTable f h = (f.all (fun x => decide (x ≤ 1000)) && h.all (fun x => decide (x ≤ 1000)) && risesB f && growsB h) := by
    unfold okTable risesB growsB
    rw [decide_eq_true hl, decide_eq_true h1, decide_eq_true h8]
    simp only [Bool.true_and]
  rw [e]
  cases hr : risesB f with
  | false => simp
  | true =>
    cases hg : growsB h with
    | false => simp
    | true =>
      have a1 : f.all (fun x => decide (x ≤ 1000)) = decide (y ≤ 1000) := by
        by_cases hy' : y ≤ 1000
        · rw [grows_le f 1000 y (rises_grows f hr) hy hy', decide_eq_true hy']
        · cases q : f.all (fun x => decide (x ≤ 1000)) with
          | false => rw [decide_eq_false hy']
          | true => exact absurd (le_of_all q hy) hy'
      have a2 : h.all (fun x => decide (x ≤ 1000)) = decide (z ≤ 1000) := by
        by_cases hz' : z ≤ 1000
        · rw [grows_le h 1000 z hg hz hz', decide_eq_true hz']
        · cases q : h.all (fun x => decide (x ≤ 1000)) with
          | false => rw [decide_eq_false hz']
          | true => exact absurd (le_of_all q hz) hz'
      rw [a1, a2]
      simp
theorem okTable_no (f h : List Nat) (n : f.length < 1 ∨ 8 < f.length ∨ f.length ≠ h.length) : okTable f h = false := by
  unfold okTable
  rcases n with n | n | n
  · rw [decide_eq_false (show ¬ 1 ≤ f.length by omega)]; simp
  · rw [decide_eq_false (show ¬ f.length ≤ 8 by omega)]; simp
  · rw [decide_eq_false n]; simp
/-- all([g(k) ..]) over the places -/
def okAt (p : Nat → Nat → Bool) (f : List Nat) : List Bool := (List.range (f.length - 1)).map fun k => p (f.getD k 0) (f.getD (k + 1) 0)
theorem okAt_all (p : Nat → Nat → Bool) : ∀ f : List Nat, (okAt p f).all id = (f.zip (f.drop 1)).all fun q => p q.1 q.2
  | [] => rfl
  | [_] => rfl
  | a :: b :: r => by
    have ih := okAt_all p (b :: r)
    have e : okAt p (a :: b :: r) = p a b :: okAt p (b :: r) := by
      unfold okAt
      show (List.range (r.length + 1)).map _ = _
      rw [List.range_succ_eq_map, List.map_cons, List.map_map]
      rfl
    rw [e, List.all_cons, ih]
    rfl
end Sw
/-! the calls of a list, one behind another: the mathematics of the outer loop -/
namespace Sw
theorem whole_id (c : List (List Int)) : PyKqb6.whole c = c := by
  unfold PyKqb6.whole
  split <;> rfl
theorem map_whole (cs : List (List (List Int))) : cs.map PyKqb6.whole = cs := by
  rw [show PyKqb6.whole = id from funext whole_id, List.map_id]
/-- one call off the front -/
theorem calls_step {ns : List Int} {j f : Nat} {cs : List (List (List Int))} (hj : j < ns.length) (h : PyFlat.calls PyKqb6.shape f (ns.drop j) = some cs) :
    ∃ (p : Int) (n k f' : Nat) (xs : List (List Int)) (t : List Int) (cs' : List (List (List Int))), ns[j]? = some p ∧ PyKqb6.shape p = some (n, k) ∧ j + 1 + n ≤ ns.length ∧ PyFlat.rows k (ns.drop (j + 1 + n)) = some (xs, t) ∧
      cs = ((p :: (ns.drop (j + 1)).take n) :: xs) :: cs' ∧ PyFlat.calls PyKqb6.shape f' t = some cs' := by
  cases hd : ns.drop j with
  | nil => rw [List.drop_eq_nil_iff] at hd; omega
  | cons p r =>
    have e1 : ns[j]? = some p := by
      have : (ns.drop j)[0]? = some p := by rw [hd]; rfl
      rw [List.getElem?_drop] at this
      simpa using this
    have e2 : r = ns.drop (j + 1) := by
      have : (ns.drop j).drop 1 = r := by rw [hd]; rfl
      rw [List.drop_drop] at this
      rw [← this, Nat.add_comm]
    rw [hd] at h
    cases f with
    | zero => cases h
    | succ f =>
      have h' : (match PyFlat.call PyKqb6.shape (p :: r) with
        | none => none
        | some (c, t) => match PyFlat.calls PyKqb6.shape f t with
          | none => none
          | some cs => some (c :: cs)) = some cs := h
      cases ec : PyFlat.call PyKqb6.shape (p :: r) with
      | none => rw [ec] at h'; cases h'
      | some q =>
        obtain ⟨c, t⟩ := q
        rw [ec] at h'
        have h2 : (match PyFlat.calls PyKqb6.shape f t with
          | none => none
          | some cs => some (c :: cs)) = some cs := h'
        cases e3 : PyFlat.calls PyKqb6.shape f t with
        | none => rw [e3] at h2; cases h2
        | some cs' =>
          rw [e3] at h2
          have h3 : c :: cs' = cs := Option.some.inj h2
          have h4 : (match PyKqb6.shape p with
            | none => none
            | some (n, k) => if r.length < n then none else match PyFlat.rows k (r.drop n) with
              | none => none
              | some (xs, t) => some ((p :: r.take n) :: xs, t)) = some (c, t) := ec
          cases es : PyKqb6.shape p with
          | none => rw [es] at h4; cases h4
          | some q2 =>
            obtain ⟨n, k⟩ := q2
            rw [es] at h4
            have h5 : (if r.length < n then none else match PyFlat.rows k (r.drop n) with
              | none => none
              | some (xs, t) => some ((p :: r.take n) :: xs, t)) = some (c, t) := h4
            by_cases hl : r.length < n
            · rw [if_pos hl] at h5; cases h5
            · rw [if_neg hl] at h5
              cases er : PyFlat.rows k (r.drop n) with
              | none => rw [er] at h5; cases h5
              | some q3 =>
                obtain ⟨xs, t'⟩ := q3
                rw [er] at h5
                obtain ⟨a1, a2⟩ := Prod.mk.inj (Option.some.inj h5)
                subst a2
                have hlr : r.length = ns.length - (j + 1) := by rw [e2, List.length_drop]
                refine ⟨p, n, k, f, xs, t', cs', e1, es, by omega, ?_, ?_, e3⟩
                · rw [← er, e2, List.drop_drop]
                · rw [← h3, ← a1, e2]
theorem calls_end {f : Nat} {cs : List (List (List Int))} (h : PyFlat.calls PyKqb6.shape f [] = some cs) : cs = [] := by
  cases f <;> exact (Option.some.inj h).symm
/-! ### how long the answers are -/
theorem played_eq (s : Kqb6Neutral.S) : ∀ l : List (List (List Int)), PyFlat.played Kqb6Neutral.step s l = Kqb6Neutral.answersFrom s l := by
  intro l
  induction l generalizing s with
  | nil => rfl
  | cons c l ih =>
    show (Kqb6Neutral.step s c).2 :: PyFlat.played Kqb6Neutral.step (Kqb6Neutral.step s c).1 l = (Kqb6Neutral.step s c).2 :: Kqb6Neutral.answersFrom (Kqb6Neutral.step s c).1 l
    rw [ih]
theorem foldl_add : ∀ (l : List Nat) (a : Nat), l.foldl (fun x y => x + y) a = a + l.foldl (fun x y => x + y) 0
  | [], a => by show a = a + 0; omega
  | b :: l, a => by
    show l.foldl (fun x y => x + y) (a + b) = a + l.foldl (fun x y => x + y) (0 + b)
    rw [foldl_add l (a + b), foldl_add l (0 + b)]
    omega
theorem told_len : ∀ l : List (List Int), (PyFlat.told l).length = (l.map List.length).foldl (fun x y => x + y) 0 + l.length
  | [] => rfl
  | a :: l => by
    have e : PyFlat.told (a :: l) = ((a.length : Int) :: a) ++ PyFlat.told l := rfl
    rw [e, List.length_append, told_len l, List.map_cons, List.foldl_cons, foldl_add _ (0 + a.length)]
    simp only [List.length_cons]
    omega
theorem answersFrom_len (s : Kqb6Neutral.S) : ∀ l : List Kqb6Neutral.Call_, (Kqb6Neutral.answersFrom s l).length = l.length := by
  intro l
  induction l generalizing s with
  | nil => rfl
  | cons c l ih =>
    show (Kqb6Neutral.answersFrom (Kqb6Neutral.step s c).1 l).length + 1 = l.length + 1
    rw [ih]
/-- what is asked of a list, in parts -/
theorem asked_parts {ns : List Int} (h : PyKqb6.answers_asked ns = true) : ∃ cs, PyFlat.calls PyKqb6.shape ns.length ns = some cs ∧ cs.length ≤ 200 ∧ (∀ c ∈ cs, Kqb6Neutral.asked1 c = true) ∧
    PyKqb6.answers ns = PyFlat.told (PyFlat.played Kqb6Neutral.step Kqb6Neutral.start cs) ∧ (PyKqb6.answers ns).length ≤ 1000200 := by
  unfold PyKqb6.answers_asked at h
  cases e : PyFlat.calls PyKqb6.shape ns.length ns with
  | none => rw [e] at h; cases h
  | some cs =>
    rw [e] at h
    have h' : (!cs.isEmpty && PyFlat.atMost 200 cs && PyInside.calls PyKqb6.bound cs && Kqb6Neutral.asked (cs.map PyKqb6.whole) && PyFlat.short 10000000 (PyKqb6.answers ns)) = true := h
    rw [map_whole] at h'
    simp only [Bool.and_eq_true] at h'
    obtain ⟨⟨⟨⟨_, h1⟩, _⟩, h2⟩, _⟩ := h'
    have hl : cs.length ≤ 200 := by unfold PyFlat.atMost at h1; simpa using h1
    unfold Kqb6Neutral.asked at h2
    simp only [Bool.and_eq_true, List.all_eq_true] at h2
    obtain ⟨⟨_, h3, _⟩, h4⟩ := h2
    have ea : PyKqb6.answers ns = PyFlat.told (PyFlat.played Kqb6Neutral.step Kqb6Neutral.start cs) := by
      unfold PyKqb6.answers PyKqb6.calls
      rw [e]
      show PyFlat.told (PyFlat.played Kqb6Neutral.step Kqb6Neutral.start (cs.map PyKqb6.whole)) = _
      rw [map_whole]
    refine ⟨cs, rfl, hl, h3, ea, ?_⟩
    rw [ea, told_len, played_eq, answersFrom_len]
    unfold Kqb6Neutral.few_ at h4
    have h5 := of_decide_eq_true h4
    unfold Kqb6Neutral.answers at h5
    omega
/-! ### one call, by its kind -/
def cast (l : List Nat) : List Int := l.map fun n : Nat => (n : Int)
inductive CallIs : Int → List Int → List (List Int) → Kqb6.Call → Prop
  | start (l : Nat) (f h : List Nat) (hf : f.length ≤ 60) (hh : h.length ≤ 60) : CallIs 0 [(l : Int)] [cast f, cast h] (.start l f h)
  | read (x : Nat) : CallIs 1 [(x : Int)] [] (.read x)
  | reads (l : List Nat) (hl : l.length ≤ 60) : CallIs 2 [] [cast l] (.reads l)
  | left : CallIs 3 [] [] .left
  | done : CallIs 4 [] [] .done
  | halves : CallIs 5 [] [] .halves
  | harm (n : Nat) : CallIs 6 [(n : Int)] [] (.harm n)
  | damage : CallIs 7 [] [] .damage
  | life : CallIs 8 [] [] .life
  | would (x : Nat) : CallIs 9 [(x : Int)] [] (.would x)
  | most (n : Nat) : CallIs 10 [(n : Int)] [] (.most n)
  | count (a b : Nat) : CallIs 11 [(a : Int), (b : Int)] [] (.count a b)
  | greatest : CallIs 12 [] [] .greatest
  | again (n : Nat) : CallIs 13 [(n : Int)] [] (.again n)
  | times : CallIs 14 [] [] .times
  | undo : CallIs 15 [] [] .undo
  | clear : CallIs 16 [] [] .clear
  | close : CallIs 17 [] [] .close
  | state : CallIs 18 [] [] .state
theorem nat_of {z : Int} {b : Nat} (h : Kqb6Neutral.natural z b = true) : z = ((Kqb6Neutral.n z : Nat) : Int) := by
  unfold Kqb6Neutral.natural at h
  simp only [Bool.and_eq_true, decide_eq_true_eq] at h
  show z = ((z.toNat : Nat) : Int)
  omega
theorem nats_of : ∀ {l : List Int} {b : Nat}, (l.all fun z => Kqb6Neutral.natural z b) = true → l = cast (l.map Kqb6Neutral.n)
  | [], _, _ => rfl
  | z :: l, b, h => by
    rw [List.all_cons, Bool.and_eq_true] at h
    have h1 := nat_of h.1
    have h2 := nats_of h.2
    show z :: l = ((Kqb6Neutral.n z : Nat) : Int) :: cast (l.map Kqb6Neutral.n)
    rw [← h1, ← h2]
theorem call_kind {p : Int} {as : List Int} {xs : List (List Int)} (h : Kqb6Neutral.asked1 ((p :: as) :: xs) = true) :
    ∃ x, CallIs p as xs x ∧ Kqb6Neutral.callOf ((p :: as) :: xs) = some x := by
  unfold Kqb6Neutral.asked1 at h
  split at h
  case h_20 => cases h
  case h_1 a r1 r2 e =>
    simp only [List.cons.injEq] at e
    obtain ⟨⟨rfl, rfl⟩, rfl⟩ := e
    simp only [Bool.and_eq_true, decide_eq_true_eq] at h
    obtain ⟨⟨h1, h2, h3⟩, h4, h5⟩ := h
    refine ⟨.start (Kqb6Neutral.n a) (r1.map Kqb6Neutral.n) (r2.map Kqb6Neutral.n), ?_, rfl⟩
    have c := CallIs.start (Kqb6Neutral.n a) (r1.map Kqb6Neutral.n) (r2.map Kqb6Neutral.n) (by rw [List.length_map]; exact h3) (by rw [List.length_map]; exact h5)
    rw [← nat_of h1, ← nats_of h2, ← nats_of h4] at c
    exact c
  case h_3 r1 e =>
    simp only [List.cons.injEq] at e
    obtain ⟨⟨rfl, rfl⟩, rfl⟩ := e
    simp only [Bool.and_eq_true, decide_eq_true_eq] at h
    refine ⟨.reads (r1.map Kqb6Neutral.n), ?_, rfl⟩
    have c := CallIs.reads (r1.map Kqb6Neutral.n) (by rw [List.length_map]; exact h.2)
    rw [← nats_of h.1] at c
    exact c
  case h_12 a b e =>
    simp only [List.cons.injEq] at e
    obtain ⟨⟨rfl, rfl⟩, rfl⟩ := e
    simp only [Bool.and_eq_true] at h
    refine ⟨.count (Kqb6Neutral.n a) (Kqb6Neutral.n b), ?_, rfl⟩
    have c := CallIs.count (Kqb6Neutral.n a) (Kqb6Neutral.n b)
    rw [← nat_of h.1, ← nat_of h.2] at c
    exact c
  case h_2 a e =>
    simp only [List.cons.injEq] at e
    obtain ⟨⟨rfl, rfl⟩, rfl⟩ := e
    have c := CallIs.read (Kqb6Neutral.n a)
    rw [← nat_of h] at c
    exact ⟨_, c, rfl⟩
  case h_7 a e =>
    simp only [List.cons.injEq] at e
    obtain ⟨⟨rfl, rfl⟩, rfl⟩ := e
    have c := CallIs.harm (Kqb6Neutral.n a)
    rw [← nat_of h] at c
    exact ⟨_, c, rfl⟩
  case h_10 a e =>
    simp only [List.cons.injEq] at e
    obtain ⟨⟨rfl, rfl⟩, rfl⟩ := e
    have c := CallIs.would (Kqb6Neutral.n a)
    rw [← nat_of h] at c
    exact ⟨_, c, rfl⟩
  case h_11 a e =>
    simp only [List.cons.injEq] at e
    obtain ⟨⟨rfl, rfl⟩, rfl⟩ := e
    have c := CallIs.most (Kqb6Neutral.n a)
    rw [← nat_of h] at c
    exact ⟨_, c, rfl⟩
  case h_14 a e =>
    simp only [List.cons.injEq] at e
    obtain ⟨⟨rfl, rfl⟩, rfl⟩ := e
    have c := CallIs.again (Kqb6Neutral.n a)
    rw [← nat_of h] at c
    exact ⟨_, c, rfl⟩
  all_goals
    rename_i e
    simp only [List.cons.injEq] at e
    obtain ⟨⟨rfl, rfl⟩, rfl⟩ := e
    first
      | exact ⟨_, .left, rfl⟩ | exact ⟨_, .done, rfl⟩ | exact ⟨_, .halves, rfl⟩ | exact ⟨_, .damage, rfl⟩ | exact ⟨_, .life, rfl⟩ | exact ⟨_, .greatest, rfl⟩
      | exact ⟨_, .times, rfl⟩ | exact ⟨_, .undo, rfl⟩ | exact ⟨_, .clear, rfl⟩ | exact ⟨_, .close, rfl⟩ | exact ⟨_, .state, rfl⟩
/-- a call's answer by the model -/
theorem step_of {p : Int} {as : List Int} {xs : List (List Int)} {x : Kqb6.Call} (h : Kqb6Neutral.callOf ((p :: as) :: xs) = some x) (s : Kqb6Neutral.S) :
    Kqb6Neutral.step s ((p :: as) :: xs) = ((Kqb6.step s x).1, Kqb6Neutral.tell (Kqb6.step s x).2) := by
  unfold Kqb6Neutral.step
  rw [h]
end Sw
/-! rules of my own over the layer -/
namespace Sw
open PySem PySem.Spec PyProof.Rows L2
/-! ### lists of naturals as values -/
def nums (l : List Nat) : List V := l.map fun n : Nat => V.int (n : Int)
theorem nums_len (l : List Nat) : (nums l).length = l.length := by unfold nums; rw [List.length_map]
theorem nums_app (l m : List Nat) : nums (l ++ m) = nums l ++ nums m := by unfold nums; rw [List.map_append]
theorem nums_one (n : Nat) : nums [n] = [V.int (n : Int)] := rfl
theorem nums_get {l : List Nat} {i n : Nat} (h : l[i]? = some n) : (nums l)[i]? = some (V.int (n : Int)) := by
  unfold nums; rw [List.getElem?_map, h]; rfl
theorem nums_get' {l : List Nat} {i : Nat} {v : V} (h : (nums l)[i]? = some v) : ∃ n, l[i]? = some n ∧ v = V.int (n : Int) := by
  unfold nums at h
  rw [List.getElem?_map] at h
  cases e : l[i]? with
  | none => rw [e] at h; cases h
  | some n => rw [e] at h; exact ⟨n, rfl, (Option.some.inj h).symm⟩
theorem nums_int (l : List Nat) : nums l = (l.map fun n : Nat => (n : Int)).map V.int := by
  unfold nums; rw [List.map_map]; rfl
/-- a row is kept the last one first; its place from behind -/
theorem atR {l : List Nat} {k n : Nat} {z : Int} (hz : z = -((k : Int) + 1)) (h : l[k]? = some n) : atI (nums l.reverse) z = some (V.int (n : Int)) := by
  have hk : k < l.length := (List.getElem?_eq_some_iff.mp h).1
  have hlen : (nums l.reverse).length = l.length := by rw [nums_len, List.length_reverse]
  have e : ixN (nums l.reverse).length z = some (l.length - 1 - k) := by
    unfold ixN
    rw [hlen, if_neg (by omega), if_pos (by omega)]
    congr 1
    omega
  unfold atI
  rw [e]
  show (nums l.reverse)[l.length - 1 - k]? = some (V.int (n : Int))
  refine nums_get ?_
  rw [List.getElem?_reverse (by omega)]
  rw [show l.length - 1 - (l.length - 1 - k) = k by omega]
  exact h
theorem upd_id {H : Hp} {a : Addr} {o : HO} (h : H a = some o) : upd H a o = H := by
  funext b; unfold upd; split
  · rename_i e; rw [e]; exact h.symm
  · rfl
/-! ### what stays -/
/-- all but what stands at S is as it was -/
def SameOff (S : List Addr) (H H' : Hp) : Prop := ∀ b o, H b = some o → b ∉ S → H' b = some o
theorem SameOff.refl (S : List Addr) (H : Hp) : SameOff S H H := fun _ _ h _ => h
theorem SameOff.trans {S : List Addr} {H H1 H2 : Hp} (a : SameOff S H H1) (b : SameOff S H1 H2) : SameOff S H H2 := fun c o h n => b c o (a c o h n) n
theorem SameOff.mono {S T : List Addr} {H H' : Hp} (h : SameOff S H H') (st : ∀ a ∈ S, a ∈ T) : SameOff T H H' := fun b o e n => h b o e fun m => n (st b m)
theorem SameOff.of {S : List Addr} {H H' : Hp} (h : Same H H') : SameOff S H H' := fun b o e _ => h b o e
theorem SameOff.upd {S : List Addr} {H H' : Hp} {a : Addr} {o : HO} (h : SameOff S H H') (ha : a ∈ S ∨ H a = none) : SameOff S H (upd H' a o) := fun b u e n => by
  have hne : b ≠ a := by
    rcases ha with m | m
    · intro q; subst q; exact n m
    · exact ne_of_none e m
  rw [upd_ne hne]
  exact h b u e n
theorem same_upd {H H' : Hp} {a : Addr} {o : HO} (h : Same H H') (ha : H a = none) : Same H (upd H' a o) := fun b u e => by
  rw [upd_ne (ne_of_none e ha)]
  exact h b u e
theorem same_new {H : Hp} {a : Addr} {o : HO} (ha : H a = none) : Same H (upd H a o) := same_upd (Same.refl H) ha
/-! ### a def that may be called by its name -/
section
variable {P : Program} {w : World} {K : PySem.W.Frag} {mg : Str → Option Value} {base : Heap}
structure Cal (P : Program) (w : World) (K : PySem.W.Frag) (mg : Str → Option Value) (base : Heap) (x : Str) (k : Nat) (ps : List Str) (sp : Sp) : Prop where
  ex : ∃ f fd, FnOk P w K mg base CX0 k f fd ps sp ∧ mg x = some (.ref f) ∧ PySem.W.keepIn K (.ref f) = true ∧ Binds K fd ps []
theorem Cal.mk' {x : Str} {k : Nat} {ps : List Str} {sp : Sp} {st : Stmt} {qual : Str} {f : Addr} {fd : FuncData} (F : Fun K x qual st f fd) (hm : mg x = some (.ref f)) (b : Binds K fd ps []) (G : FnOk P w K mg base CX0 k f fd ps sp) : Cal P w K mg base x k ps sp :=
  ⟨f, fd, G, hm, F.kp, b⟩
theorem Cal.mono {x : Str} {j k : Nat} {ps : List Str} {sp : Sp} (c : Cal P w K mg base x j ps sp) (h : j ≤ k) : Cal P w K mg base x k ps sp := by
  obtain ⟨f, fd, G, r⟩ := c.ex
  exact ⟨f, fd, G.mono h, r⟩
end
section
variable {X : Cx} {k : Nat} {ps : List Str} {sp : Sp} {x : Str} {p pos apos : Pos} {e o : Expr} {es : List Expr} {ta tf : TE} {t : TA}
theorem pe_callC (c : Cal X.prog X.w X.K X.mg X.base x k ps sp) (hr : Room k X.A) (hg : Gl X x) (ha : PA X (e :: es) t) (hdb : (x == ("__debug__" : Str)) = false := by decide)
    (he : starEach (e :: es) X.env = (false, eval e X.env) :: starEach es X.env := by rfl) (hpl : (backTo pos (starEach es X.env)).any (·.1) = false := by rfl) :
    PE X (.Call (.Name x p) (e :: es) [] pos) (tCall sp [] E0 t) := by
  obtain ⟨f, fd, G, hm, kp, b⟩ := c.ex
  exact pe_call G hr hg hm kp b .nil pass0 ha hdb he hpl
/-- a name of the file's top, by its value -/
def IsG (mg : Str → Option Value) (x : Str) (v : V) : Prop := ∃ u, mg x = some u ∧ RelV v u
theorem pe_g {v : V} (h : IsG X.mg x v) (hg : Gl X x) (hd : (x == ("__debug__" : Str)) = false := by decide) : PE X (.Name x pos) (tC v) := by
  obtain ⟨u, hm, r⟩ := h
  exact pe_glob hg hm r hd
/-- f(e, ..), f a local name that holds a def of the text: which def is told by the reading -/
def tCallV (X : Cx) (tf : TE) (t : TA) : TE := fun σ H Q => tf σ H fun y H1 => ∃ f : Addr, y = .ref f ∧ PySem.W.keepIn X.K (.ref f) = true ∧ t σ H1 fun vs H2 =>
  ∃ (k : Nat) (fd : FuncData) (ps : List Str) (sp : Sp), FnOk X.prog X.w X.K X.mg X.base CX0 k f fd ps sp ∧ Room k X.A ∧ Binds X.K fd ps [] ∧ sp (vs ++ []) H2 Q E0
theorem pe_callV (hf : PE X (.Name x p) tf) (ha : PA X (e :: es) t)
    (he : starEach (e :: es) X.env = (false, eval e X.env) :: starEach es X.env := by rfl) (hpl : (backTo pos (starEach es X.env)).any (·.1) = false := by rfl) :
    PE X (.Call (.Name x p) (e :: es) [] pos) (tCallV X tf t) := by
  intro pins s σ H Q I h
  refine wpAny_Call_Name_kw (thn (hf pins s σ H _ I h) fun u s1 ⟨y, H1, I1, ry, f, ey, hk, q⟩ => ?_)
  subst ey
  obtain rfl : u = Value.ref f := ry
  refine PySem.W.callWith_K (h₀ := X.base) I.ok.mod.kin hk (thn (ha pos pins s1 σ H1 _ I1 q) fun us s2 ⟨vs, H2, I2, r, q2⟩ => ⟨I2.kIn, ?_⟩) he hpl
  obtain ⟨k, fd, ps, sp, F, hr, hb, q3⟩ := q2
  exact run_fn F hr hb .nil pass0 I2 r q3
end
/-! ### methods of lists, told of naturals -/
section
variable {X : Cx}
theorem MtM.imp {id : String} {r r' : V → List V → Hp → VK → Prop} (h : MtM X id r) (i : ∀ x vs H Q, r' x vs H Q → r x vs H Q) : MtM X id r' :=
  fun pins s σ H x xs v us Q I rx rs q => h pins s σ H x xs v us Q I rx rs (i _ _ _ _ q)
theorem mt_popR : MtM X "list.pop" (fun x vs H Q => ∃ (a : Addr) (d : Nat) (l : List Nat), x = .ref a ∧ vs = [] ∧ H a = some (.lst (nums (d :: l).reverse)) ∧ Q (.int (d : Int)) (upd H a (.lst (nums l.reverse)))) :=
  MtM.imp mt_pop fun x vs H Q ⟨a, d, l, ex, ev, h, q⟩ => ⟨a, _, .int (d : Int), ex, ev, h, by
    have e : nums (d :: l).reverse = nums l.reverse ++ [V.int (d : Int)] := by rw [List.reverse_cons, nums_app, nums_one]
    rw [e]; simp, by
    have e : (nums (d :: l).reverse).dropLast = nums l.reverse := by rw [List.reverse_cons, nums_app, nums_one, List.dropLast_concat]
    rw [e]; exact q⟩
theorem mt_appR : MtM X "list.append" (fun x vs H Q => ∃ (a : Addr) (n : Nat) (l : List Nat), x = .ref a ∧ vs = [.int (n : Int)] ∧ H a = some (.lst (nums l.reverse)) ∧ l.length < sizeLine ∧ Q .non (upd H a (.lst (nums (n :: l).reverse)))) :=
  MtM.imp mt_append fun x vs H Q ⟨a, n, l, ex, ev, h, hl, q⟩ => ⟨a, _, _, ex, ev, h, by rw [nums_len, List.length_reverse]; exact hl, by
    have e : nums (n :: l).reverse = nums l.reverse ++ [V.int (n : Int)] := by rw [List.reverse_cons, nums_app, nums_one]
    rw [← e]; exact q⟩
theorem mt_appI : MtM X "list.append" (fun x vs H Q => ∃ (a : Addr) (n : Nat) (l : List Nat), x = .ref a ∧ vs = [.int (n : Int)] ∧ H a = some (.lst (nums l)) ∧ l.length < sizeLine ∧ Q .non (upd H a (.lst (nums (l ++ [n]))))) :=
  MtM.imp mt_append fun x vs H Q ⟨a, n, l, ex, ev, h, hl, q⟩ => ⟨a, _, _, ex, ev, h, by rw [nums_len]; exact hl, by
    have e : nums (l ++ [n]) = nums l ++ [V.int (n : Int)] := by rw [nums_app, nums_one]
    rw [← e]; exact q⟩
theorem boot_min : bootBuiltins "min" = some (.builtin "min") := by decide +kernel
theorem boot_max : bootBuiltins "max" = some (.builtin "max") := by decide +kernel
theorem boot_abs : bootBuiltins "abs" = some (.builtin "abs") := by decide +kernel
theorem boot_sum : bootBuiltins "sum" = some (.builtin "sum") := by decide +kernel
theorem boot_all : bootBuiltins "all" = some (.builtin "all") := by decide +kernel
theorem boot_list : bootBuiltins "list" = some (.type "list") := by decide +kernel
end
/-! ### dicts of the text's top, their keys nums -/
def ModD (K : PySem.W.Frag) (a : Addr) (f : Int → Option Value) : Prop :=
  ∃ o es ep, K.lookup a = some o ∧ o.ExactDict ∧ o.data = .dict es ep ∧ (∀ e ∈ es.toList, ∃ k t, e.key = Value.int k t ∧ e.hash = hashInt k) ∧ ∀ k, (es.toList.find? fun e => Value.isInt k e.key).map (·.val) = f k
section
variable {X : Cx} {o i : Expr} {pos : Pos} {td ty : TE}
theorem ModD.mapOf {P : Program} {w : World} {K : PySem.W.Frag} {a : Addr} {f : Int → Option Value} {h : Heap} (d : ModD K a f) (k : K.In h) : h.MapOf (intKind P w) a f := by
  obtain ⟨o, es, ep, l, ex, dat, ks, fd⟩ := d
  refine ⟨o, es, ep, k _ _ l, ex, dat, fun e he => ?_, fun k => ?_⟩
  · obtain ⟨k, t, e1, e2⟩ := ks e (Array.mem_toList_iff.mpr he)
    exact ⟨k, by rw [e1]; exact intKind_is P w k t, e2⟩
  · rw [← fd k]
    unfold findBy
    rw [← Array.find?_toList]
    rfl
/-- d[y], d a dict of the text's top -/
def tModGet (K : PySem.W.Frag) (td ty : TE) : TE := fun σ H Q => td σ H fun x H1 => ty σ H1 fun y H2 => ∃ (a : Addr) (f : Int → Option Value) (k : Int) (v : V) (u : Value), x = .ref a ∧ y = .int k ∧ ModD K a f ∧ f k = some u ∧ RelV v u ∧ Q v H2
theorem pe_mdget (ho : PE X o td) (hi : PE X i ty) (hs : NoSl i) : PE X (.Subscript o i pos) (tModGet X.K td ty) := by
  intro pins s σ H Q I h
  refine subD_of PySem.F.slot_dict_getitem.lookup hs (thn (ho pins s σ H _ I h) fun u s1 ⟨x, H1, I1, rx, q1⟩ => thn (hi pins s1 σ H1 _ I1 q1) fun iv s2 ⟨y, H2, I2, ry, a, f, k, v, u', ex, ey, d, hf, rv, q2⟩ => ?_)
  subst ex ey
  obtain rfl : u = Value.ref a := rx
  obtain ⟨t, rfl⟩ := (show ∃ t, iv = Value.int k t from ry)
  have m := d.mapOf (P := X.prog) (w := X.w) I2.kIn
  exact ⟨m.typeIs, wpAny_getItem_of (intKind_is X.prog X.w k t) m hf ⟨v, H2, I2.tok _, rv, q2⟩⟩
end
end Sw
namespace Sw
open PySem PySem.Spec PyProof.Rows L2
/-! ### the text by places -/
def top (i : Nat) : Stmt := PySem.Challenge.pw_swingcounts_s01_answers.main.body.getD i (.Pass ⟨0, 0, 0, 0⟩)
abbrev sBtw : Stmt := top 4
abbrev sPut : Stmt := top 5
abbrev sInn : Stmt := top 6
abbrev sOut : Stmt := top 7
abbrev sCome : Stmt := top 8
abbrev sHalf : Stmt := top 9
abbrev sRises : Stmt := top 10
abbrev sFalls : Stmt := top 11
abbrev sIsTab : Stmt := top 12
abbrev sMkTab : Stmt := top 13
abbrev sHarm : Stmt := top 14
abbrev sHarmAll : Stmt := top 15
/-- what the text's top and Python's own names hold -/
structure Txt (mg : Str → Option Value) : Prop where
  min : mg "min" = none
  max : mg "max" = none
  len : mg "len" = none
  abs : mg "abs" = none
  sum : mg "sum" = none
  all : mg "all" = none
  range : mg "range" = none
  list : mg "list" = none
  zip : mg "zip" = none
  mostRows : IsG mg "MOST_ROWS" (.int 8)
  topSize : IsG mg "TOP_SIZE" (.int 1000)
  topHarm : IsG mg "TOP_HARM" (.int 1000)
/-! ### promises -/
def spBtw : Sp := fun vs H Q _ => ∃ a b c : Nat, vs = [.int (a : Int), .int (b : Int), .int (c : Int)] ∧ Q (.bl (Kqb6.between a b c)) H
def spPut : Sp := fun vs H Q _ => ∃ (a : Addr) (l : List Nat) (x : Nat), vs = [.ref a, .int (x : Int)] ∧ H a = some (.lst (nums l.reverse)) ∧ l.length < sizeLine ∧ Q .non (upd H a (.lst (nums (Kqb6.point l x).reverse)))
def spInn : Sp := fun vs H Q _ => ∃ (a : Addr) (l : List Nat), vs = [.ref a] ∧ H a = some (.lst (nums l.reverse)) ∧ Q (.bl (innerL l)) H
def spOut : Sp := fun vs H Q _ => ∃ (a : Addr) (l : List Nat), vs = [.ref a] ∧ H a = some (.lst (nums l.reverse)) ∧ l.length < sizeLine ∧
  ∀ (H' : Hp) (p : Addr), H p = none → SameOff [a] H H' → H' a = some (.lst (nums (settled l []).1.reverse)) → H' p = some (.lst (nums (settled l []).2)) → Q (.ref p) H'
def spCome : Sp := fun vs H Q _ => ∃ (a : Addr) (l : List Nat) (x : Nat), vs = [.ref a, .int (x : Int)] ∧ H a = some (.lst (nums l.reverse)) ∧ l.length + 1 < sizeLine ∧
  ∀ (H' : Hp) (p : Addr), H p = none → SameOff [a] H H' → H' a = some (.lst (nums (Kqb6.read l x).1.reverse)) → H' p = some (.lst (nums (Kqb6.read l x).2)) → Q (.ref p) H'
section
variable {P : Program} {w : World} {K : PySem.W.Frag} {mg : Str → Option Value} {base : Heap}
/-! ### lies_between -/
theorem scBtw : FnScope ["before", "last", "new"] ["before", "last", "new"] (defScope sBtw) := ⟨rfl, rfl, rfl, by decide +kernel, rfl, by decide +kernel, by decide +kernel⟩
theorem ok_btw {f : Addr} {fd : FuncData} (F : Fun K "lies_between" "lies_between" sBtw f fd) (T : Txt mg) : FnOk P w K mg base CX0 1 f fd ["before", "last", "new"] spBtw := by
  refine F.ok scBtw (fun vs H Q E h => ?_) (fun cdv A outer s H vs Q E hr h => ?_)
  · obtain ⟨a, b, c, rfl, _⟩ := h
    rfl
  · obtain ⟨a, b, c, rfl, k⟩ := h
    refine ⟨_, pss_one (ps_ret (pe_chain op_le op_le (pe_callB (call_min2 rfl) rfl T.min boot_min (pa_cons (pv 0) (pa_cons (pv 2) pa_nil))) (pv 1)
      (pe_callB (call_max2 rfl) rfl T.max boot_max (pa_cons (pv 0) (pa_cons (pv 2) pa_nil))))), ?_⟩
    refine ⟨_, rfl, _, rfl, _, _, rfl, _, rfl, _, _, rfl, rfl, _, rfl, ite2 (fun h => ?_) (fun h => ?_)⟩
    · refine ⟨_, rfl, _, rfl, _, _, rfl, _, _, rfl, rfl, ?_⟩
      have e : decide ((b : Int) ≤ (if (c : Int) > (a : Int) then (c : Int) else (a : Int))) = Kqb6.between a b c := by
        rw [decide_eq_true_eq] at h
        unfold Kqb6.between
        rw [Bool.eq_iff_iff]
        simp only [decide_eq_true_eq, Bool.or_eq_true, Bool.and_eq_true]
        split at h <;> split <;> omega
      rw [← e] at k
      exact k
    · have e : false = Kqb6.between a b c := by
        rw [decide_eq_true_eq] at h
        unfold Kqb6.between
        symm
        rw [Bool.eq_false_iff]
        simp only [ne_eq, decide_eq_true_eq, Bool.or_eq_true, Bool.and_eq_true]
        split at h <;> omega
      rw [← e] at k
      exact k
/-! ### put -/
theorem scPut : FnScope ["row", "reading"] ["row", "reading"] (defScope sPut) := ⟨rfl, rfl, rfl, by decide +kernel, rfl, by decide +kernel, by decide +kernel⟩
theorem ok_put {f : Addr} {fd : FuncData} (F : Fun K "put" "put" sPut f fd) (T : Txt mg) (cB : Cal P w K mg base "lies_between" 1 ["before", "last", "new"] spBtw) : FnOk P w K mg base CX0 2 f fd ["row", "reading"] spPut := by
  refine F.ok scPut (fun vs H Q E h => ?_) (fun cdv A outer s H vs Q E hr h => ?_)
  · obtain ⟨a, l, x, rfl, _⟩ := h
    rfl
  · obtain ⟨a, l, x, rfl, ha, hl, k⟩ := h
    refine ⟨_, pss_one (ps_if (PW.pt (pw_and (pt_cmpR op_ge (pe_callB call_len_seq rfl T.len PySem.boot_len (pa_cons (pv 0) pa_nil)) pe_int (nomark _))
        (pw_and1 (pt_val (pe_callC cB hr rfl (pa_cons (pe_ix ix_list (pv 0) (pe_un un_neg pe_int) (fun _ _ => rfl)) (pa_cons (pe_ix ix_list (pv 0) (pe_un un_neg pe_int) (fun _ _ => rfl)) (pa_cons (pv 1) pa_nil))))))))
      (pss_one (ps_asg (pv 1) (pg_sub (pv 0) (pe_un un_neg pe_int) set_list)))
      (pss_one (ps_if (PW.pt (pw_or (pt_cmpR op_ne (pe_callB call_len_seq rfl T.len PySem.boot_len (pa_cons (pv 0) pa_nil)) pe_int (nomark _))
          (pw_or1 (pt_cmpR op_ne (pe_ix ix_list (pv 0) pe_int (fun _ _ => rfl)) (pv 1) (nomark _)))))
        (pss_one (ps_expr (pe_bm PySem.F.plainAttrs_list PySem.F.slot_list_append PySem.F.type_list_append mt_appR (pv 0) (pa_cons (pv 1) pa_nil))))
        pss_nil))), ?_⟩
    refine ⟨_, rfl, a, _, rfl, .inl (SqL.of ha), _, _, rfl, rfl, _, rfl, ?_⟩
    have hlen : ((nums l.reverse).length : Int) = (l.length : Int) := by rw [nums_len, List.length_reverse]
    rw [hlen]
    match l, ha, hl, k with
    | [], ha, hl, k =>
      refine ite2 (fun h => absurd (of_decide_eq_true h) (by decide)) fun _ => ?_
      refine iteF ?_
      refine ⟨_, rfl, a, _, rfl, .inl (SqL.of ha), rfl, _, rfl, iteT ?_⟩
      refine iteT ?_
      exact ⟨_, rfl, .inl ⟨rfl, _, SqL.of ha⟩, _, rfl, a, x, [], rfl, rfl, ha, hl, k⟩
    | [b], ha, hl, k =>
      refine ite2 (fun h => absurd (of_decide_eq_true h) (by show ¬ ((2 : Int) ≤ 1); decide)) fun _ => ?_
      refine iteF ?_
      refine ⟨_, rfl, a, _, rfl, .inl (SqL.of ha), rfl, _, rfl, iteF ?_⟩
      refine ⟨_, rfl, a, _, _, _, rfl, rfl, SqL.of ha, rfl, _, rfl, rfl, _, rfl, ?_⟩
      by_cases hb : b = x
      · subst hb
        rw [show decide (V.int (b : Int) = V.int (b : Int)) = true from decide_eq_true rfl]
        refine iteF ?_
        have e : Kqb6.point [b] b = [b] := by
          show (if b = b then [b] else [b, b]) = [b]
          rw [if_pos rfl]
        rw [e, upd_id ha] at k
        exact k
      · rw [show decide (V.int (b : Int) = V.int (x : Int)) = false from decide_eq_false (by intro q; injection q with q; omega)]
        refine iteT ?_
        have e : Kqb6.point [b] x = [x, b] := by
          show (if b = x then [b] else [x, b]) = [x, b]
          rw [if_neg hb]
        rw [e] at k
        exact ⟨_, rfl, .inl ⟨rfl, _, SqL.of ha⟩, _, rfl, a, x, [b], rfl, rfl, ha, hl, k⟩
    | b :: c :: r, ha, hl, k =>
      refine ite2 (fun _ => ?_) fun h => absurd (decide_eq_true (by simp only [List.length_cons]; omega)) h
      refine ⟨_, rfl, _, rfl, a, _, _, _, rfl, rfl, SqL.of ha, atR (k := 1) (n := c) rfl rfl, _, rfl, _, rfl, a, _, _, _, rfl, rfl, SqL.of ha, atR (k := 0) (n := b) rfl rfl, _, rfl, c, b, x, rfl, _, rfl, ?_⟩
      by_cases hb : Kqb6.between c b x = true
      · rw [hb]
        refine iteT ?_
        have e : Kqb6.point (b :: c :: r) x = x :: c :: r := by
          show (if Kqb6.between c b x = true then x :: c :: r else x :: b :: c :: r) = _
          rw [if_pos hb]
        rw [e] at k
        refine ⟨_, rfl, _, rfl, _, rfl, a, _, _, (c :: r).length, rfl, rfl, ha, ?_, ?_⟩
        · unfold ixN
          rw [nums_len, List.length_reverse, if_neg (by decide), if_pos (by simp only [List.length_cons]; omega)]
          congr 1
          simp only [List.length_cons]
          omega
        · have e2 : (nums (b :: c :: r).reverse).set (c :: r).length (V.int (x : Int)) = nums (x :: c :: r).reverse := by
            rw [List.reverse_cons, List.reverse_cons (a := x), nums_app, nums_app, nums_one, nums_one]
            rw [show (c :: r).length = (nums (c :: r).reverse).length by rw [nums_len, List.length_reverse]]
            simp
          rw [e2]
          exact k
      · rw [Bool.not_eq_true] at hb
        rw [hb]
        refine iteF ?_
        have e : Kqb6.point (b :: c :: r) x = x :: b :: c :: r := by
          show (if Kqb6.between c b x = true then x :: c :: r else x :: b :: c :: r) = _
          rw [if_neg (by rw [hb]; exact Bool.false_ne_true)]
        rw [e] at k
        refine ⟨_, rfl, a, _, rfl, .inl (SqL.of ha), rfl, _, rfl, ?_⟩
        rw [show decide (V.int ((nums (b :: c :: r).reverse).length : Int) = V.int 1) = false from decide_eq_false (by intro q; injection q with q; rw [nums_len, List.length_reverse] at q; simp only [List.length_cons] at q; omega)]
        refine iteT ?_
        refine iteT ?_
        exact ⟨_, rfl, .inl ⟨rfl, _, SqL.of ha⟩, _, rfl, a, x, b :: c :: r, rfl, rfl, ha, hl, k⟩
/-! ### middle_is_inner -/
theorem scInn : FnScope ["row", "middle"] ["row"] (defScope sInn) := ⟨rfl, rfl, rfl, by decide +kernel, rfl, by decide +kernel, by decide +kernel⟩
theorem ok_inn {f : Addr} {fd : FuncData} (F : Fun K "middle_is_inner" "middle_is_inner" sInn f fd) (T : Txt mg) : FnOk P w K mg base CX0 1 f fd ["row"] spInn := by
  refine F.ok scInn (fun vs H Q E h => ?_) (fun cdv A outer s H vs Q E hr h => ?_)
  · obtain ⟨a, l, rfl, _⟩ := h
    rfl
  · obtain ⟨a, l, rfl, ha, k⟩ := h
    refine ⟨_, pss_cons (ps_if (pt_cmpR op_lt (pe_callB call_len_seq rfl T.len PySem.boot_len (pa_cons (pv 0) pa_nil)) pe_int (nomark _)) (pss_one (ps_ret pe_bl)) pss_nil)
      (pss_cons (ps_set (i := 1) scInn.nd rfl (Or.inl rfl) (pe_callB call_abs rfl T.abs boot_abs (pa_cons (pe_op op_sub (pe_ix ix_list (pv 0) (pe_un un_neg pe_int) (fun _ _ => rfl)) (pe_ix ix_list (pv 0) (pe_un un_neg pe_int) (fun _ _ => rfl))) pa_nil)))
      (pss_one (ps_ret (pe_and (pe_cmpR op_le (pv 1) (pe_callB call_abs rfl T.abs boot_abs (pa_cons (pe_op op_sub (pe_ix ix_list (pv 0) (pe_un un_neg pe_int) (fun _ _ => rfl)) (pe_ix ix_list (pv 0) (pe_un un_neg pe_int) (fun _ _ => rfl))) pa_nil)) (nomark _))
        (pe_one (pe_cmpR op_le (pv 1) (pe_callB call_abs rfl T.abs boot_abs (pa_cons (pe_op op_sub (pe_ix ix_list (pv 0) (pe_un un_neg pe_int) (fun _ _ => rfl)) (pe_ix ix_list (pv 0) (pe_un un_neg pe_int) (fun _ _ => rfl))) pa_nil)) (nomark _))))))), ?_⟩
    refine ⟨_, rfl, a, _, rfl, .inl (SqL.of ha), _, _, rfl, rfl, _, rfl, ?_⟩
    have hlen : ((nums l.reverse).length : Int) = (l.length : Int) := by rw [nums_len, List.length_reverse]
    rw [hlen]
    match l, ha, k with
    | [], ha, k => exact iteT k
    | [_], ha, k => exact iteT k
    | [_, _], ha, k => exact iteT k
    | [_, _, _], ha, k => exact iteT k
    | d :: c :: b :: e :: r, ha, k =>
      refine ite2 (fun h => absurd (of_decide_eq_true h) (by simp only [List.length_cons]; omega)) fun _ => ?_
      refine ⟨_, rfl, _, rfl, a, _, _, _, rfl, rfl, SqL.of ha, atR (k := 2) (n := b) rfl rfl, _, rfl, _, rfl, a, _, _, _, rfl, rfl, SqL.of ha, atR (k := 1) (n := c) rfl rfl, _, _, rfl, rfl, _, rfl, ?_⟩
      rw [far_abs]
      refine ⟨_, rfl, _, rfl, _, rfl, a, _, _, _, rfl, rfl, SqL.of ha, atR (k := 3) (n := e) rfl rfl, _, rfl, _, rfl, a, _, _, _, rfl, rfl, SqL.of ha, atR (k := 2) (n := b) rfl rfl, _, _, rfl, rfl, _, rfl, _, _, rfl, rfl, _, rfl, ?_⟩
      rw [far_abs]
      have ek : innerL (d :: c :: b :: e :: r) = (decide (Kqb6.far b c ≤ Kqb6.far e b) && decide (Kqb6.far b c ≤ Kqb6.far c d)) := rfl
      rw [ek] at k
      by_cases h1 : Kqb6.far b c ≤ Kqb6.far e b
      · rw [show decide (((Kqb6.far b c : Nat) : Int) ≤ ((Kqb6.far e b : Nat) : Int)) = true from decide_eq_true (by omega)]
        rw [decide_eq_true h1, Bool.true_and] at k
        refine iteT ?_
        refine ⟨_, rfl, _, rfl, _, rfl, a, _, _, _, rfl, rfl, SqL.of ha, atR (k := 1) (n := c) rfl rfl, _, rfl, _, rfl, a, _, _, _, rfl, rfl, SqL.of ha, atR (k := 0) (n := d) rfl rfl, _, _, rfl, rfl, _, rfl, _, _, rfl, rfl, ?_⟩
        rw [far_abs]
        have e3 : decide (((Kqb6.far b c : Nat) : Int) ≤ ((Kqb6.far c d : Nat) : Int)) = decide (Kqb6.far b c ≤ Kqb6.far c d) := by
          rw [Bool.eq_iff_iff, decide_eq_true_eq, decide_eq_true_eq]; omega
        show Q (V.bl (decide (((Kqb6.far b c : Nat) : Int) ≤ ((Kqb6.far c d : Nat) : Int)))) H
        rw [e3]
        exact k
      · rw [show decide (((Kqb6.far b c : Nat) : Int) ≤ ((Kqb6.far e b : Nat) : Int)) = false from decide_eq_false (by omega)]
        rw [decide_eq_false h1, Bool.false_and] at k
        exact iteF k
/-! ### take_out_inner -/
theorem scOut : FnScope ["row", "gone", "last", "third", "second"] ["row"] (defScope sOut) := ⟨rfl, rfl, rfl, by decide +kernel, rfl, by decide +kernel, by decide +kernel⟩
theorem ok_out {f : Addr} {fd : FuncData} (F : Fun K "take_out_inner" "take_out_inner" sOut f fd) (T : Txt mg) (cI : Cal P w K mg base "middle_is_inner" 1 ["row"] spInn) : FnOk P w K mg base CX0 2 f fd ["row"] spOut := by
  refine F.ok scOut (fun vs H Q E h => ?_) (fun cdv A outer s H vs Q E hr h => ?_)
  · obtain ⟨a, l, rfl, _⟩ := h
    rfl
  · obtain ⟨a, l, rfl, ha, hl, k⟩ := h
    refine ⟨_, pss_cons (ps_set (i := 1) scOut.nd rfl (Or.inl rfl) (pe_lst pa_nil))
      (pss_cons (ps_while PassesOwn.never (pt_val (pe_callC cI hr rfl (pa_cons (pv 0) pa_nil)))
        (pss_cons (ps_set (i := 2) scOut.nd rfl (Or.inl rfl) (pe_bm0 PySem.F.plainAttrs_list PySem.F.slot_list_pop PySem.F.type_list_pop mt_popR (pv 0)))
        (pss_cons (ps_set (i := 3) scOut.nd rfl (Or.inl rfl) (pe_bm0 PySem.F.plainAttrs_list PySem.F.slot_list_pop PySem.F.type_list_pop mt_popR (pv 0)))
        (pss_cons (ps_set (i := 4) scOut.nd rfl (Or.inl rfl) (pe_bm0 PySem.F.plainAttrs_list PySem.F.slot_list_pop PySem.F.type_list_pop mt_popR (pv 0)))
        (pss_cons (ps_expr (pe_bm PySem.F.plainAttrs_list PySem.F.slot_list_append PySem.F.type_list_append mt_appR (pv 0) (pa_cons (pv 2) pa_nil)))
        (pss_one (ps_expr (pe_bm PySem.F.plainAttrs_list PySem.F.slot_list_append PySem.F.type_list_append mt_appI (pv 1) (pa_cons (pe_callB call_abs rfl T.abs boot_abs (pa_cons (pe_op op_sub (pv 4) (pv 3)) pa_nil)) pa_nil)))))))))
      (pss_one (ps_ret (pv 1)))), ?_⟩
    refine ⟨Nat.zero_le _, fun p hp => ?_⟩
    have hap : a ≠ p := ne_of_none ha hp
    refine ⟨fun m σ H' => ∃ (l' o' : List Nat) (v2 v3 v4 : Option V), σ = [some (.ref a), some (.ref p), v2, v3, v4] ∧ m = l'.length ∧ SameOff [a] H H' ∧ H' a = some (.lst (nums l'.reverse)) ∧ H' p = some (.lst (nums o')) ∧
      settled l' o' = settled l [] ∧ l'.length + o'.length ≤ l.length,
      ⟨_, l, [], none, none, none, rfl, rfl, SameOff.of (same_new hp), by rw [upd_ne hap]; exact ha, upd_same, rfl, Nat.le_refl _⟩, ?_⟩
    rintro m σ H' ⟨l', o', v2, v3, v4, rfl, rfl, so, h1, h2, hs, hb⟩
    refine ⟨_, rfl, a, l', rfl, h1, _, rfl, ?_⟩
    cases hi : innerL l' with
    | false =>
      refine iteF ⟨_, rfl, ?_⟩
      rw [settled_out hi] at hs
      rw [← hs] at k
      exact k H' p hp so h1 h2
    | true =>
      obtain ⟨d, c, b, e, r, rfl, hin⟩ := innerL_true hi
      rw [settled_in hin] at hs
      refine iteT ⟨fun σ' H'' => ∃ (l' o' : List Nat) (v2 v3 v4 : Option V), σ' = [some (.ref a), some (.ref p), v2, v3, v4] ∧ r.length + 2 = l'.length ∧ SameOff [a] H H'' ∧ H'' a = some (.lst (nums l'.reverse)) ∧ H'' p = some (.lst (nums o')) ∧
        settled l' o' = settled l [] ∧ l'.length + o'.length ≤ l.length, fun σ' H'' q => ⟨r.length + 2, by simp only [List.length_cons]; omega, q⟩, ?_⟩
      simp only [List.length_cons] at hb
      have hpa : p ≠ a := fun q => hap q.symm
      refine ⟨_, rfl, .inl ⟨rfl, _, SqL.of h1⟩, a, d, c :: b :: e :: r, rfl, rfl, h1, ?_⟩
      refine ⟨_, rfl, .inl ⟨rfl, _, SqL.of upd_same⟩, a, c, b :: e :: r, rfl, rfl, upd_same, ?_⟩
      refine ⟨_, rfl, .inl ⟨rfl, _, SqL.of upd_same⟩, a, b, e :: r, rfl, rfl, upd_same, ?_⟩
      rw [upd_upd, upd_upd]
      refine ⟨_, rfl, .inl ⟨rfl, _, SqL.of upd_same⟩, _, rfl, a, d, e :: r, rfl, rfl, upd_same, by simp only [List.length_cons]; omega, ?_⟩
      rw [upd_upd]
      have h2' : upd H' a (.lst (nums (d :: e :: r).reverse)) p = some (.lst (nums o')) := by rw [upd_ne hpa]; exact h2
      refine ⟨_, rfl, .inl ⟨rfl, _, SqL.of h2'⟩, _, rfl, _, rfl, _, _, rfl, rfl, _, rfl, p, Kqb6.far b c, o', rfl, ?_, h2', by omega, ?_⟩
      · rw [far_abs] <;> rfl
      · refine ⟨d :: e :: r, o' ++ [Kqb6.far b c], _, _, _, rfl, by simp only [List.length_cons], (so.upd (.inl (List.mem_singleton.mpr rfl))).upd (.inr hp), ?_, upd_same, hs, ?_⟩
        · rw [upd_ne hap, upd_same]
        · simp only [List.length_cons, List.length_append, List.length_nil]; omega
/-! ### come -/
theorem scCome : FnScope ["row", "reading"] ["row", "reading"] (defScope sCome) := ⟨rfl, rfl, rfl, by decide +kernel, rfl, by decide +kernel, by decide +kernel⟩
theorem ok_come {f : Addr} {fd : FuncData} (F : Fun K "come" "come" sCome f fd) (cP : Cal P w K mg base "put" 2 ["row", "reading"] spPut) (cO : Cal P w K mg base "take_out_inner" 2 ["row"] spOut) : FnOk P w K mg base CX0 3 f fd ["row", "reading"] spCome := by
  refine F.ok scCome (fun vs H Q E h => ?_) (fun cdv A outer s H vs Q E hr h => ?_)
  · obtain ⟨a, l, x, rfl, _⟩ := h
    rfl
  · obtain ⟨a, l, x, rfl, ha, hl, k⟩ := h
    refine ⟨_, pss_cons (ps_expr (pe_callC cP hr rfl (pa_cons (pv 0) (pa_cons (pv 1) pa_nil)))) (pss_one (ps_ret (pe_callC cO hr rfl (pa_cons (pv 0) pa_nil)))), ?_⟩
    refine ⟨_, rfl, _, rfl, a, l, x, rfl, ha, by omega, ?_⟩
    refine ⟨_, rfl, a, Kqb6.point l x, rfl, upd_same, Nat.lt_of_le_of_lt (point_len l x) hl, fun H' p hp so h1 h2 => ?_⟩
    have hap : a ≠ p := fun q => by rw [← q, upd_same] at hp; cases hp
    rw [upd_ne (fun q => hap q.symm)] at hp
    refine k H' p hp (fun b o e n => so b o (by rw [upd_ne (fun q => n (List.mem_singleton.mpr q))]; exact e) n) h1 h2
end
end Sw
namespace Sw
open PySem PySem.Spec PyProof.Rows L2
/-! ### promises -/
def spHalf : Sp := fun vs H Q _ => ∃ (a : Addr) (l : List Nat), vs = [.ref a] ∧ H a = some (.lst (nums l.reverse)) ∧ l.length < sizeLine ∧
  ∀ (H' : Hp) (p : Addr), H p = none → Same H H' → H' p = some (.lst (nums (dif l.reverse))) → Q (.ref p) H'
def spRises : Sp := fun vs H Q _ => ∃ (a : Addr) (l : List Nat), vs = [.ref a] ∧ H a = some (.lst (nums l)) ∧ l.length < sizeLine ∧
  ∀ H' : Hp, Same H H' → Q (.bl (risesB l)) H'
def spFalls : Sp := fun vs H Q _ => ∃ (a : Addr) (l : List Nat), vs = [.ref a] ∧ H a = some (.lst (nums l)) ∧ l.length < sizeLine ∧
  ∀ H' : Hp, Same H H' → Q (.bl (growsB l)) H'
def spIsTab : Sp := fun vs H Q _ => ∃ (a b : Addr) (f h : List Nat), vs = [.ref a, .ref b] ∧ H a = some (.lst (nums f)) ∧ H b = some (.lst (nums h)) ∧ f.length < sizeLine ∧ h.length < sizeLine ∧
  ∀ H' : Hp, Same H H' → Q (.bl (Kqb6.okTable f h)) H'
/-- a table at t: its rows are pairs -/
def TabAt (H : Hp) (t : Addr) (rows : List Kqb6.Row) : Prop := ∃ ps : List Addr, H t = some (.lst (ps.map V.ref)) ∧ Paired (fun (p : Addr) (r : Kqb6.Row) => H p = some (.tup [.int (r.from_ : Int), .int (r.harm : Int)])) ps rows
def spHarm : Sp := fun vs H Q _ => ∃ (t : Addr) (rows : List Kqb6.Row) (n : Nat), vs = [.ref t, .int (n : Int)] ∧ TabAt H t rows ∧ Q (.int (Kqb6.harm rows n : Nat)) H
def spHarmAll : Sp := fun vs H Q _ => ∃ (t a : Addr) (rows : List Kqb6.Row) (l : List Nat), vs = [.ref t, .ref a] ∧ TabAt H t rows ∧ H a = some (.lst (nums l)) ∧ l.length < sizeLine ∧
  ∀ H' : Hp, Same H H' → Q (.int (Kqb6.sum (l.map (Kqb6.harm rows)) : Nat)) H'
theorem Paired.at {α β : Type} {F : α → β → Prop} : ∀ {xs : List α} {ys : List β} {i : Nat} {x : α}, Paired F xs ys → xs[i]? = some x → ∃ y, ys[i]? = some y ∧ F x y
  | _, _, _, _, .nil, e => by simp at e
  | _, _, 0, _, .cons r _, e => by simp at e; subst e; exact ⟨_, rfl, r⟩
  | _, _, i + 1, x, .cons _ t, e => by
    obtain ⟨u, h1, h2⟩ := Paired.at (i := i) (x := x) t (by simpa using e)
    exact ⟨u, by simpa using h1, h2⟩
theorem TabAt.same {H H' : Hp} {t : Addr} {rows : List Kqb6.Row} (h : TabAt H t rows) (s : Same H H') : TabAt H' t rows := by
  obtain ⟨ps, h1, h2⟩ := h
  exact ⟨ps, s _ _ h1, Paired.imp' (fun p r e => s _ _ e) h2⟩
section
variable {P : Program} {w : World} {K : PySem.W.Frag} {mg : Str → Option Value} {base : Heap}
/-! ### half_swings -/
theorem scHalf : FnScope ["row", "k"] ["row"] (defScope sHalf) := ⟨rfl, rfl, rfl, by decide +kernel, rfl, by decide +kernel, by decide +kernel⟩
theorem ok_half {f : Addr} {fd : FuncData} (F : Fun K "half_swings" "half_swings" sHalf f fd) (T : Txt mg) : FnOk P w K mg base CX0 1 f fd ["row"] spHalf := by
  refine F.ok scHalf (fun vs H Q E h => ?_) (fun cdv A outer s H vs Q E hr h => ?_)
  · obtain ⟨a, l, rfl, _⟩ := h
    rfl
  · obtain ⟨a, l, rfl, ha, hl, k⟩ := h
    refine ⟨_, pss_one (ps_ret (pe_lc rfl scHalf.nd (pi_range1 rfl T.range (pa_cons (pe_op op_sub (pe_callB call_len_seq rfl T.len PySem.boot_len (pa_cons (pv 0) pa_nil)) pe_int) pa_nil)) (blkOk_by (own := [("k", 1)]) (show blkC ["row", "k"] (defScope sHalf) _ [("k", 1)] = true by decide +kernel))
      (fun _ _ _ _ _ => pg_name (i := 1) scHalf.nd rfl (Or.inl rfl)) (fun _ _ _ _ _ => pts_nil)
      (fun _ _ _ _ _ => pe_callB call_abs rfl T.abs boot_abs (pa_cons (pe_op op_sub (pe_ix (r := rIxL K) ix_list (pv 0) (pe_op op_add (pv 1) pe_int) (fun _ _ => rfl)) (pe_ix (r := rIxL K) ix_list (pv 0) (pv 1) (fun _ _ => rfl))) pa_nil)))), ?_⟩
    have hlen : ((nums l.reverse).length : Int) = (l.length : Int) := by rw [nums_len, List.length_reverse]
    have hline : (sizeLine : Nat) < 2 ^ 62 := by rw [sizeLine_eq]; decide
    refine ⟨_, rfl, a, _, rfl, .inl (SqL.of ha), _, _, rfl, rfl, _, rfl, by rw [hlen]; omega, by rw [hlen]; omega, fun D hD => ?_⟩
    have hn : (((nums l.reverse).length : Int) - 1).toNat = (dif l.reverse).length := by rw [hlen, dif_len, List.length_reverse]; omega
    rw [hn]
    refine lc_range (fun i H' => Same H H' ∧ H' D = some (.lst (nums ((dif l.reverse).take i)))) ⟨same_new hD, upd_same⟩ (fun i H' hi ⟨sm, hD'⟩ => ?_) (fun H' ⟨sm, hD'⟩ => ?_)
    · have hi' : i + 1 < l.reverse.length := by rw [dif_len] at hi; omega
      obtain ⟨x, hx⟩ : ∃ x, l.reverse[i]? = some x := ⟨_, List.getElem?_eq_getElem (by omega)⟩
      obtain ⟨y, hy⟩ : ∃ y, l.reverse[i + 1]? = some y := ⟨_, List.getElem?_eq_getElem hi'⟩
      refine ⟨rfl, ?_⟩
      refine ⟨_, rfl, _, rfl, _, _, rfl, rfl, a, _, _, _, rfl, rfl, SqL.of (sm _ _ ha), at_of (j := i + 1) (by omega) (nums_get hy), _, rfl, _, rfl, a, _, _, _, rfl, rfl, SqL.of (sm _ _ ha), at_of (j := i) (by omega) (nums_get hx), _, _, rfl, rfl, _, rfl, _, hD', ?_, same_upd sm hD, ?_⟩
      · rw [nums_len, List.length_take, dif_len, List.length_reverse]; omega
      · rw [upd_same, far_abs, take_snoc (dif_get _ i hx hy), nums_app, nums_one, far_comm]
    · rw [List.take_length] at hD'
      exact k H' D hD sm hD'
/-! ### rises, never_falls -/
theorem take_okAt (p : Nat → Nat → Bool) {l : List Nat} {i x y : Nat} (hx : l[i]? = some x) (hy : l[i + 1]? = some y) : (okAt p l).take (i + 1) = (okAt p l).take i ++ [p x y] := by
  refine take_snoc ?_
  have hi : i + 1 < l.length := (List.getElem?_eq_some_iff.mp hy).1
  unfold okAt
  rw [List.getElem?_map, List.getElem?_range (by omega)]
  show some (p (l.getD i 0) (l.getD (i + 1) 0)) = some (p x y)
  rw [List.getD_eq_getElem?_getD, List.getD_eq_getElem?_getD, hx, hy]
  rfl
theorem okAt_len (p : Nat → Nat → Bool) (l : List Nat) : (okAt p l).length = l.length - 1 := by
  unfold okAt
  rw [List.length_map, List.length_range]
theorem scRises : FnScope ["sizes", "k"] ["sizes"] (defScope sRises) := ⟨rfl, rfl, rfl, by decide +kernel, rfl, by decide +kernel, by decide +kernel⟩
theorem ok_rises {f : Addr} {fd : FuncData} (F : Fun K "rises" "rises" sRises f fd) (T : Txt mg) : FnOk P w K mg base CX0 1 f fd ["sizes"] spRises := by
  refine F.ok scRises (fun vs H Q E h => ?_) (fun cdv A outer s H vs Q E hr h => ?_)
  · obtain ⟨a, l, rfl, _⟩ := h
    rfl
  · obtain ⟨a, l, rfl, ha, hl, k⟩ := h
    refine ⟨_, pss_one (ps_ret (pe_callB (cr_all rfl) rfl T.all boot_all (pa_cons (pe_lc rfl scRises.nd (pi_range1 rfl T.range (pa_cons (pe_op op_sub (pe_callB call_len_seq rfl T.len PySem.boot_len (pa_cons (pv 0) pa_nil)) pe_int) pa_nil)) (blkOk_by (own := [("k", 1)]) (show blkC ["sizes", "k"] (defScope sRises) _ [("k", 1)] = true by decide +kernel))
      (fun _ _ _ _ _ => pg_name (i := 1) scRises.nd rfl (Or.inl rfl)) (fun _ _ _ _ _ => pts_nil)
      (fun _ _ _ _ _ => pe_cmpR op_lt (pe_ix (r := rIxL K) ix_list (pv 0) (pv 1) (fun _ _ => rfl)) (pe_ix (r := rIxL K) ix_list (pv 0) (pe_op op_add (pv 1) pe_int) (fun _ _ => rfl)) (nomark _))) pa_nil))), ?_⟩
    have hline : (sizeLine : Nat) < 2 ^ 62 := by rw [sizeLine_eq]; decide
    refine ⟨_, rfl, a, _, rfl, .inl (SqL.of ha), _, _, rfl, rfl, _, rfl, by rw [nums_len]; omega, by rw [nums_len]; omega, fun D hD => ?_⟩
    have hn : (((nums l).length : Int) - 1).toNat = (okAt (fun x y => decide (x < y)) l).length := by rw [nums_len, okAt_len]; omega
    rw [hn]
    refine lc_range (fun i H' => Same H H' ∧ H' D = some (.lst (((okAt (fun x y => decide (x < y)) l).take i).map V.bl))) ⟨same_new hD, upd_same⟩ (fun i H' hi ⟨sm, hD'⟩ => ?_) (fun H' ⟨sm, hD'⟩ => ?_)
    · have hi' : i + 1 < l.length := by rw [okAt_len] at hi; omega
      obtain ⟨x, hx⟩ : ∃ x, l[i]? = some x := ⟨_, List.getElem?_eq_getElem (by omega)⟩
      obtain ⟨y, hy⟩ : ∃ y, l[i + 1]? = some y := ⟨_, List.getElem?_eq_getElem hi'⟩
      refine ⟨rfl, ?_⟩
      refine ⟨_, rfl, _, rfl, a, _, _, _, rfl, rfl, SqL.of (sm _ _ ha), at_of (j := i) (by omega) (nums_get hx), _, rfl, _, rfl, _, _, rfl, rfl, a, _, _, _, rfl, rfl, SqL.of (sm _ _ ha), at_of (j := i + 1) (by omega) (nums_get hy), _, _, rfl, rfl, _, hD', ?_, same_upd sm hD, ?_⟩
      · rw [List.length_map, List.length_take, okAt_len]; omega
      · have e : decide ((x : Int) < (y : Int)) = decide (x < y) := by rw [Bool.eq_iff_iff, decide_eq_true_eq, decide_eq_true_eq]; omega
        rw [upd_same, take_okAt _ hx hy, List.map_append]
        dsimp only
        rw [e]
        rfl
    · rw [List.take_length] at hD'
      refine ⟨D, _, rfl, SqL.of hD', ?_⟩
      rw [okAt_all]
      exact k H' sm
theorem scFalls : FnScope ["harms", "k"] ["harms"] (defScope sFalls) := ⟨rfl, rfl, rfl, by decide +kernel, rfl, by decide +kernel, by decide +kernel⟩
theorem ok_falls {f : Addr} {fd : FuncData} (F : Fun K "never_falls" "never_falls" sFalls f fd) (T : Txt mg) : FnOk P w K mg base CX0 1 f fd ["harms"] spFalls := by
  refine F.ok scFalls (fun vs H Q E h => ?_) (fun cdv A outer s H vs Q E hr h => ?_)
  · obtain ⟨a, l, rfl, _⟩ := h
    rfl
  · obtain ⟨a, l, rfl, ha, hl, k⟩ := h
    refine ⟨_, pss_one (ps_ret (pe_callB (cr_all rfl) rfl T.all boot_all (pa_cons (pe_lc rfl scFalls.nd (pi_range1 rfl T.range (pa_cons (pe_op op_sub (pe_callB call_len_seq rfl T.len PySem.boot_len (pa_cons (pv 0) pa_nil)) pe_int) pa_nil)) (blkOk_by (own := [("k", 1)]) (show blkC ["harms", "k"] (defScope sFalls) _ [("k", 1)] = true by decide +kernel))
      (fun _ _ _ _ _ => pg_name (i := 1) scFalls.nd rfl (Or.inl rfl)) (fun _ _ _ _ _ => pts_nil)
      (fun _ _ _ _ _ => pe_cmpR op_le (pe_ix (r := rIxL K) ix_list (pv 0) (pv 1) (fun _ _ => rfl)) (pe_ix (r := rIxL K) ix_list (pv 0) (pe_op op_add (pv 1) pe_int) (fun _ _ => rfl)) (nomark _))) pa_nil))), ?_⟩
    have hline : (sizeLine : Nat) < 2 ^ 62 := by rw [sizeLine_eq]; decide
    refine ⟨_, rfl, a, _, rfl, .inl (SqL.of ha), _, _, rfl, rfl, _, rfl, by rw [nums_len]; omega, by rw [nums_len]; omega, fun D hD => ?_⟩
    have hn : (((nums l).length : Int) - 1).toNat = (okAt (fun x y => decide (x ≤ y)) l).length := by rw [nums_len, okAt_len]; omega
    rw [hn]
    refine lc_range (fun i H' => Same H H' ∧ H' D = some (.lst (((okAt (fun x y => decide (x ≤ y)) l).take i).map V.bl))) ⟨same_new hD, upd_same⟩ (fun i H' hi ⟨sm, hD'⟩ => ?_) (fun H' ⟨sm, hD'⟩ => ?_)
    · have hi' : i + 1 < l.length := by rw [okAt_len] at hi; omega
      obtain ⟨x, hx⟩ : ∃ x, l[i]? = some x := ⟨_, List.getElem?_eq_getElem (by omega)⟩
      obtain ⟨y, hy⟩ : ∃ y, l[i + 1]? = some y := ⟨_, List.getElem?_eq_getElem hi'⟩
      refine ⟨rfl, ?_⟩
      refine ⟨_, rfl, _, rfl, a, _, _, _, rfl, rfl, SqL.of (sm _ _ ha), at_of (j := i) (by omega) (nums_get hx), _, rfl, _, rfl, _, _, rfl, rfl, a, _, _, _, rfl, rfl, SqL.of (sm _ _ ha), at_of (j := i + 1) (by omega) (nums_get hy), _, _, rfl, rfl, _, hD', ?_, same_upd sm hD, ?_⟩
      · rw [List.length_map, List.length_take, okAt_len]; omega
      · have e : decide ((x : Int) ≤ (y : Int)) = decide (x ≤ y) := by rw [Bool.eq_iff_iff, decide_eq_true_eq, decide_eq_true_eq]; omega
        rw [upd_same, take_okAt _ hx hy, List.map_append]
        dsimp only
        rw [e]
        rfl
    · rw [List.take_length] at hD'
      refine ⟨D, _, rfl, SqL.of hD', ?_⟩
      rw [okAt_all]
      exact k H' sm
/-! ### harm_of -/
theorem scHarm : FnScope ["table", "size", "found", "reached_from", "harm"] ["table", "size"] (defScope sHarm) := ⟨rfl, rfl, rfl, by decide +kernel, rfl, by decide +kernel, by decide +kernel⟩
theorem ok_harm {f : Addr} {fd : FuncData} (F : Fun K "harm_of" "harm_of" sHarm f fd) (T : Txt mg) : FnOk P w K mg base CX0 1 f fd ["table", "size"] spHarm := by
  refine F.ok scHarm (fun vs H Q E h => ?_) (fun cdv A outer s H vs Q E hr h => ?_)
  · obtain ⟨a, l, n, rfl, _⟩ := h
    rfl
  · obtain ⟨t, rows, n, rfl, ⟨ps, ht, hp⟩, k⟩ := h
    refine ⟨_, pss_cons (ps_set (i := 2) scHarm.nd rfl (Or.inl rfl) pe_int)
      (pss_cons (ps_for PassesOwn.never rfl (pi_list (pv 0)) (pg_tup rfl (pgs_cons (pg_name (i := 3) scHarm.nd rfl (Or.inl rfl)) (pgs_cons (pg_name (i := 4) scHarm.nd rfl (Or.inl rfl)) pgs_nil)))
        (pss_one (ps_if (pt_cmpR op_le (pv 3) (pv 1) (nomark _)) (pss_one (ps_set (i := 2) scHarm.nd rfl (Or.inl rfl) (pv 4))) pss_nil)))
      (pss_one (ps_ret (pv 2)))), ?_⟩
    have hpl : ps.length = rows.length := Paired.length hp
    refine ⟨_, rfl, t, rfl, ⟨_, SqL.of ht⟩, for_list (K := K) (a := t) (xs := ps.map V.ref) (fun i σ H' => ∃ v3 v4 : Option V, σ = [some (.ref t), some (.int (n : Int)), some (.int (Kqb6.harm (rows.take i) n : Nat)), v3, v4] ∧ H' = H)
      ⟨none, none, rfl, rfl⟩ (fun i σ H' _ ⟨_, _, _, e⟩ => by subst e; exact SqL.of ht) ?_ ?_⟩
    · rintro i y σ H' hi ⟨v3, v4, rfl, rfl⟩
      obtain ⟨p, hpi, rfl⟩ : ∃ p, ps[i]? = some p ∧ y = V.ref p := by
        rw [List.getElem?_map] at hi
        cases e : ps[i]? with
        | none => rw [e] at hi; cases hi
        | some c => rw [e] at hi; exact ⟨c, rfl, (Option.some.inj hi).symm⟩
      obtain ⟨r, hr', hrp⟩ := Paired.at hp hpi
      refine ⟨p, _, rfl, SqT.of hrp, rfl, _, _, rfl, _, _, rfl, rfl, ?_⟩
      refine ⟨_, rfl, _, rfl, _, _, rfl, rfl, _, rfl, ?_⟩
      rw [show rows.take (i + 1) = rows.take i ++ [r] from take_snoc hr', harm_snoc]
      by_cases hle : r.from_ ≤ n
      · rw [show decide ((r.from_ : Int) ≤ (n : Int)) = true from decide_eq_true (by omega), if_pos hle]
        exact iteT ⟨_, rfl, _, _, rfl, rfl⟩
      · rw [show decide ((r.from_ : Int) ≤ (n : Int)) = false from decide_eq_false (by omega), if_neg hle]
        exact iteF ⟨_, _, rfl, rfl⟩
    · rintro σ H' ⟨v3, v4, rfl, rfl⟩
      refine ⟨_, rfl, ?_⟩
      rw [List.length_map, hpl, List.take_length]
      exact k
/-! ### harm_of_all -/
theorem scHarmAll : FnScope ["table", "sizes", "size"] ["table", "sizes"] (defScope sHarmAll) := ⟨rfl, rfl, rfl, by decide +kernel, rfl, by decide +kernel, by decide +kernel⟩
theorem ok_harmAll {f : Addr} {fd : FuncData} (F : Fun K "harm_of_all" "harm_of_all" sHarmAll f fd) (T : Txt mg) (cH : Cal P w K mg base "harm_of" 1 ["table", "size"] spHarm) : FnOk P w K mg base CX0 2 f fd ["table", "sizes"] spHarmAll := by
  refine F.ok scHarmAll (fun vs H Q E h => ?_) (fun cdv A outer s H vs Q E hr h => ?_)
  · obtain ⟨t, a, rows, l, rfl, _⟩ := h
    rfl
  · obtain ⟨t, a, rows, l, rfl, ht, ha, hl, k⟩ := h
    refine ⟨_, pss_one (ps_ret (pe_callB (cr_sum rfl) rfl T.sum boot_sum (pa_cons (pe_lc rfl scHarmAll.nd (pi_list (pv 1)) (blkOk_by (own := [("size", 2)]) (show blkC ["table", "sizes", "size"] (defScope sHarmAll) _ [("size", 2)] = true by decide +kernel))
      (fun _ _ _ _ _ => pg_name (i := 2) scHarmAll.nd rfl (Or.inl rfl)) (fun _ _ _ _ _ => pts_nil) (fun _ _ _ _ _ => pe_callC cH hr rfl (pa_cons (pv 0) (pa_cons (pv 2) pa_nil)))) pa_nil))), ?_⟩
    refine ⟨_, rfl, a, rfl, ⟨_, SqL.of ha⟩, fun D hD => ?_⟩
    refine lc_list (K := K) (a := a) (xs := nums l) (fun i H' => Same H H' ∧ H' D = some (.lst (nums ((l.map (Kqb6.harm rows)).take i)))) ⟨same_new hD, upd_same⟩ (fun i H' _ ⟨sm, _⟩ => SqL.of (sm _ _ ha)) (fun i y H' hi ⟨sm, hD'⟩ => ?_) (fun H' ⟨sm, hD'⟩ => ?_)
    · obtain ⟨n, hn, rfl⟩ := nums_get' hi
      refine ⟨rfl, ?_⟩
      refine ⟨_, rfl, _, rfl, t, rows, n, rfl, ht.same sm, _, hD', ?_, same_upd sm hD, ?_⟩
      · rw [nums_len, List.length_take, List.length_map]; omega
      · have e : (l.map (Kqb6.harm rows))[i]? = some (Kqb6.harm rows n) := by rw [List.getElem?_map, hn]; rfl
        rw [upd_same, take_snoc e, nums_app, nums_one]
    · rw [nums_len, ← List.length_map (f := Kqb6.harm rows), List.take_length] at hD'
      refine ⟨D, (l.map (Kqb6.harm rows)).map fun n : Nat => (n : Int), rfl, SqL.of (by rw [← nums_int]; exact hD'), ?_⟩
      rw [sum_int]
      exact k H' sm
end
end Sw
namespace Sw
open PySem PySem.Spec PyProof.Rows L2
theorem atLast {f : List Nat} {n : Nat} (h : f.getLast? = some n) : atI (nums f) (-1) = some (V.int (n : Int)) := by
  have e : f = f.reverse.reverse := (List.reverse_reverse f).symm
  rw [e]
  refine atR (k := 0) rfl ?_
  rw [← List.head?_eq_getElem?, List.head?_reverse]
  exact h
theorem dec_len (m n : Nat) : decide (V.int (m : Int) = V.int (n : Int)) = decide (m = n) := by
  rw [Bool.eq_iff_iff, decide_eq_true_eq, decide_eq_true_eq]
  constructor
  · intro q; injection q with q; omega
  · intro q; rw [q]
section
variable {P : Program} {w : World} {K : PySem.W.Frag} {mg : Str → Option Value} {base : Heap}
/-! ### is_table -/
theorem scIsTab : FnScope ["froms", "harms"] ["froms", "harms"] (defScope sIsTab) := ⟨rfl, rfl, rfl, by decide +kernel, rfl, by decide +kernel, by decide +kernel⟩
theorem ok_isTab {fa : Addr} {fd : FuncData} (F : Fun K "is_table" "is_table" sIsTab fa fd) (T : Txt mg) (cR : Cal P w K mg base "rises" 1 ["sizes"] spRises) (cF : Cal P w K mg base "never_falls" 1 ["harms"] spFalls) :
    FnOk P w K mg base CX0 2 fa fd ["froms", "harms"] spIsTab := by
  refine F.ok scIsTab (fun vs H Q E h => ?_) (fun cdv A outer s H vs Q E hr h => ?_)
  · obtain ⟨a, b, f, h, rfl, _⟩ := h
    rfl
  · obtain ⟨a, b, f, h, rfl, ha, hb, lf, lh, k⟩ := h
    refine ⟨_, pss_cons (ps_if (PW.pt (pw_or (pt_cmpR op_lt (pe_callB call_len_seq rfl T.len PySem.boot_len (pa_cons (pv 0) pa_nil)) pe_int (nomark _))
        (pw_or (pt_cmpR op_gt (pe_callB call_len_seq rfl T.len PySem.boot_len (pa_cons (pv 0) pa_nil)) (pe_g T.mostRows rfl) (nomark _))
        (pw_or1 (pt_cmpR op_ne (pe_callB call_len_seq rfl T.len PySem.boot_len (pa_cons (pv 0) pa_nil)) (pe_callB call_len_seq rfl T.len PySem.boot_len (pa_cons (pv 1) pa_nil)) (nomark _))))))
        (pss_one (ps_ret pe_bl)) pss_nil)
      (pss_one (ps_ret (pe_and (pe_callC cR hr rfl (pa_cons (pv 0) pa_nil)) (pe_and (pe_cmpR op_le (pe_ix ix_list (pv 0) (pe_un un_neg pe_int) (fun _ _ => rfl)) (pe_g T.topSize rfl) (nomark _))
        (pe_and (pe_callC cF hr rfl (pa_cons (pv 1) pa_nil)) (pe_one (pe_cmpR op_le (pe_ix ix_list (pv 1) (pe_un un_neg pe_int) (fun _ _ => rfl)) (pe_g T.topHarm rfl) (nomark _)))))))), ?_⟩
    have kno : (f.length < 1 ∨ 8 < f.length ∨ f.length ≠ h.length) → Q (.bl false) H := fun n => by
      have := k H (Same.refl H)
      rw [okTable_no f h n] at this
      exact this
    refine ⟨_, rfl, a, _, rfl, .inl (SqL.of ha), _, _, rfl, rfl, _, rfl, ite2 (fun h1 => iteT (kno (.inl ?_))) (fun h1 => ?_)⟩
    · have := of_decide_eq_true h1; rw [nums_len] at this; omega
    refine ⟨_, rfl, a, _, rfl, .inl (SqL.of ha), _, _, rfl, rfl, _, rfl, ite2 (fun h2 => iteT (kno (.inr (.inl ?_)))) (fun h2 => ?_)⟩
    · have := of_decide_eq_true h2; rw [nums_len] at this; omega
    refine ⟨_, rfl, a, _, rfl, .inl (SqL.of ha), _, rfl, b, _, rfl, .inl (SqL.of hb), rfl, _, rfl, ?_⟩
    rw [nums_len, nums_len, dec_len]
    by_cases h3 : f.length = h.length
    · rw [decide_eq_true h3]
      refine iteF ?_
      rw [nums_len, decide_eq_true_eq] at h1 h2
      have hf0 : f ≠ [] := by intro q; subst q; exact h1 (by decide)
      have hh0 : h ≠ [] := by intro q; subst q; exact hf0 (List.length_eq_zero_iff.mp h3)
      obtain ⟨y, hy⟩ : ∃ y, f.getLast? = some y := ⟨_, List.getLast?_eq_some_getLast hf0⟩
      obtain ⟨z, hz⟩ : ∃ z, h.getLast? = some z := ⟨_, List.getLast?_eq_some_getLast hh0⟩
      have hk : ∀ H' : Hp, Same H H' → Q (.bl (risesB f && (decide (y ≤ 1000) && (growsB h && decide (z ≤ 1000))))) H' := fun H' sm => by
        have := k H' sm
        rw [okTable_eq f h h3 (by omega) (by omega) hy hz] at this
        exact this
      refine ⟨_, rfl, a, f, rfl, ha, lf, fun H1 s1 => ⟨_, rfl, ?_⟩⟩
      cases hr1 : risesB f with
      | false =>
        have := hk H1 s1
        rw [hr1, Bool.false_and] at this
        exact iteF this
      | true =>
        refine iteT ⟨_, rfl, _, rfl, a, _, _, _, rfl, rfl, SqL.of (s1 _ _ ha), atLast hy, _, _, rfl, rfl, _, rfl, ?_⟩
        have ey : decide ((y : Int) ≤ 1000) = decide (y ≤ 1000) := by rw [Bool.eq_iff_iff, decide_eq_true_eq, decide_eq_true_eq]; omega
        rw [ey]
        cases hr2 : decide (y ≤ 1000) with
        | false =>
          have := hk H1 s1
          rw [hr1, hr2, Bool.true_and, Bool.false_and] at this
          exact iteF this
        | true =>
          refine iteT ⟨_, rfl, b, h, rfl, s1 _ _ hb, lh, fun H2 s2 => ⟨_, rfl, ?_⟩⟩
          cases hr3 : growsB h with
          | false =>
            have := hk H2 (s1.trans s2)
            rw [hr1, hr2, hr3, Bool.true_and, Bool.true_and, Bool.false_and] at this
            exact iteF this
          | true =>
            refine iteT ⟨_, rfl, _, rfl, b, _, _, _, rfl, rfl, SqL.of (s2 _ _ (s1 _ _ hb)), atLast hz, _, _, rfl, rfl, ?_⟩
            have ez : decide ((z : Int) ≤ 1000) = decide (z ≤ 1000) := by rw [Bool.eq_iff_iff, decide_eq_true_eq, decide_eq_true_eq]; omega
            show Q (V.bl (decide ((z : Int) ≤ 1000))) H2
            rw [ez]
            have := hk H2 (s1.trans s2)
            rw [hr1, hr2, hr3, Bool.true_and, Bool.true_and, Bool.true_and] at this
            exact this
    · rw [decide_eq_false h3]
      exact iteT (kno (.inr (.inr h3)))
end
end Sw
/-! list(zip(xs, ys)) -/
namespace Sw
open PySem PySem.Spec PyProof.Rows L2
section
variable {prog : Program} {w : World} {A : Around} {E : Value → Shared → Prop} {s : Shared}
/-- a zip that has handed out the pair at T0 -/
def ZipO (h : Heap) (z TI TO T0 : Addr) (f : Bool) : Prop := h.get? z = some { cls := .type "zip", dict := none, data := .fields #[rawInt T0, .bool f, .bool false, .ref TI, .ref TO], slots := #[] }
theorem own_alive {z TI TO T0 : Addr} {f : Bool} {oT : Obj} (hz : ZipO s.heap z TI TO T0 f) (hT : s.heap.get? T0 = some oT) :
    wpAny (model prog w) A (Builtin.SmallTypes.ownedTupleIsFree (.ref z)) (fun b s' => b = false ∧ ∃ h', s' = { s with heap := h' } ∧ ZipO h' z TI TO T0 true ∧ Heap.SameBut z s.heap h') E s := by
  unfold Builtin.SmallTypes.ownedTupleIsFree
  refine wpAny_bind (wpAny_field hz rfl (x := rawInt T0) rfl ?_)
  show wpAny _ _ (loadIfAlive ((T0 : Int).toNat) >>= _) _ _ _
  rw [Int.toNat_natCast]
  refine wpAny_bind (PySem.W.kdx_alive hT ?_)
  simp only [Option.isNone_some, Bool.false_eq_true, if_false]
  refine wpAny_bind (wpAny_field hz rfl (x := .bool f) rfl ?_)
  cases f with
  | true =>
    rw [if_neg (show ¬ ((Value.bool true != Value.bool true) = true) from Bool.false_ne_true)]
    exact wpAny_pure ⟨rfl, s.heap, rfl, hz, Heap.SameBut.refl _ _⟩
  | false =>
    rw [if_pos (show (Value.bool false != Value.bool true) = true from rfl)]
    refine wpAny_bind (wpAny_setField_rec hz (by simp) fun h' he hs => ?_)
    exact wpAny_pure ⟨rfl, h', rfl, he, hs⟩
theorem zip_out_item {z TI TO T0 i1 i2 l1 l2 : Addr} {f : Bool} {oT : Obj} {k1 k2 : Nat} {xs ys : Array Value} {x y : Value} {Q : Option Value → Shared → Prop} (D : ZipApart z TI TO i1 i2 l1 l2)
    (hz : ZipO s.heap z TI TO T0 f) (hT : s.heap.get? T0 = some oT) (hTI : IsPair s.heap TI (.ref i1) (.ref i2))
    (h1 : s.heap.IsListIter i1 l1 k1) (h2 : s.heap.IsListIter i2 l2 k2) (hl1 : s.heap.IsList l1 xs) (hl2 : s.heap.IsList l2 ys) (hx : xs[k1]? = some x) (hy : ys[k2]? = some y)
    (hQ : ∀ h', ZipO h' z TI TO T0 true → h'.IsListIter i1 l1 (k1 + 1) → h'.IsListIter i2 l2 (k2 + 1) → IsPair h' s.heap.objs.size x y → h'.objs.size = s.heap.objs.size + 1 →
      (∀ c o, c ≠ z → c ≠ i1 → c ≠ i2 → s.heap.get? c = some o → h'.get? c = some o) → Q (some (.ref s.heap.objs.size)) { s with heap := h' }) :
    wpAny (model prog w) A (pyNext (.ref z)) Q E s := by
  have hTy : s.TypeIs (.ref z) "zip" := ⟨_, hz, rfl⟩
  unfold pyNext
  refine wpAny_bind (wpAny_attempt (wpAny_callSpecial?_slot (name := Str.ofString "__next__") hTy PySem.F.slot_zip_next
    (wpAny_call_entry PySem.F.slot_zip_next hTy PySem.F.entry_zip_next ?_ (PySem.F.args_zip_next_1 _))))
  show wpAny _ _ (field (.ref z) 2 >>= _) _ _ _
  refine wpAny_bind (wpAny_field hz rfl (x := .bool false) rfl ?_)
  show wpAny _ _ (field (.ref z) 3 >>= _) _ _ _
  refine wpAny_bind (wpAny_field hz rfl (x := .ref TI) rfl ?_)
  refine wpAny_bind (wpAny_seqItems hTI rfl ?_)
  show wpAny _ _ (Builtin.SmallTypes.ownedTupleIsFree (.ref z) >>= _) _ _ _
  refine wpAny_bind (wpAny_mono (own_alive hz hT) (fun b s' ⟨eb, h₁, es, hz₁, sb₁⟩ => ?_) fun _ _ q => q)
  subst eb es
  simp only [Bool.false_eq_true, if_false]
  refine wpAny_bind ?_
  rw [← Array.forIn_toList]
  simp only [List.forIn_cons, List.forIn_nil]
  refine wpAny_bind (wpAny_bind (wpAny_holding ?_))
  show wpAny _ _ (Builtin.SmallTypes.nextOf (.ref i1) >>= _) _ _ _
  refine wpAny_bind (wpAny_nextOf_list_item (h1.extBut sb₁.extBut D.i1z) (hl1.extBut sb₁.extBut D.l1z) hx fun h₂ h1₂ hs₂ => wpAny_pure ?_)
  refine wpAny_pure ?_
  refine wpAny_bind (wpAny_bind (wpAny_holding ?_))
  show wpAny _ _ (Builtin.SmallTypes.nextOf (.ref i2) >>= _) _ _ _
  refine wpAny_bind (wpAny_nextOf_list_item ((h2.extBut sb₁.extBut D.i2z).extBut hs₂.extBut D.i12.symm) ((hl2.extBut sb₁.extBut D.l2z).extBut hs₂.extBut D.l2i1) hy fun h₃ h2₃ hs₃ => wpAny_pure ?_)
  refine wpAny_pure (wpAny_pure ?_)
  show wpAny _ _ (newTuple [x, y] >>= _) _ _ _
  refine wpAny_bind (wpAny_newTuple ?_)
  have hsz : h₃.objs.size = s.heap.objs.size := by rw [hs₃.1, hs₂.1, sb₁.1]
  have hz₃ : ZipO h₃ z TI TO T0 true := hs₃.extBut _ _ D.i2z.symm (hs₂.extBut _ _ D.i1z.symm hz₁)
  have hk : ∀ c o, c ≠ z → c ≠ i1 → c ≠ i2 → s.heap.get? c = some o → h₃.get? c = some o := fun c o c1 c3 c4 e => hs₃.extBut _ _ c4 (hs₂.extBut _ _ c3 (sb₁.extBut _ _ c1 e))
  have h1₃ : h₃.IsListIter i1 l1 (k1 + 1) := h1₂.extBut hs₃.extBut D.i12
  refine wpAny_pure ⟨_, rfl, wpAny_pure ?_⟩
  show Q (some (.ref h₃.objs.size)) _
  rw [hsz]
  refine hQ _ (Heap.get?_push_of_some _ hz₃) (h1₃.at fun o e => Heap.get?_push_of_some _ e) (h2₃.at fun o e => Heap.get?_push_of_some _ e) ?_ (by show (h₃.push _).objs.size = _; rw [Heap.size_push, hsz]) (fun c o c1 c3 c4 e => Heap.get?_push_of_some _ (hk c o c1 c3 c4 e))
  rw [← hsz]
  exact Heap.get?_push_size _ rfl
theorem zip_out_end {z TI TO T0 i1 i2 l1 l2 : Addr} {f : Bool} {oT : Obj} {k1 k2 : Nat} {xs ys : Array Value} {Q : Option Value → Shared → Prop} (hh : A.handled = none) (D : ZipApart z TI TO i1 i2 l1 l2)
    (hz : ZipO s.heap z TI TO T0 f) (hT : s.heap.get? T0 = some oT) (hTI : IsPair s.heap TI (.ref i1) (.ref i2))
    (h1 : s.heap.IsListIter i1 l1 k1) (h2 : s.heap.IsListIter i2 l2 k2) (hl1 : s.heap.IsList l1 xs) (hl2 : s.heap.IsList l2 ys) (hx : xs[k1]? = none)
    (hQ : ∀ h', (∀ c o, c ≠ z → c ≠ i1 → s.heap.get? c = some o → h'.get? c = some o) → Q none { s with heap := h' }) : wpAny (model prog w) A (pyNext (.ref z)) Q E s := by
  have hTy : s.TypeIs (.ref z) "zip" := ⟨_, hz, rfl⟩
  unfold pyNext
  refine wpAny_bind (wpAny_attempt (wpAny_callSpecial?_slot (name := Str.ofString "__next__") hTy PySem.F.slot_zip_next
    (wpAny_call_entry PySem.F.slot_zip_next hTy PySem.F.entry_zip_next ?_ (PySem.F.args_zip_next_1 _))))
  show wpAny _ _ (field (.ref z) 2 >>= _) _ _ _
  refine wpAny_bind (wpAny_field hz rfl (x := .bool false) rfl ?_)
  show wpAny _ _ (field (.ref z) 3 >>= _) _ _ _
  refine wpAny_bind (wpAny_field hz rfl (x := .ref TI) rfl ?_)
  refine wpAny_bind (wpAny_seqItems hTI rfl ?_)
  show wpAny _ _ (Builtin.SmallTypes.ownedTupleIsFree (.ref z) >>= _) _ _ _
  refine wpAny_bind (wpAny_mono (own_alive hz hT) (fun b s' ⟨eb, h₁, es, hz₁, sb₁⟩ => ?_) fun _ _ q => q)
  subst eb es
  simp only [Bool.false_eq_true, if_false]
  refine wpAny_bind ?_
  rw [← Array.forIn_toList]
  simp only [List.forIn_cons, List.forIn_nil]
  refine wpAny_bind (wpAny_bind (wpAny_holding ?_))
  show wpAny _ _ (Builtin.SmallTypes.nextOf (.ref i1) >>= _) _ _ _
  refine wpAny_bind (wpAny_nextOf_list_end hh (h1.extBut sb₁.extBut D.i1z) (hl1.extBut sb₁.extBut D.l1z) hx fun h₂ e hs₂ he => ?_)
  obtain ⟨oe, hoe, hce⟩ := he
  refine wpAny_bind (wpAny_isInstance (T := "StopIteration") (b := true) ⟨oe, hoe, hce⟩ isSubtype_stop ?_)
  exact wpAny_pure (hQ _ fun c o c1 c3 e => hs₂ _ _ c3 (sb₁.extBut _ _ c1 e))
theorem zip_any {z TI TO i1 i2 l1 l2 : Addr} {k1 k2 : Nat} {xs ys : Array Value} {x y : Value} {Pt : Addr → Prop} (D : ZipApart z TI TO i1 i2 l1 l2)
    (hst : IsZip s.heap z TI TO .none ∨ ∃ T0 f oT, ZipO s.heap z TI TO T0 f ∧ s.heap.get? T0 = some oT ∧ Pt T0) (hTO : ∃ p q, IsPair s.heap TO p q) (hTI : IsPair s.heap TI (.ref i1) (.ref i2))
    (h1 : s.heap.IsListIter i1 l1 k1) (h2 : s.heap.IsListIter i2 l2 k2) (hl1 : s.heap.IsList l1 xs) (hl2 : s.heap.IsList l2 ys) (hx : xs[k1]? = some x) (hy : ys[k2]? = some y) :
    wpAny (model prog w) A (pyNext (.ref z)) (fun r s' => r = some (.ref s.heap.objs.size) ∧ ∃ h', s' = { s with heap := h' } ∧ (∃ T0 f, ZipO h' z TI TO T0 f ∧ (T0 = s.heap.objs.size ∨ Pt T0)) ∧ (∃ p q, IsPair h' TO p q) ∧ IsPair h' TI (.ref i1) (.ref i2) ∧
      h'.IsListIter i1 l1 (k1 + 1) ∧ h'.IsListIter i2 l2 (k2 + 1) ∧ IsPair h' s.heap.objs.size x y ∧ ∀ c o, c ≠ z → c ≠ TO → c ≠ i1 → c ≠ i2 → s.heap.get? c = some o → h'.get? c = some o) E s := by
  obtain ⟨p, q, hTO⟩ := hTO
  rcases hst with hz | ⟨T0, f, oT, hz, hT, pt⟩
  · refine wpAny_pyNext_zip_item D hz hTI hTO h1 h2 hl1 hl2 hx hy fun h' z' TO' h1' h2' hT hsz hk => ?_
    exact ⟨rfl, h', rfl, ⟨_, false, z', .inl rfl⟩, ⟨_, _, TO'⟩, hk _ _ D.TIz D.TITO D.TIi1 D.TIi2 hTI, h1', h2', hT, hk⟩
  · refine zip_out_item D hz hT hTI h1 h2 hl1 hl2 hx hy fun h' z' h1' h2' hT' hsz hk => ?_
    exact ⟨rfl, h', rfl, ⟨T0, true, z', .inr pt⟩, ⟨p, q, hk _ _ D.TOz D.TOi1 D.TOi2 hTO⟩, hk _ _ D.TIz D.TIi1 D.TIi2 hTI, h1', h2', hT', fun c o c1 _ c3 c4 e => hk c o c1 c3 c4 e⟩
theorem zip_no_len : typeLookup (.type "zip") "__len__" = pure none := by rw [typeLookup_type, builtinLookup_eq_fast]; kernel_rfl
theorem zip_no_hint : typeLookup (.type "zip") "__length_hint__" = pure none := by rw [typeLookup_type, builtinLookup_eq_fast]; kernel_rfl
end
/-- a zip of the lists at a and b, i pairs taken -/
def ZSt (H : Hp) (h : Heap) (z TI TO i1 i2 a b : Addr) (i : Nat) : Prop :=
  IsPair h TI (.ref i1) (.ref i2) ∧ h.IsListIter i1 a i ∧ h.IsListIter i2 b i ∧ (∃ u v, IsPair h TO u v) ∧ ((i = 0 ∧ IsZip h z TI TO .none) ∨ ∃ T0 f ts, ZipO h z TI TO T0 f ∧ H T0 = some (.tup ts))
abbrev ZPs (H : Hp) : List Addr → List (V × V) → Prop := Paired fun p q => H p = some (.tup [q.1, q.2])
theorem ZPs.same {H H' : Hp} {ps : List Addr} {qs : List (V × V)} (h : ZPs H ps qs) (k : ∀ b ts, H b = some (.tup ts) → H' b = some (.tup ts)) : ZPs H' ps qs := Paired.imp' (fun p q e => k _ _ e) h
theorem ZPs.snoc {H : Hp} : ∀ {ps : List Addr} {qs : List (V × V)} {p : Addr} {q : V × V}, ZPs H ps qs → H p = some (.tup [q.1, q.2]) → ZPs H (ps ++ [p]) (qs ++ [q])
  | _, _, _, _, .nil, e => .cons e .nil
  | _, _, _, _, .cons r t, e => .cons r (ZPs.snoc t e)
section
variable {X : Cx} {pins : List (Addr × Obj)} {σ : L2.St}
theorem zip_loop {z TI TO i1 i2 a b S : Addr} {A : Around} (hh : A.handled = none) (D : ZipApart z TI TO i1 i2 a b) {xs ys : List V} (hlen : xs.length = ys.length) (hpos : 0 < xs.length) (hline : xs.length ≤ sizeLine) (res : Value) {R : Result → Shared → Prop} {H0 : Hp}
    (ha : SqL X.K H0 a xs) (hb : SqL X.K H0 b ys) (hS0 : H0 S = none)
    (hR : ∀ (H' : Hp) (s' : Shared) (ps : List Addr), Inv X pins σ H' s' → H' S = some (.lst (ps.map V.ref)) → ZPs H' ps (xs.zip ys) → Same H0 H' → (∀ p ∈ ps, H0 p = none) → R (.ok (.ret res)) s') :
    ∀ (k i : Nat) (H : Hp) (s : Shared) (ps : List Addr), xs.length - i = k → i ≤ xs.length → Inv X pins σ H s → (∀ c ∈ [z, TI, TO, i1, i2], FpOk X pins H c) → ZSt H s.heap z TI TO i1 i2 a b i → H S = some (.lst (ps.map V.ref)) → ps.length = i →
      ZPs H ps ((xs.zip ys).take i) → Same H0 H → (∀ p ∈ ps, H0 p = none) → codeAny (model X.prog X.w) A (.builtin "list.extend.loop" ⟨[.ref S, .ref z, res], []⟩) R s := by
  intro k
  induction k with
  | zero =>
    intro i H s ps hk hi I hf st hS hl hp sm fr
    have hin : i = xs.length := by omega
    subst hin
    obtain ⟨hTI, h1, h2, hTO, ⟨h0, _⟩ | ⟨T0, f, ts, hz, hT⟩⟩ := st
    · omega
    obtain ⟨itx, rx, px, _⟩ := I.list (sm.seq ha)
    obtain ⟨ity, ry, py, _⟩ := I.list (sm.seq hb)
    obtain ⟨_, itt, _, oT, hoT, _⟩ := I.hok T0 _ hT
    refine codeAny_builtin PySem.F.entry_extend_loop ?_
    rw [Around.under_plainId PySem.F.plain_extend_loop _]
    show wpAny _ A.in1 (pyNext (.ref z) >>= _) _ _ _
    refine wpAny_bind (zip_out_end (A := A.in1) hh D hz hoT hTI h1 h2 px.isList py.isList (by have := rx.length; simp; omega) fun h' hkp => ?_)
    have I1 : Inv X pins σ H { s with heap := h' } := I.turnedL (t' := s.toks) (ch := [z, TI, TO, i1, i2]) (fun c o hb' q => hkp c o (fun q' => hb' (by simp [q'])) (fun q' => hb' (by simp [q'])) q) hf
    rw [List.take_of_length_le (by rw [List.length_zip]; omega)] at hp
    exact wpAny_pure (hR H _ ps I1 hS hp sm fr)
  | succ k ih =>
    intro i H s ps hk hi I hf st hS hl hp sm fr
    have hlt : i < xs.length := by omega
    obtain ⟨x, hx⟩ : ∃ x, xs[i]? = some x := ⟨_, List.getElem?_eq_getElem hlt⟩
    obtain ⟨y, hy⟩ : ∃ y, ys[i]? = some y := ⟨_, List.getElem?_eq_getElem (by omega)⟩
    obtain ⟨hTI, h1, h2, hTO, hst⟩ := st
    obtain ⟨itx, rx, px, _⟩ := I.list (sm.seq ha)
    obtain ⟨ity, ry, py, _⟩ := I.list (sm.seq hb)
    obtain ⟨u, hu, ru⟩ := rx.get hx
    obtain ⟨v, hv, rv⟩ := ry.get hy
    have fT : H s.heap.objs.size = none := I.hok.fresh (Nat.le_refl _)
    have zlt : ∀ c ∈ [z, TI, TO, i1, i2], c < s.heap.objs.size := fun c hc => by
      have e' : c = z ∨ c = TI ∨ c = TO ∨ c = i1 ∨ c = i2 := by simpa using hc
      rcases e' with q | q | q | q | q
      · rw [q]
        rcases hst with ⟨_, hz⟩ | ⟨_, _, _, hz, _⟩
        · exact Heap.lt_size hz
        · exact Heap.lt_size hz
      · rw [q]; exact Heap.lt_size hTI
      · rw [q]; obtain ⟨_, _, e1⟩ := hTO; exact Heap.lt_size e1
      · rw [q]; obtain ⟨_, e1, _⟩ := h1; exact Heap.lt_size e1
      · rw [q]; obtain ⟨_, e1, _⟩ := h2; exact Heap.lt_size e1
    have zS : ∀ c ∈ [z, TI, TO, i1, i2], c ≠ S := fun c hc q => by rw [q] at hc; have := (hf S hc).1; rw [hS] at this; cases this
    have hST : S ≠ s.heap.objs.size := ne_of_none hS fT
    refine codeAny_builtin PySem.F.entry_extend_loop ?_
    rw [Around.under_plainId PySem.F.plain_extend_loop _]
    show wpAny _ A.in1 (pyNext (.ref z) >>= _) _ _ _
    refine wpAny_bind (wpAny_mono (zip_any (x := u) (y := v) (Pt := fun T0 => ∃ ts, H T0 = some (.tup ts)) D ?_ hTO hTI h1 h2 px.isList py.isList (by simpa using hu) (by simpa using hv)) (fun r s1 hq => ?_) fun _ _ q => q)
    · rcases hst with ⟨_, hz⟩ | ⟨T0, f, ts, hz, hT⟩
      · exact .inl hz
      · obtain ⟨_, itt, _, oT, hoT, _⟩ := I.hok T0 _ hT
        exact .inr ⟨T0, f, oT, hz, hoT, ts, hT⟩
    obtain ⟨er, h', es, ⟨T0, f, hz', hT0⟩, hTO', hTI', h1', h2', hT', hkp⟩ := hq
    subst er es
    have new : ObjOk X.prog X.w (upd H s.heap.objs.size (.tup [x, y])) h' s.heap.objs.size (.tup [x, y]) :=
      ⟨by show 2 ≤ sizeLine; decide, [u, v], .cons ru (.cons rv .nil), ⟨_, hT', rfl, _, rfl⟩⟩
    have I1 : Inv X pins σ (upd H s.heap.objs.size (.tup [x, y])) { s with heap := h' } :=
      I.turnedNew (t' := s.toks) (ch := [z, TI, TO, i1, i2]) (fun c o hb' q => hkp c o (fun q' => hb' (by simp [q'])) (fun q' => hb' (by simp [q'])) (fun q' => hb' (by simp [q'])) (fun q' => hb' (by simp [q'])) q) hf (Nat.le_refl _) new
    have hS1 : (upd H s.heap.objs.size (.tup [x, y])) S = some (.lst (ps.map V.ref)) := by rw [upd_ne hST]; exact hS
    obtain ⟨zl, itS, nS, rS, lS, eS⟩ := I1.lstM hS1
    have lps : itS.length = i := by rw [← lS, List.length_map]; exact hl
    have rS2 : Vals ((ps ++ [s.heap.objs.size]).map V.ref) (itS ++ [Value.ref s.heap.objs.size]) := by
      rw [List.map_append]
      exact rS.append (.cons rfl .nil)
    have I2 : Inv X pins σ (upd (upd H s.heap.objs.size (.tup [x, y])) S (.lst ((ps ++ [s.heap.objs.size]).map V.ref))) { s with heap := h'.update S (Obj.mapSeq (·.push (Value.ref s.heap.objs.size))) } :=
      I1.lset (t' := s.toks) (its' := itS ++ [Value.ref s.heap.objs.size]) (ys := (ps ++ [s.heap.objs.size]).map V.ref) hS1 eS (by simp) rS2 (by rw [List.length_map, List.length_append, List.length_singleton, hl]; omega)
    have up : ∀ c o, c ≠ S → h'.get? c = some o → (h'.update S (Obj.mapSeq (·.push (Value.ref s.heap.objs.size)))).get? c = some o := fun c o hc e => (Heap.get?_update_other _ _ (Ne.symm hc)).trans e
    have kt : ∀ c ts, H c = some (.tup ts) → (upd (upd H s.heap.objs.size (.tup [x, y])) S (.lst ((ps ++ [s.heap.objs.size]).map V.ref))) c = some (.tup ts) := fun c ts e => by
      have n1 : c ≠ S := fun q => by rw [q, hS] at e; cases e
      rw [upd_ne n1, upd_ne (ne_of_none e fT)]
      exact e
    have kT : (upd (upd H s.heap.objs.size (.tup [x, y])) S (.lst ((ps ++ [s.heap.objs.size]).map V.ref))) s.heap.objs.size = some (.tup [x, y]) := by
      rw [upd_ne (fun q => hST q.symm), upd_same]
    have fT0 : H0 s.heap.objs.size = none := sm.free fT
    show wpAny _ A.in1 (updateSeq S (·.push (Value.ref s.heap.objs.size)) >>= _) _ _ _
    refine wpAny_bind (wpAny_updateSeq eS rfl (wpAny_pure ⟨plainId_quiet PySem.F.plain_extend_loop _, ih (i + 1) _ _ (ps ++ [s.heap.objs.size]) (by omega) hlt I2 (fun c hc => ?_) ⟨up _ _ (zS TI (by simp)) hTI', h1'.at fun o e => up _ o (zS i1 (by simp)) e, h2'.at fun o e => up _ o (zS i2 (by simp)) e, ?_, .inr ⟨T0, f, ?_⟩⟩ upd_same (by rw [List.length_append, hl]; rfl) ?_ ?_ ?_⟩) (by rw [List.size_toArray, lps]; omega) (by show (itS.toArray.push _).size ≤ sizeLine + 1; rw [Array.size_push, List.size_toArray, lps]; omega))
    · obtain ⟨f0, fr'⟩ := hf c hc
      refine ⟨?_, fr'⟩
      rw [upd_ne (zS c hc), upd_ne (Nat.ne_of_lt (zlt c hc))]
      exact f0
    · obtain ⟨p, q, e⟩ := hTO'
      exact ⟨p, q, up _ _ (zS TO (by simp)) e⟩
    · rcases hT0 with e | ⟨ts, e⟩
      · subst e
        exact ⟨_, up _ _ (zS z (by simp)) hz', kT⟩
      · exact ⟨ts, up _ _ (zS z (by simp)) hz', kt _ _ e⟩
    · have e : (xs.zip ys)[i]? = some (x, y) := by
        rw [List.getElem?_zip_eq_some]
        exact ⟨hx, hy⟩
      rw [take_snoc e]
      exact ZPs.snoc (ZPs.same hp kt) kT
    · intro c o e
      rw [upd_ne (ne_of_none e hS0), upd_ne (ne_of_none (sm c o e) fT)]
      exact sm c o e
    · intro p hp'
      rcases List.mem_append.mp hp' with m | m
      · exact fr p m
      · rw [List.mem_singleton.mp m]; exact fT0
/-- list(z), z a zip just made of the lists at a and b -/
theorem call_list_zip {a b : Addr} {xs ys : List V} {H : Hp} {s : Shared} {Q : VK} (hc : X.calm = true) (I : Inv X pins σ H s) (hlen : xs.length = ys.length) (hpos : 0 < xs.length) (hline : xs.length ≤ sizeLine) (ha : SqL X.K H a xs) (hb : SqL X.K H b ys)
    (hf : ∀ c ∈ [s.heap.objs.size - 1, s.heap.objs.size - 3, s.heap.objs.size - 2, s.heap.objs.size - 5, s.heap.objs.size - 4], FpOk X pins H c) (D : ZipApart (s.heap.objs.size - 1) (s.heap.objs.size - 3) (s.heap.objs.size - 2) (s.heap.objs.size - 5) (s.heap.objs.size - 4) a b)
    (st : ZSt H s.heap (s.heap.objs.size - 1) (s.heap.objs.size - 3) (s.heap.objs.size - 2) (s.heap.objs.size - 5) (s.heap.objs.size - 4) a b 0) (hz : IsZip s.heap (s.heap.objs.size - 1) (s.heap.objs.size - 3) (s.heap.objs.size - 2) .none)
    (hQ : ∀ (D : Addr) (ps : List Addr) (H' : Hp), H D = none → H' D = some (.lst (ps.map V.ref)) → ZPs H' ps (xs.zip ys) → Same H H' → (∀ p ∈ ps, H p = none) → Q (.ref D) H') :
    wpAny (model X.prog X.w) X.A (call (.type "list") [.ref (s.heap.objs.size - 1)]) (EP X pins σ Q) X.xe s := by
  generalize hzz : s.heap.objs.size - 1 = z at *
  generalize s.heap.objs.size - 3 = TI at *
  generalize s.heap.objs.size - 2 = TO at *
  generalize s.heap.objs.size - 5 = i1 at *
  generalize s.heap.objs.size - 4 = i2 at *
  have hh : X.A.handled = none := I.ok.hd hc
  have fD : H s.heap.objs.size = none := I.hok.fresh (Nat.le_refl _)
  refine callType_codes (Q₁ := fun obj s₁ => obj = .ref s.heap.objs.size ∧ s₁ = { s with heap := s.heap.push { cls := .type "list", data := .seq #[] } }) PySem.F.called_list (PySem.F.typeCall_list_1 _) PySem.F.entry_list_init
    (code_list_new _ ⟨rfl, rfl⟩) fun obj s₁ h₁ => ?_
  obtain ⟨rfl, rfl⟩ := h₁
  have hS : (s.heap.push { cls := .type "list", data := .seq #[] }).get? s.heap.objs.size = some { cls := .type "list", data := .seq #[] } := Heap.get?_push_size _ rfl
  have I1 : Inv X pins σ (upd H s.heap.objs.size (.lst [])) { s with heap := s.heap.push { cls := .type "list", data := .seq #[] } } := I.laid (t' := s.toks) (fun _ _ q => Heap.get?_push_of_some _ q) (Nat.le_refl _) ⟨Nat.zero_le _, [], 0, .nil, hS⟩
  refine ⟨⟨_, hS, rfl⟩, PySem.F.args_list_init_2 _ _, ?_⟩
  show wpAny _ _ (do let old ← Builtin.List.listItems (.ref s.heap.objs.size); Builtin.List.listUpdate (.ref s.heap.objs.size) (fun _ => #[]); letGo old.toList.reverse; Builtin.List.listExtendWith (.ref s.heap.objs.size) (.ref z) .none) _ _ _
  refine wpAny_bind ?_
  unfold Builtin.List.listItems
  refine wpAny_bind (wpAny_seqItems hS rfl (wpAny_pure ?_))
  show wpAny _ _ (updateSeq s.heap.objs.size (fun _ => #[]) >>= fun _ => letGo (#[] : Array Value).toList.reverse >>= fun _ => Builtin.List.listExtendWith (.ref s.heap.objs.size) (.ref z) .none) _ _ _
  refine wpAny_bind (wpAny_updateSeq hS rfl ?_)
  have hS2 := Heap.get?_update_self (Obj.mapSeq (fun _ => (#[] : Array Value))) hS rfl
  refine wpAny_bind (wpAny_letGo ?_)
  have hzl : z < s.heap.objs.size := Heap.lt_size hz
  have hSz : s.heap.objs.size ≠ z := Nat.ne_of_gt hzl
  have o1 : ∀ c o, c ≠ s.heap.objs.size → s.heap.get? c = some o → ((s.heap.push { cls := .type "list", data := .seq #[] }).update s.heap.objs.size (Obj.mapSeq (fun _ => (#[] : Array Value)))).get? c = some o :=
    fun c o hc' e => (Heap.get?_update_other _ _ (Ne.symm hc')).trans (Heap.get?_push_of_some _ e)
  have hz2 := o1 z _ (fun q => hSz q.symm) hz
  have hT2 : Shared.TypeIs { s with heap := (s.heap.push { cls := .type "list", data := .seq #[] }).update s.heap.objs.size (Obj.mapSeq (fun _ => (#[] : Array Value))) } (.ref z) "zip" := ⟨_, hz2, rfl⟩
  unfold Builtin.List.listExtendWith
  refine wpAny_bind (wpAny_typeOf hT2 ?_)
  have e1 : Builtin.List.listSameRef (.ref s.heap.objs.size) (.ref z) = false := by simp [Builtin.List.listSameRef, hSz]
  have e2 : (Value.type "zip" == Value.type "list") = false := by decide
  have e3 : (Value.type "zip" == Value.type "tuple") = false := by decide
  simp only [e1, e2, e3, Bool.or_false, Bool.false_eq_true, if_false]
  refine wpAny_bind (wpAny_pyIter_zip hz2 ?_)
  refine wpAny_bind (wpAny_holding ?_)
  unfold Builtin.List.listLengthHint
  refine wpAny_bind (wpAny_specialOf hT2 zip_no_len ?_)
  show wpAny _ _ (specialOf (Value.ref z) (Str.ofString "__length_hint__") >>= _) _ _ _
  refine wpAny_bind (wpAny_specialOf hT2 zip_no_hint ?_)
  refine wpAny_pure ?_
  show wpAny _ _ (rule "list.extend.makes-room" >>= fun _ => Builtin.List.listTouch (.ref s.heap.objs.size) >>= fun _ =>
    again (.builtin "list.extend.loop" ⟨[.ref s.heap.objs.size, .ref z, .none], []⟩)) _ _ _
  refine wpAny_bind (wpAny_rule ?_)
  refine wpAny_bind ?_
  show wpAny _ _ (updateSeq s.heap.objs.size (·.push .none) >>= fun _ => updateSeq s.heap.objs.size (·.pop)) _ _ _
  refine wpAny_bind (wpAny_updateSeq hS2 rfl ?_)
  have hS3 := Heap.get?_update_self (Obj.mapSeq (·.push Value.none)) hS2 rfl
  refine wpAny_updateSeq (hz := by seq_fits) hS3 rfl ?_
  have hS4 := Heap.get?_update_self (Obj.mapSeq (·.pop)) hS3 rfl
  have o2 : ∀ c o, c ≠ s.heap.objs.size → s.heap.get? c = some o → ((((s.heap.push { cls := .type "list", data := .seq #[] }).update s.heap.objs.size (Obj.mapSeq (fun _ => (#[] : Array Value)))).update s.heap.objs.size (Obj.mapSeq (·.push Value.none))).update s.heap.objs.size (Obj.mapSeq (·.pop))).get? c = some o :=
    fun c o hc' e => (Heap.get?_update_other _ _ (Ne.symm hc')).trans ((Heap.get?_update_other _ _ (Ne.symm hc')).trans (o1 c o hc' e))
  have I2 : Inv X pins σ (upd (upd H s.heap.objs.size (.lst [])) s.heap.objs.size (.lst [])) { s with heap := (((s.heap.push { cls := .type "list", data := .seq #[] }).update s.heap.objs.size (Obj.mapSeq (fun _ => (#[] : Array Value)))).update s.heap.objs.size (Obj.mapSeq (·.push Value.none))).update s.heap.objs.size (Obj.mapSeq (·.pop)) } :=
    I1.write (t' := s.toks) (x := s.heap.objs.size) (e := s.heap.objs.size) (by rw [upd_same]; exact trivial) (.inl rfl)
      (fun c u hc' q => (Heap.get?_update_other _ _ (Ne.symm hc')).trans ((Heap.get?_update_other _ _ (Ne.symm hc')).trans ((Heap.get?_update_other _ _ (Ne.symm hc')).trans q))) ⟨_, hS4⟩ ⟨Nat.zero_le _, [], _, .nil, hS4⟩
  rw [upd_upd] at I2
  have sm1 : Same H (upd H s.heap.objs.size (.lst [])) := same_new fD
  obtain ⟨hTI, h1, h2, hTO, hs0⟩ := st
  have zne : ∀ c ∈ [z, TI, TO, i1, i2], c ≠ s.heap.objs.size := fun c hc' => by
    have e' : c = z ∨ c = TI ∨ c = TO ∨ c = i1 ∨ c = i2 := by simpa using hc'
    rcases e' with q | q | q | q | q
    · rw [q]; exact fun q => hSz q.symm
    · rw [q]; exact Nat.ne_of_lt (Heap.lt_size hTI)
    · rw [q]; obtain ⟨_, _, e1⟩ := hTO; exact Nat.ne_of_lt (Heap.lt_size e1)
    · rw [q]; obtain ⟨_, e1, _⟩ := h1; exact Nat.ne_of_lt (Heap.lt_size e1)
    · rw [q]; obtain ⟨_, e1, _⟩ := h2; exact Nat.ne_of_lt (Heap.lt_size e1)
  refine wpAny_pure ⟨plainId_quiet PySem.F.plain_extend_loop _, zip_loop (A := X.A.in1) (S := s.heap.objs.size) (H0 := H) hh D hlen hpos hline .none ha hb fD (fun H' s' ps I' hD' hps sm fr => ?_) xs.length 0 _ _ [] (Nat.sub_zero _) (Nat.zero_le _) I2 (fun c hc' => ?_) ⟨o2 _ _ (zne TI (by simp)) hTI, h1.at fun o e => o2 _ o (zne i1 (by simp)) e, h2.at fun o e => o2 _ o (zne i2 (by simp)) e, ?_, .inl ⟨rfl, o2 _ _ (zne z (by simp)) hz⟩⟩ upd_same rfl .nil sm1 (by intro p hp; cases hp)⟩
  · exact ⟨rfl, .ref s.heap.objs.size, H', I', rfl, hQ _ ps H' fD hD' hps sm fr⟩
  · obtain ⟨f0, fr⟩ := hf c hc'
    refine ⟨?_, fr⟩
    rw [upd_ne (zne c hc')]
    exact f0
  · obtain ⟨p, q, e⟩ := hTO
    exact ⟨p, q, o2 _ _ (zne TO (by simp)) e⟩
/-- list(zip(e, e2)) -/
def tListZip (K : PySem.W.Frag) (ta : TA) : TE := fun σ H Q => ta σ H fun vs H1 => ∃ (a b : Addr) (xs ys : List V), vs = [.ref a, .ref b] ∧ SqL K H1 a xs ∧ SqL K H1 b ys ∧ xs.length = ys.length ∧ 0 < xs.length ∧
  ∀ (D : Addr) (ps : List Addr) (H' : Hp), H1 D = none → H' D = some (.lst (ps.map V.ref)) → ZPs H' ps (xs.zip ys) → Same H1 H' → (∀ p ∈ ps, H1 p = none) → Q (.ref D) H'
theorem pe_listzip {e e2 : Expr} {ta : TA} {p p2 pos pos2 : Pos} (hc : X.calm = true) (hl : Gl X "list") (hlm : X.mg "list" = none) (hz : Gl X "zip") (hzm : X.mg "zip" = none) (ha : PA X [e, e2] ta)
    (hs2 : starEach [e, e2] X.env = (false, eval e X.env) :: starEach [e2] X.env := by rfl) (hpl2 : (backTo pos2 (starEach [e2] X.env)).any (·.1) = false := by rfl)
    (hs : starEach [.Call (.Name "zip" p2) [e, e2] [] pos2] X.env = [(false, eval (.Call (.Name "zip" p2) [e, e2] [] pos2) X.env)] := by rfl) :
    PE X (.Call (.Name "list" p) [.Call (.Name "zip" p2) [e, e2] [] pos2] [] pos) (tListZip X.K ta) := by
  intro pins s σ H Q I h
  refine wpAny_Call_Name_kw (ld_blt I hl hlm boot_list ?_)
  refine PyProof.Rows.callWith_type1 (rest := []) ?_ hs rfl
  rw [hs]
  show wpAny _ _ (spliced ((false, eval (.Call (.Name "zip" p2) [e, e2] [] pos2) X.env) :: [])) _ _ s
  refine Calls.spliced_cons ?_
  refine wpAny_Call_Name_kw (ld_blt I hz hzm boot_zip5 (PyProof.Rows.callWith_type1 (thn (ha pos2 pins s σ H _ I h) fun us s1 ⟨vs, H1, I1, r1, q1⟩ => ?_) hs2 hpl2))
  obtain ⟨a, b, xs, ys, ex, hqx, hqy, hlen, hpos, q⟩ := q1
  subst ex
  cases r1 with
  | cons r rr =>
    cases rr with
    | cons r' rr =>
      cases rr
      cases r
      cases r'
      obtain ⟨its, rv, p1, hline⟩ := I1.list hqx
      obtain ⟨its2, rv2, p2', _⟩ := I1.list hqy
      have la : a < s1.heap.objs.size := p1.lt
      have lb : b < s1.heap.objs.size := p2'.lt
      refine call_zip_2 p1.isList p2'.isList fun h' hz' hTI hTO h1 h2 hsz hk => ?_
      refine Calls.spliced_nil ?_
      have I2 : Inv X pins σ H1 { s1 with heap := h' } := I1.kept (t' := s1.toks) hk
      have n1 : h'.objs.size - 1 = s1.heap.objs.size + 4 := by omega
      have n2 : h'.objs.size - 3 = s1.heap.objs.size + 2 := by omega
      have n3 : h'.objs.size - 2 = s1.heap.objs.size + 3 := by omega
      have n4 : h'.objs.size - 5 = s1.heap.objs.size := by omega
      have n5 : h'.objs.size - 4 = s1.heap.objs.size + 1 := by omega
      have fin := call_list_zip (s := { s1 with heap := h' }) (a := a) (b := b) (Q := Q) hc I2 hlen hpos hline hqx hqy
      simp only [n1, n2, n3, n4, n5] at fin
      refine fin (fun c hcm => ?_) (PySem.W.ktu_apart s1.heap.objs.size a b la lb) ⟨hTI, h1, h2, ⟨_, _, hTO⟩, .inl ⟨rfl, hz'⟩⟩ hz' q
      have e' : c = s1.heap.objs.size + 4 ∨ c = s1.heap.objs.size + 2 ∨ c = s1.heap.objs.size + 3 ∨ c = s1.heap.objs.size ∨ c = s1.heap.objs.size + 1 := by simpa using hcm
      have hle : s1.heap.objs.size ≤ c := by
        rcases e' with z | z | z | z | z <;> rw [z] <;> first | exact Nat.le_add_right _ _ | exact Nat.le_refl _
      exact I1.fpOk hle (I1.hok.fresh hle)
end
end Sw
namespace Sw
open PySem PySem.Spec PyProof.Rows L2
abbrev sLInit : Stmt := inClass (top 30) 0
abbrev sHas : Stmt := inClass (top 30) 1
abbrev sNum : Stmt := inClass (top 30) 2
abbrev sRow : Stmt := inClass (top 30) 3
abbrev sCounted : Stmt := top 40
abbrev sTold : Stmt := top 62
/-! ### attributes, written out -/
theorem putF_nil (f : Str) (v : V) : putF f v [] = [(f, v)] := rfl
theorem putF_hit (f : Str) (v u : V) (r : List (Str × V)) : putF f v ((f, u) :: r) = (f, v) :: r := by
  show (if f = f then (f, v) :: r else _) = _
  rw [if_pos rfl]
theorem putF_miss {f g : Str} (v u : V) (r : List (Str × V)) (h : ¬ g = f) : putF f v ((g, u) :: r) = (g, u) :: putF f v r := by
  show (if g = f then (g, v) :: r else (g, u) :: putF f v r) = _
  rw [if_neg h]
theorem lk_hit (f : Str) (v : V) (r : List (Str × V)) : List.lookup f ((f, v) :: r) = some v := by
  rw [List.lookup_cons, beq_self_eq_true]
theorem lk_miss {f g : Str} (u : V) (r : List (Str × V)) (h : ¬ f = g) : List.lookup f ((g, u) :: r) = List.lookup f r := by
  rw [List.lookup_cons, beq_eq_false_iff_ne.mpr h]
/-! ### methods by their names -/
section
variable {P : Program} {w : World} {K : PySem.W.Frag} {mg : Str → Option Value} {base : Heap}
structure MCal (P : Program) (w : World) (K : PySem.W.Frag) (mg : Str → Option Value) (base : Heap) (C : Addr) (m : Str) (k : Nat) (ps : List Str) (sp : Sp) : Prop where
  ex : ∃ f fd, Meth K C m f ∧ FnOk P w K mg base CX0 k f fd ps sp ∧ Binds K fd ps []
end
section
variable {X : Cx} {k : Nat} {ps : List Str} {sp : Sp} {m : Str} {C : Addr} {pos apos : Pos} {o : Expr} {ta : TE}
theorem pe_methC0 {pl : Sem Bool} (he : PE X o ta) (c : Cls X.K C) (mc : MCal X.prog X.w X.K X.mg X.base C m k ps sp) (hr : Room k X.A)
    (ht : eval (.Call (.Attribute o m apos) [] [] pos) X.env = (do
      let ov ← eval o X.env
      standAt apos.atName
      let (f, first) ← holding [ov] (getMethod ov m pl)
      callWith pos f first (backTo pos (starEach [] X.env)) (backToKw pos (keywordEach [] X.env))) := by rfl) :
    PE X (.Call (.Attribute o m apos) [] [] pos) (tMeth C m sp [] E0 ta tNil) := by
  obtain ⟨f, fd, hm, G, b⟩ := mc.ex
  exact pe_meth0 (pl := pl) he c hm G hr b .nil pass0 ht
end
/-! ### a line -/
def lineO (C dx a : Addr) (i : Nat) : HO := .ins C dx [("calls", .ref a), ("place", .int (i : Int))]
structure LTxt (K : PySem.W.Frag) (C : Addr) : Prop where
  cl : Cls K C
  nC : NoAttr K C "calls"
  nP : NoAttr K C "place"
def iv (ns : List Int) : List V := ns.map V.int
theorem iv_len (ns : List Int) : (iv ns).length = ns.length := by unfold iv; rw [List.length_map]
theorem iv_get {ns : List Int} {i : Nat} {z : Int} (h : ns[i]? = some z) : (iv ns)[i]? = some (V.int z) := by unfold iv; rw [List.getElem?_map, h]; rfl
def spLInit (C : Addr) : Sp := fun vs H Q _ => ∃ (p dx a : Addr), vs = [.ref p, .ref a] ∧ H p = some (.ins C dx []) ∧ Q .non (upd H p (lineO C dx a 0))
def spHas (K : PySem.W.Frag) (C : Addr) : Sp := fun vs H Q _ => ∃ (p dx a : Addr) (ns : List Int) (i : Nat), vs = [.ref p] ∧ H p = some (lineO C dx a i) ∧ SqL K H a (iv ns) ∧ Q (.bl (decide (i < ns.length))) H
def spNum (K : PySem.W.Frag) (C : Addr) : Sp := fun vs H Q _ => ∃ (p dx a : Addr) (ns : List Int) (i : Nat) (z : Int), vs = [.ref p] ∧ H p = some (lineO C dx a i) ∧ SqL K H a (iv ns) ∧ ns[i]? = some z ∧ Q (.int z) (upd H p (lineO C dx a (i + 1)))
def spRow (K : PySem.W.Frag) (C : Addr) : Sp := fun vs H Q _ => ∃ (p dx a : Addr) (ns : List Int) (i m : Nat), vs = [.ref p] ∧ H p = some (lineO C dx a i) ∧ SqL K H a (iv ns) ∧ ns[i]? = some (m : Int) ∧ i + 1 + m ≤ ns.length ∧
  ∀ (H' : Hp) (D : Addr), H D = none → SameOff [p] H H' → H' p = some (lineO C dx a (i + 1 + m)) → H' D = some (.lst (iv ((ns.drop (i + 1)).take m))) → Q (.ref D) H'
section
variable {P : Program} {w : World} {K : PySem.W.Frag} {mg : Str → Option Value} {base : Heap}
theorem line_ne {C dx a p b : Addr} {i : Nat} {K : PySem.W.Frag} {H : Hp} {xs : List V} (h : H p = some (lineO C dx a i)) (q : SqL K H b xs) : SqL K (upd H p (lineO C dx a i)) b xs := by
  rw [upd_id h]; exact q
/-- writing an instance leaves every list as it was -/
theorem SqL.ins {C dx p b : Addr} {fs gs : List (Str × V)} {H : Hp} {xs : List V} (h : H p = some (.ins C dx fs)) (q : SqL K H b xs) : SqL K (upd H p (.ins C dx gs)) b xs := by
  rcases q with (q | ⟨o, q⟩) | q
  · exact .inl (.inl (by rw [upd_ne (ne_of q h (by intro z; cases z))]; exact q))
  · exact .inl (.inr ⟨o, by rw [upd_ne (ne_of q h (by intro z; cases z))]; exact q⟩)
  · exact .inr q
theorem scLInit : FnScope ["self", "calls"] ["self", "calls"] (defScope sLInit) := ⟨rfl, rfl, rfl, by decide +kernel, rfl, by decide +kernel, by decide +kernel⟩
theorem ok_linit {f C : Addr} {fd : FuncData} (F : Fun K "__init__" "Line.__init__" sLInit f fd) (T : LTxt K C) : FnOk P w K mg base CX0 1 f fd ["self", "calls"] (spLInit C) := by
  refine F.ok scLInit (fun vs H Q E h => ?_) (fun cdv A outer s H vs Q E hr h => ?_)
  · obtain ⟨p, dx, a, rfl, _⟩ := h
    rfl
  · obtain ⟨p, dx, a, rfl, hp, k⟩ := h
    refine ⟨_, pss_cons (ps_fld (pv 0) (pv 1) rfl) (pss_one (ps_fld (pv 0) pe_int rfl)), ?_⟩
    refine ⟨_, rfl, _, rfl, p, C, dx, [], rfl, hp, T.cl, T.nC, (by show 0 < 1000; decide), ?_⟩
    refine ⟨_, rfl, p, C, dx, _, rfl, upd_same, T.cl, T.nP, (by show 1 < 1000; decide), ?_⟩
    rw [upd_upd, putF_nil, putF_miss _ _ _ (by decide +kernel), putF_nil]
    exact k
theorem scHas : FnScope ["self"] ["self"] (defScope sHas) := ⟨rfl, rfl, rfl, by decide +kernel, rfl, by decide +kernel, by decide +kernel⟩
theorem ok_has {f C : Addr} {fd : FuncData} (F : Fun K "has_more" "Line.has_more" sHas f fd) (T : LTxt K C) (X : Txt mg) : FnOk P w K mg base CX0 1 f fd ["self"] (spHas K C) := by
  refine F.ok scHas (fun vs H Q E h => ?_) (fun cdv A outer s H vs Q E hr h => ?_)
  · obtain ⟨p, dx, a, ns, i, rfl, _⟩ := h
    rfl
  · obtain ⟨p, dx, a, ns, i, rfl, hp, hs, k⟩ := h
    refine ⟨_, pss_one (ps_ret (pe_cmpR op_lt (pe_fld (pv 0) rfl) (pe_callB call_len_seq rfl X.len PySem.boot_len (pa_cons (pe_fld (pv 0) rfl) pa_nil)) (nomark _))), ?_⟩
    refine ⟨_, rfl, p, C, dx, _, _, rfl, hp, T.cl, T.nP, (lk_miss _ _ (by decide +kernel)).trans (lk_hit _ _ _), _, rfl, p, C, dx, _, _, rfl, hp, T.cl, T.nC, lk_hit _ _ _, a, _, rfl, .inl hs, _, _, rfl, rfl, ?_⟩
    have e : decide ((i : Int) < ((iv ns).length : Int)) = decide (i < ns.length) := by rw [iv_len, Bool.eq_iff_iff, decide_eq_true_eq, decide_eq_true_eq]; omega
    show Q (V.bl (decide ((i : Int) < ((iv ns).length : Int)))) H
    rw [e]
    exact k
theorem scNum : FnScope ["self", "found"] ["self"] (defScope sNum) := ⟨rfl, rfl, rfl, by decide +kernel, rfl, by decide +kernel, by decide +kernel⟩
theorem ok_num {f C : Addr} {fd : FuncData} (F : Fun K "take_number" "Line.take_number" sNum f fd) (T : LTxt K C) : FnOk P w K mg base CX0 1 f fd ["self"] (spNum K C) := by
  refine F.ok scNum (fun vs H Q E h => ?_) (fun cdv A outer s H vs Q E hr h => ?_)
  · obtain ⟨p, dx, a, ns, i, z, rfl, _⟩ := h
    rfl
  · obtain ⟨p, dx, a, ns, i, z, rfl, hp, hs, hz, k⟩ := h
    refine ⟨_, pss_cons (ps_set (i := 1) scNum.nd rfl (Or.inl rfl) (pe_ix ix_list (pe_fld (pv 0) rfl) (pe_fld (pv 0) rfl) (fun _ _ => rfl)))
      (pss_cons (ps_fldaug (pv 0) pe_int in_add) (pss_one (ps_ret (pv 1)))), ?_⟩
    refine ⟨_, rfl, p, C, dx, _, _, rfl, hp, T.cl, T.nC, lk_hit _ _ _, _, rfl, p, C, dx, _, _, rfl, hp, T.cl, T.nP, (lk_miss _ _ (by decide +kernel)).trans (lk_hit _ _ _), a, _, _, _, rfl, rfl, hs, at_of (j := i) rfl (iv_get hz), ?_⟩
    refine ⟨_, rfl, p, C, dx, _, _, rfl, hp, T.cl, T.nP, (lk_miss _ _ (by decide +kernel)).trans (lk_hit _ _ _), _, _, rfl, rfl, dx, _, hp, (by show 2 < 1000; decide), ?_⟩
    refine ⟨_, rfl, ?_⟩
    rw [putF_miss _ _ _ (by decide +kernel), putF_hit]
    exact k
theorem scRow : FnScope ["self", "size", "found"] ["self"] (defScope sRow) := ⟨rfl, rfl, rfl, by decide +kernel, rfl, by decide +kernel, by decide +kernel⟩
theorem ok_row {f C : Addr} {fd : FuncData} (F : Fun K "take_row" "Line.take_row" sRow f fd) (T : LTxt K C) (mN : MCal P w K mg base C "take_number" 1 ["self"] (spNum K C)) : FnOk P w K mg base CX0 2 f fd ["self"] (spRow K C) := by
  refine F.ok scRow (fun vs H Q E h => ?_) (fun cdv A outer s H vs Q E hr h => ?_)
  · obtain ⟨p, dx, a, ns, i, m, rfl, _⟩ := h
    rfl
  · obtain ⟨p, dx, a, ns, i, m, rfl, hp, hs, hz, hm, k⟩ := h
    refine ⟨_, pss_cons (ps_set (i := 1) scRow.nd rfl (Or.inl rfl) (pe_methC0 (pv 0) T.cl mN hr))
      (pss_cons (ps_set (i := 2) scRow.nd rfl (Or.inl rfl) (pe_slice sl_list (pe_fld (pv 0) rfl) (po_some (pe_fld (pv 0) rfl)) (po_some (pe_op op_add (pe_fld (pv 0) rfl) (pv 1)))))
      (pss_cons (ps_fldaug (pv 0) (pv 1) in_add) (pss_one (ps_ret (pv 2))))), ?_⟩
    refine ⟨_, rfl, p, dx, _, rfl, hp, (lk_miss _ _ (by decide +kernel)).trans (lk_miss _ _ (by decide +kernel)), p, dx, a, ns, i, (m : Int), rfl, hp, hs, hz, ?_⟩
    have hs1 : SqL K (upd H p (lineO C dx a (i + 1))) a (iv ns) := SqL.ins hp hs
    have hp1 : upd H p (lineO C dx a (i + 1)) p = some (lineO C dx a (i + 1)) := upd_same
    refine ⟨_, rfl, p, C, dx, _, _, rfl, hp1, T.cl, T.nC, lk_hit _ _ _, _, rfl, p, C, dx, _, _, rfl, hp1, T.cl, T.nP, (lk_miss _ _ (by decide +kernel)).trans (lk_hit _ _ _), _, rfl,
      _, rfl, p, C, dx, _, _, rfl, hp1, T.cl, T.nP, (lk_miss _ _ (by decide +kernel)).trans (lk_hit _ _ _), _, rfl, _, _, rfl, rfl, _, rfl, a, _, rfl, hs1, fun D hD => ?_⟩
    have hpD : p ≠ D := ne_of_none hp1 hD
    have hD0 : H D = none := by rw [upd_ne (fun q => hpD q.symm)] at hD; exact hD
    have hp2 : upd (upd H p (lineO C dx a (i + 1))) D (.lst (cutV (iv ns) (some ((i + 1 : Nat) : Int)) (some (((i + 1 : Nat) : Int) + (m : Int))))) p = some (lineO C dx a (i + 1)) := by rw [upd_ne hpD]; exact hp1
    refine ⟨_, rfl, p, C, dx, _, _, rfl, hp2, T.cl, T.nP, (lk_miss _ _ (by decide +kernel)).trans (lk_hit _ _ _), _, rfl, _, _, rfl, rfl, dx, _, hp2, (by show 2 < 1000; decide), ?_⟩
    refine ⟨_, rfl, ?_⟩
    rw [putF_miss _ _ _ (by decide +kernel), putF_hit]
    have e1 : (((i + 1 : Nat) : Int) + (m : Int)) = ((i + 1 + m : Nat) : Int) := by omega
    rw [e1]
    have e2 : cutV (iv ns) (some ((i + 1 : Nat) : Int)) (some ((i + 1 + m : Nat) : Int)) = iv ((ns.drop (i + 1)).take m) := by
      unfold cutV
      rw [HT.sIx_nat, HT.sIx_nat, iv_len, Nat.min_eq_left (by omega), Nat.min_eq_left (by omega), show i + 1 + m - (i + 1) = m by omega]
      unfold iv
      rw [List.map_take, List.map_drop]
    rw [e2]
    refine k _ D hD0 (((SameOff.refl [p] H).upd (.inl (by simp))).upd (.inr hD0) |>.upd (.inl (by simp))) upd_same ?_
    rw [upd_ne (fun q => hpD q.symm), upd_same]
end
end Sw
namespace Sw
open PySem PySem.Spec PyProof.Rows L2
/-! ### rows of a call -/
theorem row_step {ns : List Int} {j : Nat} {x s : List Int} (h : PyFlat.row (ns.drop j) = some (x, s)) : ∃ m : Nat, ns[j]? = some (m : Int) ∧ j + 1 + m ≤ ns.length ∧ x = (ns.drop (j + 1)).take m ∧ s = ns.drop (j + 1 + m) := by
  cases hd : ns.drop j with
  | nil => rw [hd] at h; cases h
  | cons n r =>
    rw [hd] at h
    have hj : j < ns.length := by
      rcases Nat.lt_or_ge j ns.length with q | q
      · exact q
      · rw [List.drop_eq_nil_of_le q] at hd; cases hd
    have e1 : ns[j]? = some n := by
      have : (ns.drop j)[0]? = some n := by rw [hd]; rfl
      rw [List.getElem?_drop] at this
      simpa using this
    have e2 : r = ns.drop (j + 1) := by
      have : (ns.drop j).drop 1 = r := by rw [hd]; rfl
      rw [List.drop_drop] at this
      rw [← this, Nat.add_comm]
    have h' : (if 0 ≤ n ∧ n.toNat ≤ r.length then some (r.take n.toNat, r.drop n.toNat) else none) = some (x, s) := h
    by_cases c : 0 ≤ n ∧ n.toNat ≤ r.length
    · rw [if_pos c] at h'
      obtain ⟨a1, a2⟩ := Prod.mk.inj (Option.some.inj h')
      have hl : r.length = ns.length - (j + 1) := by rw [e2, List.length_drop]
      refine ⟨n.toNat, ?_, by omega, by rw [← a1, e2], ?_⟩
      · rw [e1]; congr 1; omega
      · rw [← a2, e2, List.drop_drop]
    · rw [if_neg c] at h'; cases h'
theorem rows_step {ns : List Int} {j k : Nat} {ys : List (List Int)} {t : List Int} (h : PyFlat.rows (k + 1) (ns.drop j) = some (ys, t)) :
    ∃ (m : Nat) (x : List Int) (zs : List (List Int)), ys = x :: zs ∧ ns[j]? = some (m : Int) ∧ j + 1 + m ≤ ns.length ∧ x = (ns.drop (j + 1)).take m ∧ PyFlat.rows k (ns.drop (j + 1 + m)) = some (zs, t) := by
  have h' : (match PyFlat.row (ns.drop j) with
    | none => none
    | some (x, s) => match PyFlat.rows k s with
      | none => none
      | some (xs, t) => some (x :: xs, t)) = some (ys, t) := h
  cases e : PyFlat.row (ns.drop j) with
  | none => rw [e] at h'; cases h'
  | some q =>
    obtain ⟨x, s⟩ := q
    rw [e] at h'
    have h2 : (match PyFlat.rows k s with
      | none => none
      | some (xs, t) => some (x :: xs, t)) = some (ys, t) := h'
    cases e2 : PyFlat.rows k s with
    | none => rw [e2] at h2; cases h2
    | some q2 =>
      obtain ⟨zs, t'⟩ := q2
      rw [e2] at h2
      obtain ⟨a1, a2⟩ := Prod.mk.inj (Option.some.inj h2)
      obtain ⟨m, b1, b2, b3, b4⟩ := row_step e
      subst a2
      exact ⟨m, x, zs, a1.symm, b1, b2, b3, by rw [← b4]; exact e2⟩
/-! ### what stays, by kinds -/
theorem SqL.off1 {K : PySem.W.Frag} {H H' : Hp} {p a C dx : Addr} {fs : List (Str × V)} {xs : List V} (hp : H p = some (.ins C dx fs)) (so : SameOff [p] H H') (q : SqL K H a xs) : SqL K H' a xs := by
  rcases q with (q | ⟨o, q⟩) | q
  · exact .inl (.inl (so _ _ q (by simp; exact ne_of q hp (by intro z; cases z))))
  · exact .inl (.inr ⟨o, so _ _ q (by simp; exact ne_of q hp (by intro z; cases z))⟩)
  · exact .inr q
theorem SqT.off1 {K : PySem.W.Frag} {H H' : Hp} {p a C dx : Addr} {fs : List (Str × V)} {xs : List V} (hp : H p = some (.ins C dx fs)) (so : SameOff [p] H H') (q : SqT K H a xs) : SqT K H' a xs := by
  rcases q with (q | ⟨o, q⟩) | q
  · exact .inl (.inl (so _ _ q (by simp; exact ne_of q hp (by intro z; cases z))))
  · exact .inl (.inr ⟨o, so _ _ q (by simp; exact ne_of q hp (by intro z; cases z))⟩)
  · exact .inr q
abbrev RowsP (H : Hp) : List Addr → List (List Int) → Prop := Paired fun q x => H q = some (.lst (iv x))
theorem RowsP.same {H H' : Hp} {ps : List Addr} {xs : List (List Int)} (h : RowsP H ps xs) (k : ∀ q ∈ ps, ∀ o, H q = some o → H' q = some o) : RowsP H' ps xs := by
  induction h with
  | nil => exact .nil
  | cons r t ih => exact .cons (k _ (by simp) _ r) (ih fun q m o e => k q (by simp [m]) o e)
theorem RowsP.snoc {H : Hp} {p : Addr} {x : List Int} {ps : List Addr} {xs : List (List Int)} (h : RowsP H ps xs) (e : H p = some (.lst (iv x))) : RowsP H (ps ++ [p]) (xs ++ [x]) := by
  induction h with
  | nil => exact .cons e .nil
  | cons r t ih => exact .cons r ih
/-! ### promises -/
def spMkTab : Sp := fun vs H Q _ => ∃ (a b : Addr) (f h : List Nat), vs = [.ref a, .ref b] ∧ H a = some (.lst (nums f)) ∧ H b = some (.lst (nums h)) ∧ f.length = h.length ∧ 0 < f.length ∧
  ∀ (H' : Hp) (D : Addr), H D = none → Same H H' → TabAt H' D ((f.zip h).map fun q => ⟨q.1, q.2⟩) → Q (.ref D) H'
def spCounted : Sp := fun vs H Q _ => ∃ (a : Addr) (xs : List V), vs = [.ref a] ∧ H a = some (.lst xs) ∧ xs.length < sizeLine ∧
  ∀ (H' : Hp) (D : Addr), H D = none → Same H H' → H' D = some (.lst (.int (xs.length : Int) :: xs)) → Q (.ref D) H'
def spTold (K : PySem.W.Frag) (C : Addr) : Sp := fun vs H Q _ => ∃ (p dx a sh : Addr) (ns : List Int) (i n k : Nat) (xs : List (List Int)) (t : List Int), vs = [.ref p, .ref sh] ∧ H p = some (lineO C dx a i) ∧ SqL K H a (iv ns) ∧
  SqT K H sh [.int (n : Int), .int (k : Int)] ∧ n ≤ 1000 ∧ k ≤ 1000 ∧ i + n ≤ ns.length ∧ PyFlat.rows k (ns.drop (i + n)) = some (xs, t) ∧
  ∀ (H' : Hp) (D : Addr) (ps : List Addr) (j : Nat), H D = none → SameOff [p] H H' → j ≤ ns.length → ns.drop j = t → H' p = some (lineO C dx a j) → RowsP H' ps xs → (∀ q ∈ ps, H q = none) →
    H' D = some (.lst (iv ((ns.drop i).take n) ++ ps.map V.ref)) → Q (.ref D) H'
section
variable {P : Program} {w : World} {K : PySem.W.Frag} {mg : Str → Option Value} {base : Heap}
/-! ### make_table -/
theorem tab_of {H : Hp} {D : Addr} {ps : List Addr} {f h : List Nat} (hD : H D = some (.lst (ps.map V.ref))) (hp : ZPs H ps ((nums f).zip (nums h))) : TabAt H D ((f.zip h).map fun q => ⟨q.1, q.2⟩) := by
  refine ⟨ps, hD, ?_⟩
  have e : (nums f).zip (nums h) = (f.zip h).map fun q => (V.int (q.1 : Int), V.int (q.2 : Int)) := by
    unfold nums
    rw [List.zip_map]
    rfl
  rw [e] at hp
  generalize f.zip h = qs at hp
  clear e hD
  induction qs generalizing ps with
  | nil => cases hp; exact .nil
  | cons q qs ih =>
    cases hp with
    | cons r t => exact .cons r (ih t)
theorem scMkTab : FnScope ["froms", "harms"] ["froms", "harms"] (defScope sMkTab) := ⟨rfl, rfl, rfl, by decide +kernel, rfl, by decide +kernel, by decide +kernel⟩
theorem ok_mkTab {fa : Addr} {fd : FuncData} (F : Fun K "make_table" "make_table" sMkTab fa fd) (T : Txt mg) : FnOk P w K mg base CX0 1 fa fd ["froms", "harms"] spMkTab := by
  refine F.ok scMkTab (fun vs H Q E h => ?_) (fun cdv A outer s H vs Q E hr h => ?_)
  · obtain ⟨a, b, f, h, rfl, _⟩ := h
    rfl
  · obtain ⟨a, b, f, h, rfl, ha, hb, hl, h0, k⟩ := h
    refine ⟨_, pss_one (ps_ret (pe_listzip rfl rfl T.list rfl T.zip (pa_cons (pv 0) (pa_cons (pv 1) pa_nil)))), ?_⟩
    exact ⟨_, rfl, _, rfl, a, b, _, _, rfl, SqL.of ha, SqL.of hb, by rw [nums_len, nums_len]; exact hl, by rw [nums_len]; exact h0, fun D ps H' hD hD' hp sm fr => k H' D hD sm (tab_of hD' hp)⟩
/-! ### counted -/
theorem scCounted : FnScope ["numbers"] ["numbers"] (defScope sCounted) := ⟨rfl, rfl, rfl, by decide +kernel, rfl, by decide +kernel, by decide +kernel⟩
theorem ok_counted {fa : Addr} {fd : FuncData} (F : Fun K "counted" "counted" sCounted fa fd) (T : Txt mg) : FnOk P w K mg base CX0 1 fa fd ["numbers"] spCounted := by
  refine F.ok scCounted (fun vs H Q E h => ?_) (fun cdv A outer s H vs Q E hr h => ?_)
  · obtain ⟨a, xs, rfl, _⟩ := h
    rfl
  · obtain ⟨a, xs, rfl, ha, hl, k⟩ := h
    refine ⟨_, pss_one (ps_ret (pe_op op_cat (pe_lst (pa_cons (pe_callB call_len_seq rfl T.len PySem.boot_len (pa_cons (pv 0) pa_nil)) pa_nil)) (pv 0))), ?_⟩
    refine ⟨_, rfl, a, _, rfl, .inl (SqL.of ha), (by show 1 ≤ sizeLine; decide), fun q hq => ?_⟩
    have haq : a ≠ q := ne_of_none ha hq
    refine ⟨_, rfl, q, a, _, _, rfl, rfl, upd_same, by rw [upd_ne haq]; exact ha, ?_, fun D hD => ?_⟩
    · show 1 + xs.length ≤ sizeLine
      omega
    · have hqD : q ≠ D := fun e => by rw [← e, upd_same] at hD; cases hD
      have hD0 : H D = none := by rw [upd_ne (fun e => hqD e.symm)] at hD; exact hD
      exact k _ D hD0 (same_upd (same_new hq) hD0) upd_same
/-! ### take_told -/
theorem scTold : FnScope ["line", "shape", "numbers", "rows", "k"] ["line", "shape"] (defScope sTold) := ⟨rfl, rfl, rfl, by decide +kernel, rfl, by decide +kernel, by decide +kernel⟩
theorem ok_told {fa C : Addr} {fd : FuncData} (F : Fun K "take_told" "take_told" sTold fa fd) (T : Txt mg) (L : LTxt K C) (mN : MCal P w K mg base C "take_number" 1 ["self"] (spNum K C)) (mR : MCal P w K mg base C "take_row" 2 ["self"] (spRow K C)) :
    FnOk P w K mg base CX0 3 fa fd ["line", "shape"] (spTold K C) := by
  refine F.ok scTold (fun vs H Q E h => ?_) (fun cdv A outer s H vs Q E hr h => ?_)
  · obtain ⟨p, dx, a, sh, ns, i, n, k, xs, t, rfl, _⟩ := h
    rfl
  · obtain ⟨p, dx, a, sh, ns, i, n, k, xs, t, rfl, hp, hs, hsh, hn, hk, hin, hrows, fin⟩ := h
    have hr1 : Room 1 _ := hr.mono (by decide)
    refine ⟨_, pss_cons (ps_setLc (i := 2) rfl scTold.nd rfl rfl (sw_true rfl rfl rfl rfl) (pi_range1 rfl T.range (pa_cons (pe_ix ix_tup (pv 1) pe_int (fun _ _ => rfl)) pa_nil))
        (blkOk_by (own := [("k", 4)]) (show blkC ["line", "shape", "numbers", "rows", "k"] (defScope sTold) _ [("k", 4)] = true by decide +kernel))
        (fun _ _ _ _ _ => pg_name (i := 4) scTold.nd rfl (Or.inl rfl)) (fun _ _ _ _ _ => pts_nil) (fun _ _ _ _ _ => pe_methC0 (pv 0) L.cl mN hr1))
      (pss_cons (ps_setLc (i := 3) rfl scTold.nd rfl rfl (sw_true rfl rfl rfl rfl) (pi_range1 rfl T.range (pa_cons (pe_ix ix_tup (pv 1) pe_int (fun _ _ => rfl)) pa_nil))
        (blkOk_by (own := [("k", 4)]) (show blkC ["line", "shape", "numbers", "rows", "k"] (defScope sTold) _ [("k", 4)] = true by decide +kernel))
        (fun _ _ _ _ _ => pg_name (i := 4) scTold.nd rfl (Or.inl rfl)) (fun _ _ _ _ _ => pts_nil) (fun _ _ _ _ _ => pe_methC0 (pv 0) L.cl mR hr))
      (pss_one (ps_ret (pe_op op_cat (pv 2) (pv 3))))), ?_⟩
    refine ⟨_, rfl, sh, _, _, _, rfl, rfl, hsh, rfl, _, rfl, by omega, by omega, fun D hD => ?_⟩
    rw [Int.toNat_natCast]
    have hpD : p ≠ D := ne_of_none hp hD
    refine lc_range (fun m H' => H' p = some (lineO C dx a (i + m)) ∧ SameOff [p] H H' ∧ H' D = some (.lst (iv ((ns.drop i).take m)))) ⟨by rw [upd_ne hpD]; exact hp, SameOff.of (same_new hD), upd_same⟩ (fun m H' hm ⟨h1, so, hD'⟩ => ?_) (fun H1 ⟨h1, so1, hD1⟩ => ?_)
    · obtain ⟨z, hz⟩ : ∃ z, ns[i + m]? = some z := ⟨_, List.getElem?_eq_getElem (by omega)⟩
      refine ⟨rfl, ?_⟩
      refine ⟨_, rfl, p, dx, _, rfl, h1, (lk_miss _ _ (by decide +kernel)).trans (lk_miss _ _ (by decide +kernel)), p, dx, a, ns, i + m, z, rfl, h1, SqL.off1 hp so hs, hz, ?_⟩
      have hD2 : upd H' p (lineO C dx a (i + m + 1)) D = some (.lst (iv ((ns.drop i).take m))) := by rw [upd_ne (fun q => hpD q.symm)]; exact hD'
      refine ⟨_, hD2, ?_, ?_, ((so.upd (.inl (by simp))).upd (.inr hD)), ?_⟩
      · rw [iv_len, List.length_take]
        have : (1000 : Nat) < sizeLine := by rw [sizeLine_eq]; decide
        omega
      · rw [upd_ne hpD, upd_same]; rfl
      · have e : (ns.drop i)[m]? = some z := by rw [List.getElem?_drop]; exact hz
        rw [upd_same, take_snoc e]
        unfold iv
        rw [List.map_append]
        rfl
    · -- rows
      refine ⟨_, rfl, sh, _, _, _, rfl, rfl, SqT.off1 hp so1 hsh, rfl, _, rfl, by omega, by omega, fun D2 hD2 => ?_⟩
      rw [Int.toNat_natCast]
      have hpD2 : p ≠ D2 := ne_of_none h1 hD2
      have hDD2 : D ≠ D2 := ne_of_none hD1 hD2
      have hD20 : H D2 = none := by
        cases q : H D2 with
        | none => rfl
        | some o => rw [so1 D2 o q (by simp; exact fun e => hpD2 e.symm)] at hD2; cases hD2
      refine lc_range (fun m H' => ∃ (j : Nat) (ps : List Addr), j ≤ ns.length ∧ PyFlat.rows (k - m) (ns.drop j) = some (xs.drop m, t) ∧ m ≤ xs.length ∧ H' p = some (lineO C dx a j) ∧ SameOff [p] H H' ∧ H' D = some (.lst (iv ((ns.drop i).take n))) ∧ ps.length = m ∧ (∀ q ∈ ps, H q = none ∧ q ≠ D ∧ q ≠ D2) ∧
          H' D2 = some (.lst (ps.map V.ref)) ∧ RowsP H' ps (xs.take m))
        ⟨i + n, [], hin, hrows, Nat.zero_le _, by rw [upd_ne hpD2]; exact h1, so1.upd (.inr hD20), by rw [upd_ne hDD2]; exact hD1, rfl, by simp, upd_same, .nil⟩ (fun m H' hm ⟨j, ps, hj, hrow, hmx, g1, so, gD, gl, gf, gD2, gr⟩ => ?_) (fun H' ⟨j, ps, hj, hrow, hmx, g1, so, gD, gl, gf, gD2, gr⟩ => ?_)
      · obtain ⟨k', hk'⟩ : ∃ k', k - m = k' + 1 := ⟨k - m - 1, by omega⟩
        rw [hk'] at hrow
        obtain ⟨z, x, zs, e0, e1, e2, e3, e4⟩ := rows_step hrow
        refine ⟨rfl, ?_⟩
        refine ⟨_, rfl, p, dx, _, rfl, g1, (lk_miss _ _ (by decide +kernel)).trans (lk_miss _ _ (by decide +kernel)), p, dx, a, ns, j, z, rfl, g1, SqL.off1 hp so hs, e1, e2, fun H2 q hq so2 g2 gq => ?_⟩
        have pq : p ≠ q := ne_of_none g1 hq
        have Dq : D ≠ q := ne_of_none gD hq
        have D2q : D2 ≠ q := ne_of_none gD2 hq
        have hD2' : H2 D2 = some (.lst (ps.map V.ref)) := so2 _ _ gD2 (by simp; exact fun e => hpD2 e.symm)
        have hxm : xs[m]? = some x := by
          have : (xs.drop m)[0]? = some x := by rw [e0]; rfl
          rw [List.getElem?_drop] at this
          simpa using this
        have hmx' : m < xs.length := (List.getElem?_eq_some_iff.mp hxm).1
        have hH0 : H q = none := by
          cases qq : H q with
          | none => rfl
          | some o => rw [so q o qq (by simp; exact fun e => pq e.symm)] at hq; cases hq
        refine ⟨_, hD2', ?_, j + 1 + z, ps ++ [q], e2, ?_, hmx', ?_, ?_, ?_, by rw [List.length_append, gl]; rfl, ?_, ?_, ?_⟩
        · rw [List.length_map, gl]
          have : (1000 : Nat) < sizeLine := by rw [sizeLine_eq]; decide
          omega
        · rw [show k - (m + 1) = k' by omega, e4]
          have : xs.drop (m + 1) = zs := by rw [← List.drop_drop, e0]; rfl
          rw [this]
        · rw [upd_ne hpD2]; exact g2
        · exact (so.trans so2).upd (.inr hD20)
        · rw [upd_ne hDD2]; exact so2 _ _ gD (by simp; exact fun e => hpD e.symm)
        · intro q' hq'
          rcases List.mem_append.mp hq' with m1 | m1
          · exact gf q' m1
          · rw [List.mem_singleton.mp m1]; exact ⟨hH0, fun e => Dq e.symm, fun e => D2q e.symm⟩
        · rw [upd_same, List.map_append]; rfl
        · rw [take_snoc hxm]
          refine RowsP.snoc (RowsP.same gr fun q' m1 o e => ?_) ?_
          · obtain ⟨f1, f2, f3⟩ := gf q' m1
            have n1 : q' ≠ p := fun e' => by rw [e', hp] at f1; cases f1
            rw [upd_ne f3]
            exact so2 _ _ e (by simp; exact n1)
          · rw [upd_ne (fun e => D2q e.symm), gq, e3]
      · rw [Nat.sub_self] at hrow
        obtain ⟨b1, b2⟩ := Prod.mk.inj (Option.some.inj (show some (([] : List (List Int)), ns.drop j) = some (xs.drop k, t) from hrow))
        have hxk : xs.length ≤ k := List.drop_eq_nil_iff.mp b1.symm
        rw [List.take_of_length_le hxk] at gr
        refine ⟨_, rfl, _, rfl, D, D2, _, _, rfl, rfl, gD, gD2, ?_, fun D3 hD3 => ?_⟩
        · rw [iv_len, List.length_take, List.length_map, gl]
          have : (2000 : Nat) ≤ sizeLine := by rw [sizeLine_eq]; decide
          omega
        · have pD3 : p ≠ D3 := ne_of_none g1 hD3
          have hH3 : H D3 = none := by
            cases qq : H D3 with
            | none => rfl
            | some o => rw [so D3 o qq (by simp; exact fun e => pD3 e.symm)] at hD3; cases hD3
          refine fin _ D3 ps j hH3 (so.upd (.inr hH3)) hj b2 (by rw [upd_ne pD3]; exact g1) (RowsP.same gr fun q' m1 o e => ?_) (fun q hq => (gf q hq).1) upd_same
          rw [upd_ne (ne_of_none e hD3)]
          exact e
end
end Sw
/-! max(xs, default=d), xs a list of whole numbers -/
namespace Sw
open PySem PySem.Spec PyProof.Rows L2
theorem mx_name : (toString "max" ++ toString ".loop" : String) = "max.loop" := by decide
theorem mx_args (a v : Value) : argsOk "max" ⟨[a], [(Str.ofString "default", v)]⟩ := by unfold argsOk; kernel_rfl
section
variable {prog : Program} {w : World} {A : Around} {R : Result → Shared → Prop} {I : Addr} {fp wr : List Addr} {n : Nat} {P : Nat → Value → Prop} {St : Nat → Heap → Prop} {kw : List (Str × Value)}
theorem mx_loop (W : Walks prog w A.in1 I fp wr n P St) (bt : Nat → Nat → Bool) (hc : CmpOf prog w A.in1 .Gt P bt) (S : Addr) (hf : S ∉ fp) : ∀ (k j : Nat) (s : Shared) (vb : Value) (c : Nat), n - (j + 1) = k → j + 1 ≤ n → St (j + 1) s.heap → P (argBest bt j) vb →
    s.heap.get? S = some { cls := .type "list", dict := none, data := .seq #[vb, vb] c, slots := #[] } → (∀ v h' tk, P (argBest bt (n - 1)) v → (∀ b o, b ∉ wr → b ≠ S → s.heap.get? b = some o → h'.get? b = some o) → R (.ok (.ret v)) { s with heap := h', toks := tk }) →
    codeAny (model prog w) A (.builtin "max.loop" ⟨[.ref I, .none, .ref S], kw⟩) R s := by
  have hw : S ∉ wr := fun m => hf (W.sub _ m)
  intro k
  induction k with
  | zero =>
    intro j s vb c hk hj st pb hS fin
    have hin : j + 1 = n := by omega
    refine codeAny_builtin PySem.F.entry_max_loop ((Around.under_plainId PySem.F.plain_max_loop _).symm ▸ ?_)
    show wpAny _ A.in1 (seqItems? (.ref S) >>= _) _ _ s; refine wpAny_bind (wpAny_seqItems hS rfl ?_)
    show wpAny _ A.in1 (tryCatch (pyNext (.ref I)) _ >>= _) _ _ s; refine wpAny_bind (wpAny_tryCatch (W.done s _ _ (hin ▸ st) fun h' tk kp => ?_))
    show wpAny _ A.in1 (updateSeq S (fun _ => #[]) >>= _) _ _ _; refine wpAny_bind (wpAny_updateSeq (kp S _ hw hS) rfl (wpAny_bind (wpAny_letGo (wpAny_pure ?_))))
    exact fin vb _ tk (by rw [← hin]; exact pb) fun b o nw nS e => (Heap.get?_update_other _ _ (Ne.symm nS)).trans (kp b o nw e)
  | succ k ih =>
    intro j s vb c hk hj st pb hS fin
    have hlt : j + 1 < n := by omega
    refine codeAny_builtin PySem.F.entry_max_loop ((Around.under_plainId PySem.F.plain_max_loop _).symm ▸ ?_)
    show wpAny _ A.in1 (seqItems? (.ref S) >>= _) _ _ s; refine wpAny_bind (wpAny_seqItems hS rfl ?_)
    show wpAny _ A.in1 (tryCatch (pyNext (.ref I)) _ >>= _) _ _ s; refine wpAny_bind (wpAny_tryCatch (W.item (j + 1) s _ _ hlt st fun v h' tk hP st' kp => ?_))
    have hS' := kp S _ hw hS
    show wpAny _ A.in1 (tryCatch (holding [v, v] (richCompare .Gt v vb >>= _)) _ >>= _) _ _ _; refine wpAny_bind (wpAny_tryCatch (wpAny_holding (wpAny_bind (hc (j + 1) (argBest bt j) v vb _ _ _ hP pb ?_))))
    refine wpAny_bind (wpAny_holding (wpAny_truthy_bool (wpAny_bind (wpAny_letGo (wpAny_pure ?_)))))
    cases hb : bt (j + 1) (argBest bt j) with
    | true =>
      simp only [if_true]
      refine wpAny_bind (wpAny_updateSeq hS' rfl (wpAny_bind (wpAny_letGo ?_)))
      rw [mx_name]
      refine wpAny_pure ⟨plainId_quiet PySem.F.plain_max_loop _, ih (j + 1) _ v _ (by omega) hlt (W.frame _ _ _ st' fun b bf o e => (Heap.get?_update_other _ _ (fun q : S = b => hf (by rw [q]; exact bf))).trans e) (by simp only [argBest, hb, if_true]; exact hP)
        (Heap.get?_update_self _ hS' rfl) fun v' h2 tk2 hP' kp2 => fin v' h2 tk2 hP' fun b o nw nS e => kp2 b o nw nS ((Heap.get?_update_other _ _ (Ne.symm nS)).trans (kp b o nw e))⟩
    | false =>
      simp only [Bool.false_eq_true, if_false]
      refine wpAny_bind (wpAny_letGo ?_)
      rw [mx_name]
      exact wpAny_pure ⟨plainId_quiet PySem.F.plain_max_loop _, ih (j + 1) _ vb c (by omega) hlt st' (by simp only [argBest, hb, Bool.false_eq_true, if_false]; exact pb) hS' fun v' h2 tk2 hP' kp2 => fin v' h2 tk2 hP' fun b o nw nS e => kp2 b o nw nS (kp b o nw e)⟩
theorem mx_first (W : Walks prog w A.in1 I fp wr n P St) (bt : Nat → Nat → Bool) (hc : CmpOf prog w A.in1 .Gt P bt) (S : Addr) (hf : S ∉ fp) (d : Value) {s : Shared} {c : Nat} (st : St 0 s.heap)
    (hS : s.heap.get? S = some { cls := .type "list", dict := none, data := .seq #[] c, slots := #[] })
    (fin : ∀ v h' tk, (0 < n ∧ P (argBest bt (n - 1)) v ∨ n = 0 ∧ v = d) → (∀ b o, b ∉ wr → b ≠ S → s.heap.get? b = some o → h'.get? b = some o) → R (.ok (.ret v)) { s with heap := h', toks := tk }) :
    codeAny (model prog w) A (.builtin "max.loop" ⟨[.ref I, .none, .ref S], [(Str.ofString "default", d)]⟩) R s := by
  have hw : S ∉ wr := fun m => hf (W.sub _ m)
  refine codeAny_builtin PySem.F.entry_max_loop ((Around.under_plainId PySem.F.plain_max_loop _).symm ▸ ?_)
  show wpAny _ A.in1 (seqItems? (.ref S) >>= _) _ _ s; refine wpAny_bind (wpAny_seqItems hS rfl ?_)
  show wpAny _ A.in1 (tryCatch (pyNext (.ref I)) _ >>= _) _ _ s
  rcases Nat.eq_zero_or_pos n with h0 | hn
  · refine wpAny_bind (wpAny_tryCatch (W.done s _ _ (h0 ▸ st) fun h' tk kp => ?_))
    show wpAny _ A.in1 (rule _ >>= _) _ _ _
    refine wpAny_bind (wpAny_rule ?_)
    exact wpAny_pure (fin d _ tk (.inr ⟨h0, rfl⟩) fun b o nw _ e => kp b o nw e)
  · refine wpAny_bind (wpAny_tryCatch (W.item 0 s _ _ hn st fun v h' tk hP st' kp => ?_))
    have hS' := kp S _ hw hS
    show wpAny _ A.in1 (updateSeq S (fun _ => #[v, v]) >>= _) _ _ _; refine wpAny_bind (wpAny_updateSeq hS' rfl ?_)
    rw [mx_name]
    exact wpAny_pure ⟨plainId_quiet PySem.F.plain_max_loop _, mx_loop W bt hc S hf _ 0 _ v _ rfl hn (W.frame _ _ _ st' fun b bf o e => (Heap.get?_update_other _ _ (fun q : S = b => hf (by rw [q]; exact bf))).trans e) hP (Heap.get?_update_self _ hS' rfl)
      fun v' h2 tk2 hP' kp2 => fin v' h2 tk2 (.inl ⟨hn, hP'⟩) fun b o nw nS e => kp2 b o nw nS ((Heap.get?_update_other _ _ (Ne.symm nS)).trans (kp b o nw e))⟩
end
section
variable {prog : Program} {w : World} {A : Around} {E : Value → Shared → Prop} {s : Shared} {l : Addr} {Q : Value → Shared → Prop}
theorem mx_call {xs : Array (Int × Tok)} {d : Value} (hh : A.handled = none) (hl : s.heap.IsList l (intItems xs))
    (h : ∀ v h' tk, (0 < xs.size ∧ (intItems xs)[argBest (fun i j => decide (numAt xs i > numAt xs j)) (xs.size - 1)]? = some v ∨ xs.size = 0 ∧ v = d) → (∀ b o, s.heap.get? b = some o → h'.get? b = some o) → Q v { s with heap := h', toks := tk }) :
    wpAny (model prog w) A (call (.builtin "max") [.ref l] [(Str.ofString "default", d)]) Q E s := by
  refine kmk_tree PySem.F.kind_max PySem.F.plain_max PySem.F.entry_max (mx_args _ _) ?_
  show wpAny _ A.in1 (Builtin.Builtins.bindParams "max" ["key", "default"] 0 ⟨[], [(Str.ofString "default", d)]⟩ >>= _) _ _ s
  refine wpAny_bind (wpAny_of_eq (show Builtin.Builtins.bindParams "max" ["key", "default"] 0 ⟨[], [(Str.ofString "default", d)]⟩ = pure [none, some d] from rfl) (wpAny_bind (wpAny_pure ?_)))
  refine wpAny_bind (iter_intList hl fun s₂ e st hfp hlI => ?_)
  subst e
  refine wpAny_bind (wpAny_newObj_type ?_)
  rw [mx_name]
  have hsz : (intItems xs).size = xs.size := by simp [intItems]
  refine wpAny_pure ⟨plainId_quiet PySem.F.plain_max_loop _, mx_first (Walks.list (A := A.in1) hh _ l hlI (intItems xs)) (fun i j => decide (numAt xs i > numAt xs j)) (CmpOf.ints_gt (numAt xs) (fun _ _ => intItems_at)) _ (fun hm => Nat.lt_irrefl _ (hfp _ hm)) d
    ((Walks.list (prog := prog) (w := w) (A := A.in1) hh _ l hlI (intItems xs)).frame _ _ _ st fun b _ o e => Heap.get?_push_of_some _ e) (Heap.get?_push_size _ rfl) fun v h' tk hv kp => ?_⟩
  rw [hsz] at hv
  exact h v h' tk hv (old_kept fun b o nw e => kp b o nw (Nat.ne_of_lt (Heap.lt_size e)) (Heap.get?_push_of_some _ e))
theorem mx_raw {its : List Value} {ns : List Int} {d : Value} (hh : A.handled = none) (hl : s.heap.IsList l its.toArray) (hi : IntsAre its ns)
    (h : ∀ h' tk v, (∀ b o, s.heap.get? b = some o → h'.get? b = some o) → ((∃ M t, v = .int M t ∧ M ∈ ns ∧ ∀ a, a ∈ ns → a ≤ M) ∨ ns = [] ∧ v = d) → Q v { s with heap := h', toks := tk }) : wpAny (model prog w) A (call (.builtin "max") [.ref l] [(Str.ofString "default", d)]) Q E s := by
  obtain ⟨xs, e⟩ := hi.allInts.items
  have hn : numsOf (intItems xs).toList = ns := by rw [← e]; exact hi.numsOf
  rw [nums_intItems] at hn; subst hn; rw [e] at hl
  refine mx_call hh hl fun v h' tk hv hk => ?_
  rcases hv with ⟨hp, hv⟩ | ⟨hz, hv⟩
  · obtain ⟨t, rfl⟩ := intItems_at hv
    obtain ⟨h1, h2⟩ := argBest_gt (numAt xs) (xs.size - 1)
    refine h h' tk _ hk (.inl ⟨_, t, rfl, ?_, fun a ha => ?_⟩)
    · rw [numAt_eq]; exact PySem.getD_mem (by rw [List.length_map, Array.length_toList]; omega)
    · obtain ⟨j, hj, rfl⟩ := mem_getD ha
      rw [List.length_map, Array.length_toList] at hj; rw [← numAt_eq]; exact h2 j (by omega)
  · refine h h' tk _ hk (.inr ⟨?_, hv⟩)
    have : xs.toList = [] := List.length_eq_zero_iff.mp (by rw [Array.length_toList]; exact hz)
    rw [this]; rfl
end
section
variable {X : Cx} {e d : Expr} {p pos kpos : Pos} {t tk : TA}
def tMaxD (K : PySem.W.Frag) (t tk : TA) : TE := fun σ H Q => t σ H fun vs H1 => tk σ H1 fun zs H2 => ∃ (a : Addr) (ns : List Int) (z : Int), vs = [.ref a] ∧ zs = [.int z] ∧ SqL K H2 a (ns.map V.int) ∧
  ∀ m : Int, ((m ∈ ns ∧ ∀ b, b ∈ ns → b ≤ m) ∨ ns = [] ∧ m = z) → Q (.int m) H2
theorem pe_maxD (hc : X.calm = true) (hg : Gl X "max") (hm : X.mg "max" = none) (ha : PA X [e] t) (hk : PK X [⟨some "default", d, kpos⟩] tk) (hs : starEach [e] X.env = [(false, eval e X.env)] := by rfl) :
    PE X (.Call (.Name "max" p) [e] [⟨some "default", d, kpos⟩] pos) (tMaxD X.K t tk) := by
  intro pins s σ H Q I h
  refine wpAny_Call_Name_kw (ld_blt I hg hm boot_max ?_ (by decide) (by decide))
  refine callWith_kw (thn (ha pos pins s σ H _ I h) fun us s1 ⟨vs, H1, I1, r, q⟩ => thn (hk pos pins s1 σ H1 _ I1 q) fun ws s2 ⟨zs, H2, I2, rz, a, ns, z, ev, ez, hl, q2⟩ => ?_) (by rw [hs]; rfl) (by rw [hs]; rfl) rfl rfl
  subst ev ez
  rw [Vals.ref1 r]
  obtain ⟨u, rfl⟩ : ∃ u, ws = [Value.int z u] := by
    cases rz with
    | cons r1 t1 =>
      cases t1
      obtain ⟨u, rfl⟩ := r1
      exact ⟨u, rfl⟩
  obtain ⟨its, rv, hl', _⟩ := I2.list hl
  exact mx_raw (I2.ok.hd hc) hl'.isList rv.ints fun h' tk v kp hv => by
    rcases hv with ⟨M, t, rfl, h1, h2⟩ | ⟨h1, rfl⟩
    · exact ⟨.int M, H2, I2.kept kp, ⟨_, rfl⟩, q2 M (.inl ⟨h1, h2⟩)⟩
    · exact ⟨.int z, H2, I2.kept kp, ⟨_, rfl⟩, q2 z (.inr ⟨h1, rfl⟩)⟩
end
end Sw
namespace Sw
open PySem PySem.Spec PyProof.Rows L2
abbrev sTInit : Stmt := inClass (top 28) 0
abbrev sPInit : Stmt := inClass (top 29) 0
abbrev sCopy : Stmt := top 31
abbrev sTake : Stmt := top 32
abbrev sDmgOf : Stmt := top 33
abbrev sDmgNow : Stmt := top 34
abbrev sForget : Stmt := top 35
abbrev sKeep : Stmt := top 36
abbrev sAsStep : Stmt := top 37
abbrev sRoom : Stmt := top 38
abbrev sBtwn : Stmt := top 39
/-! ### a class of the text that may be made -/
section
variable {P : Program} {w : World} {K : PySem.W.Frag} {mg : Str → Option Value} {base : Heap}
structure MkCal (P : Program) (w : World) (K : PySem.W.Frag) (mg : Str → Option Value) (base : Heap) (x : Str) (C : Addr) (k : Nat) (ps : List Str) (sp : Sp) : Prop where
  ex : ∃ f fd, Mk K C f ∧ FnOk P w K mg base CX0 k f fd ps sp ∧ mg x = some (.ref C) ∧ Binds K fd ps []
end
section
variable {X : Cx} {k : Nat} {ps : List Str} {sp : Sp} {x : Str} {C : Addr} {p pos : Pos} {e : Expr} {es : List Expr} {t : TA}
theorem pe_makeC0 (c : MkCal X.prog X.w X.K X.mg X.base x C k ps sp) (hr : Room (k + 1) X.A) (hg : Gl X x) (hdb : (x == ("__debug__" : Str)) = false := by decide) : PE X (.Call (.Name x p) [] [] pos) (tMake C sp [] E0 tNil) := by
  obtain ⟨f, fd, M, G, hm, b⟩ := c.ex
  exact pe_make0 M G hr hg hm b .nil pass0 hdb
theorem pe_makeC (c : MkCal X.prog X.w X.K X.mg X.base x C k ps sp) (hr : Room (k + 1) X.A) (hg : Gl X x) (ha : PA X (e :: es) t) (hdb : (x == ("__debug__" : Str)) = false := by decide)
    (he : starEach (e :: es) X.env = (false, eval e X.env) :: starEach es X.env := by rfl) (hpl : (backTo pos (starEach es X.env)).any (·.1) = false := by rfl) : PE X (.Call (.Name x p) (e :: es) [] pos) (tMake C sp [] E0 t) := by
  obtain ⟨f, fd, M, G, hm, b⟩ := c.ex
  exact pe_make M G hr hg hm b .nil pass0 ha hdb he hpl
end
/-! ### heaps: what is new -/
theorem SameOff.free {S : List Addr} {H H' : Hp} (so : SameOff S H H') {b : Addr} (n : b ∉ S) (h : H' b = none) : H b = none := by
  cases q : H b with
  | none => rfl
  | some o => rw [so b o q n] at h; cases h
theorem SameOff.same {S : List Addr} {H H' : Hp} (so : SameOff S H H') (h : ∀ b ∈ S, H b = none) : Same H H' := fun b o e => so b o e fun m => by rw [h b m] at e; cases e
theorem SameOff.off {S T : List Addr} {H H1 H2 : Hp} (a : SameOff S H H1) (b : SameOff T H1 H2) (h : ∀ x ∈ T, x ∈ S ∨ H x = none) : SameOff S H H2 := fun c o e n => b c o (a c o e n) fun m => by
  rcases h c m with q | q
  · exact n q
  · rw [q] at e; cases e
/-! ### a tally -/
def tallyO (C dx : Addr) (c : Nat) (r d : Addr) (h : Nat) : HO := .ins C dx [("came", .int (c : Int)), ("row", .ref r), ("sizes_done", .ref d), ("harm_kept", .int (h : Int))]
structure TTxt (K : PySem.W.Frag) (C : Addr) : Prop where
  cl : Cls K C
  nC : NoAttr K C "came"
  nR : NoAttr K C "row"
  nD : NoAttr K C "sizes_done"
  nH : NoAttr K C "harm_kept"
/-- where a tally and its two lists stand -/
structure Tl where
  p : Addr
  r : Addr
  d : Addr
def Tl.fp (x : Tl) : List Addr := [x.p, x.r, x.d]
structure TlAt (C : Addr) (H : Hp) (x : Tl) (l dn : List Nat) (c h : Nat) : Prop where
  ins : ∃ dx, H x.p = some (tallyO C dx c x.r x.d h)
  row : H x.r = some (.lst (nums l.reverse))
  don : H x.d = some (.lst (nums dn))
  ne : x.r ≠ x.d
theorem TlAt.same {C : Addr} {H H' : Hp} {x : Tl} {l dn : List Nat} {c h : Nat} (t : TlAt C H x l dn c h) (s : Same H H') : TlAt C H' x l dn c h := by
  obtain ⟨⟨dx, t1⟩, t2, t3, t4⟩ := t
  exact ⟨⟨dx, s _ _ t1⟩, s _ _ t2, s _ _ t3, t4⟩
theorem TlAt.off {C : Addr} {H H' : Hp} {S : List Addr} {x : Tl} {l dn : List Nat} {c h : Nat} (t : TlAt C H x l dn c h) (s : SameOff S H H') (n : ∀ b ∈ x.fp, b ∉ S) : TlAt C H' x l dn c h := by
  obtain ⟨⟨dx, t1⟩, t2, t3, t4⟩ := t
  exact ⟨⟨dx, s _ _ t1 (n _ (by simp [Tl.fp]))⟩, s _ _ t2 (n _ (by simp [Tl.fp])), s _ _ t3 (n _ (by simp [Tl.fp])), t4⟩
theorem TlAt.has {C : Addr} {H : Hp} {x : Tl} {l dn : List Nat} {c h : Nat} (t : TlAt C H x l dn c h) : ∀ b ∈ x.fp, ∃ o, H b = some o := by
  obtain ⟨⟨dx, t1⟩, t2, t3, t4⟩ := t
  intro b m
  simp only [Tl.fp, List.mem_cons, List.not_mem_nil, or_false] at m
  rcases m with rfl | rfl | rfl
  · exact ⟨_, t1⟩
  · exact ⟨_, t2⟩
  · exact ⟨_, t3⟩
theorem TlAt.pr {C : Addr} {H : Hp} {x : Tl} {l dn : List Nat} {c h : Nat} (t : TlAt C H x l dn c h) : x.p ≠ x.r := by
  obtain ⟨⟨dx, t1⟩, t2, _, _⟩ := t
  exact ne_of t1 t2 (by intro z; cases z)
theorem TlAt.pd {C : Addr} {H : Hp} {x : Tl} {l dn : List Nat} {c h : Nat} (t : TlAt C H x l dn c h) : x.p ≠ x.d := by
  obtain ⟨⟨dx, t1⟩, _, t2, _⟩ := t
  exact ne_of t1 t2 (by intro z; cases z)
/-! ### promises -/
def spTInit (C : Addr) : Sp := fun vs H Q _ => ∃ (p dx : Addr), vs = [.ref p] ∧ H p = some (.ins C dx []) ∧
  ∀ (H' : Hp) (r d : Addr), H r = none → H d = none → SameOff [p] H H' → (∃ dx, H' p = some (tallyO C dx 0 r d 0)) → TlAt C H' ⟨p, r, d⟩ [] [] 0 0 → Q .non H'
def spCopy (C : Addr) : Sp := fun vs H Q _ => ∃ (x : Tl) (l dn : List Nat) (c h : Nat), vs = [.ref x.p] ∧ TlAt C H x l dn c h ∧
  ∀ (H' : Hp) (y : Tl), (∀ b ∈ y.fp, H b = none) → Same H H' → TlAt C H' y l dn c h → Q (.ref y.p) H'
section
variable {P : Program} {w : World} {K : PySem.W.Frag} {mg : Str → Option Value} {base : Heap}
theorem scTInit : FnScope ["self"] ["self"] (defScope sTInit) := ⟨rfl, rfl, rfl, by decide +kernel, rfl, by decide +kernel, by decide +kernel⟩
theorem ok_tinit {f C : Addr} {fd : FuncData} (F : Fun K "__init__" "Tally.__init__" sTInit f fd) (T : TTxt K C) : FnOk P w K mg base CX0 1 f fd ["self"] (spTInit C) := by
  refine F.ok scTInit (fun vs H Q E h => ?_) (fun cdv A outer s H vs Q E hr h => ?_)
  · obtain ⟨p, dx, rfl, _⟩ := h
    rfl
  · obtain ⟨p, dx, rfl, hp, k⟩ := h
    refine ⟨_, pss_cons (ps_fld (pv 0) pe_int rfl) (pss_cons (ps_fld (pv 0) (pe_lst pa_nil) rfl) (pss_cons (ps_fld (pv 0) (pe_lst pa_nil) rfl) (pss_one (ps_fld (pv 0) pe_int rfl)))), ?_⟩
    refine ⟨_, rfl, p, C, dx, [], rfl, hp, T.cl, T.nC, (by show 0 < 1000; decide), ?_⟩
    rw [putF_nil]
    refine ⟨Nat.zero_le _, fun r hr' => ?_⟩
    have pr : p ≠ r := ne_of_none upd_same hr'
    have hr0 : H r = none := by rw [upd_ne (fun e => pr e.symm)] at hr'; exact hr'
    refine ⟨_, rfl, p, C, dx, _, rfl, by rw [upd_ne pr, upd_same], T.cl, T.nR, (by show 1 < 1000; decide), ?_⟩
    rw [putF_miss _ _ _ (by decide +kernel), putF_nil]
    refine ⟨Nat.zero_le _, fun d hd' => ?_⟩
    have pd : p ≠ d := ne_of_none upd_same hd'
    have rd : r ≠ d := ne_of_none (by rw [upd_ne (fun e => pr e.symm), upd_same]) hd'
    have hd0 : H d = none := by rw [upd_ne (fun e => pd e.symm), upd_ne (fun e => rd e.symm), upd_ne (fun e => pd e.symm)] at hd'; exact hd'
    refine ⟨_, rfl, p, C, dx, _, rfl, by rw [upd_ne pd, upd_same], T.cl, T.nD, (by show 2 < 1000; decide), ?_⟩
    rw [putF_miss _ _ _ (by decide +kernel), putF_miss _ _ _ (by decide +kernel), putF_nil]
    refine ⟨_, rfl, p, C, dx, _, rfl, upd_same, T.cl, T.nH, (by show 3 < 1000; decide), ?_⟩
    rw [putF_miss _ _ _ (by decide +kernel), putF_miss _ _ _ (by decide +kernel), putF_miss _ _ _ (by decide +kernel), putF_nil]
    have mp : p ∈ [p] ∨ H p = none := .inl (by simp)
    refine k _ r d hr0 hd0 (by exact ((((((SameOff.refl [p] H).upd mp).upd (.inr hr0)).upd mp).upd (.inr hd0)).upd mp).upd mp) ⟨dx, upd_same⟩ ⟨⟨dx, upd_same⟩, ?_, ?_, rd⟩
    · show upd _ p _ r = _
      rw [upd_ne (fun e => pr e.symm), upd_ne (fun e => pr e.symm), upd_ne rd, upd_ne (fun e => pr e.symm), upd_same]
      rfl
    · show upd _ p _ d = _
      rw [upd_ne (fun e => pd e.symm), upd_ne (fun e => pd e.symm), upd_same]
      rfl
/-! ### copy_of -/
theorem scCopy : FnScope ["tally", "other"] ["tally"] (defScope sCopy) := ⟨rfl, rfl, rfl, by decide +kernel, rfl, by decide +kernel, by decide +kernel⟩
theorem ok_copy {f C : Addr} {fd : FuncData} (F : Fun K "copy_of" "copy_of" sCopy f fd) (T : TTxt K C) (X : Txt mg) (mT : MkCal P w K mg base "Tally" C 1 ["self"] (spTInit C)) : FnOk P w K mg base CX0 3 f fd ["tally"] (spCopy C) := by
  refine F.ok scCopy (fun vs H Q E h => ?_) (fun cdv A outer s H vs Q E hr h => ?_)
  · obtain ⟨x, l, dn, c, h, rfl, _⟩ := h
    rfl
  · obtain ⟨x, l, dn, c, h, rfl, t, k⟩ := h
    refine ⟨_, pss_cons (ps_set (i := 1) scCopy.nd rfl (Or.inl rfl) (pe_makeC0 mT hr rfl))
      (pss_cons (ps_fld (pv 1) (pe_fld (pv 0) rfl) rfl)
      (pss_cons (ps_fld (pv 1) (pe_callTy call_list_of rfl X.list boot_list (pa_cons (pe_fld (pv 0) rfl) pa_nil)) rfl)
      (pss_cons (ps_fld (pv 1) (pe_callTy call_list_of rfl X.list boot_list (pa_cons (pe_fld (pv 0) rfl) pa_nil)) rfl)
      (pss_cons (ps_fld (pv 1) (pe_fld (pv 0) rfl) rfl)
      (pss_one (ps_ret (pv 1))))))), ?_⟩
    intro p dp np ndp nep
    refine ⟨p, dp, rfl, upd_same, fun H1 r0 d0 nr0 nd0 so t1 t2 => ⟨rfl, ?_⟩⟩
    have sm1 : Same H H1 := Same.made np ndp fun b o e n => so b o e (by simp; exact n)
    obtain ⟨dq, hq⟩ := t1
    obtain ⟨⟨dx, g1⟩, g2, g3, g4⟩ := t.same sm1
    have xp : x.p ≠ p := ne_of_none (t.ins.choose_spec) np
    refine ⟨_, rfl, x.p, C, dx, _, _, rfl, g1, T.cl, T.nC, lk_hit _ _ _, _, rfl, p, C, dq, _, rfl, hq, T.cl, T.nC, (by show 4 < 1000; decide), ?_⟩
    rw [putF_hit]
    have g1' : upd H1 p (.ins C dq [("came", .int (c : Int)), ("row", .ref r0), ("sizes_done", .ref d0), ("harm_kept", .int ((0 : Nat) : Int))]) x.p = some (tallyO C dx c x.r x.d h) := by rw [upd_ne xp]; exact g1
    have xrp : x.r ≠ p := ne_of_none t.row np
    have xdp : x.d ≠ p := ne_of_none t.don np
    have g2' : upd H1 p (.ins C dq [("came", .int (c : Int)), ("row", .ref r0), ("sizes_done", .ref d0), ("harm_kept", .int ((0 : Nat) : Int))]) x.r = some (.lst (nums l.reverse)) := by rw [upd_ne xrp]; exact g2
    have g3' : upd H1 p (.ins C dq [("came", .int (c : Int)), ("row", .ref r0), ("sizes_done", .ref d0), ("harm_kept", .int ((0 : Nat) : Int))]) x.d = some (.lst (nums dn)) := by rw [upd_ne xdp]; exact g3
    have sm2 : Same H (upd H1 p (.ins C dq [("came", .int (c : Int)), ("row", .ref r0), ("sizes_done", .ref d0), ("harm_kept", .int ((0 : Nat) : Int))])) := same_upd sm1 np
    have hp2 : upd H1 p (.ins C dq [("came", .int (c : Int)), ("row", .ref r0), ("sizes_done", .ref d0), ("harm_kept", .int ((0 : Nat) : Int))]) p = some (.ins C dq [("came", .int (c : Int)), ("row", .ref r0), ("sizes_done", .ref d0), ("harm_kept", .int ((0 : Nat) : Int))]) := upd_same
    generalize upd H1 p (.ins C dq [("came", .int (c : Int)), ("row", .ref r0), ("sizes_done", .ref d0), ("harm_kept", .int ((0 : Nat) : Int))]) = H2 at *
    refine ⟨_, rfl, x.p, C, dx, _, _, rfl, g1', T.cl, T.nR, (lk_miss _ _ (by decide +kernel)).trans (lk_hit _ _ _), x.r, _, rfl, .inl (SqL.of g2'), fun r hr' => ?_⟩
    have pr : p ≠ r := ne_of_none hp2 hr'
    refine ⟨_, rfl, p, C, dq, _, rfl, by rw [upd_ne pr]; exact hp2, T.cl, T.nR, (by show 4 < 1000; decide), ?_⟩
    rw [putF_miss _ _ _ (by decide +kernel), putF_hit]
    have hr0 : H r = none := sm2.free hr'
    have sm3 : Same H2 (upd H2 r (.lst (nums l.reverse))) := same_new hr'
    have xpr : x.p ≠ r := ne_of_none g1' hr'
    have xdr : x.d ≠ r := ne_of_none g3' hr'
    refine ⟨_, rfl, x.p, C, dx, _, _, rfl, by rw [upd_ne xp, upd_ne xpr]; exact g1', T.cl, T.nD, (lk_miss _ _ (by decide +kernel)).trans ((lk_miss _ _ (by decide +kernel)).trans (lk_hit _ _ _)), x.d, _, rfl, .inl (SqL.of (by rw [upd_ne xdp, upd_ne xdr]; exact g3')), fun d hd' => ?_⟩
    have pd : p ≠ d := ne_of_none upd_same hd'
    have rd : r ≠ d := ne_of_none (by rw [upd_ne (fun e => pr e.symm), upd_same]) hd'
    have hd2 : H2 d = none := by rw [upd_ne (fun e => pd e.symm), upd_ne (fun e => rd e.symm)] at hd'; exact hd'
    have hd0 : H d = none := sm2.free hd2
    have xpd : x.p ≠ d := ne_of_none g1' hd2
    refine ⟨_, rfl, p, C, dq, _, rfl, by rw [upd_ne pd, upd_same], T.cl, T.nD, (by show 4 < 1000; decide), ?_⟩
    rw [putF_miss _ _ _ (by decide +kernel), putF_miss _ _ _ (by decide +kernel), putF_hit]
    refine ⟨_, rfl, x.p, C, dx, _, _, rfl, by rw [upd_ne xp, upd_ne xpd, upd_ne xp, upd_ne xpr]; exact g1', T.cl, T.nH, (lk_miss _ _ (by decide +kernel)).trans ((lk_miss _ _ (by decide +kernel)).trans ((lk_miss _ _ (by decide +kernel)).trans (lk_hit _ _ _))), _, rfl,
      p, C, dq, _, rfl, upd_same, T.cl, T.nH, (by show 4 < 1000; decide), ?_⟩
    rw [putF_miss _ _ _ (by decide +kernel), putF_miss _ _ _ (by decide +kernel), putF_miss _ _ _ (by decide +kernel), putF_hit]
    refine ⟨_, rfl, ?_⟩
    refine k _ ⟨p, r, d⟩ ?_ (by exact same_upd (same_upd (same_upd (same_upd (same_upd sm2 hr0) np) hd0) np) np) ⟨⟨dq, upd_same⟩, ?_, ?_, rd⟩
    · intro b m
      simp only [Tl.fp, List.mem_cons, List.not_mem_nil, or_false] at m
      rcases m with rfl | rfl | rfl
      · exact np
      · exact hr0
      · exact hd0
    · show upd _ p _ r = _
      rw [upd_ne (fun e => pr e.symm), upd_ne (fun e => pr e.symm), upd_ne rd, upd_ne (fun e => pr e.symm), upd_same]
    · show upd _ p _ d = _
      rw [upd_ne (fun e => pd e.symm), upd_ne (fun e => pd e.symm), upd_same]
end
end Sw
namespace Sw
open Kqb6
/-! ### many readings -/
theorem reads_nil (l : List Nat) : reads l [] = (l, []) := by unfold reads; rfl
theorem reads_cons (l : List Nat) (x : Nat) (r : List Nat) : reads l (x :: r) = ((reads (Kqb6.read l x).1 r).1, (Kqb6.read l x).2 ++ (reads (Kqb6.read l x).1 r).2) := by
  rw [reads.eq_def]
theorem reads_app : ∀ (xs ys l : List Nat), reads l (xs ++ ys) = ((reads (reads l xs).1 ys).1, (reads l xs).2 ++ (reads (reads l xs).1 ys).2)
  | [], ys, l => by rw [reads_nil]; rfl
  | x :: xs, ys, l => by
    rw [List.cons_append, reads_cons, reads_cons, reads_app xs ys]
    simp only [List.append_assoc]
theorem reads_one (l : List Nat) (x : Nat) : reads l [x] = Kqb6.read l x := by
  rw [reads_cons, reads_nil, List.append_nil]
theorem reads_snoc (l xs : List Nat) (x : Nat) : reads l (xs ++ [x]) = ((Kqb6.read (reads l xs).1 x).1, (reads l xs).2 ++ (Kqb6.read (reads l xs).1 x).2) := by
  rw [reads_app, reads_one]
theorem reads_len : ∀ (xs l : List Nat), (reads l xs).1.length + 2 * (reads l xs).2.length ≤ l.length + xs.length
  | [], l => by rw [reads_nil]; simp
  | x :: xs, l => by
    rw [reads_cons]
    have h1 := reads_len xs (Kqb6.read l x).1
    have h2 := read_len l x
    simp only [List.length_append, List.length_cons] at *
    omega
/-- what's open, over and over -/
theorem over_reads : ∀ (n : Nat) (p l : List Nat), over n p l = reads l (List.replicate n p).flatten
  | 0, p, l => by
    show (l, []) = reads l []
    rw [reads_nil]
  | n + 1, p, l => by
    show ((over n p (reads l p).1).1, (reads l p).2 ++ (over n p (reads l p).1).2) = reads l (p ++ (List.replicate n p).flatten)
    rw [over_reads n p, reads_app]
/-! ### what's open stays, and stays within 1000 -/
theorem point_ne (l : List Nat) (x : Nat) : point l x ≠ [] := fun e => by
  have := point_pos l x
  rw [e] at this
  simp at this
theorem settled_ne : ∀ (n : Nat) (l o : List Nat), l.length ≤ n → l ≠ [] → (settled l o).1 ≠ []
  | n, l, o, hn, h0 => by
    cases h : innerL l with
    | false => rw [settled_out h]; exact h0
    | true =>
      obtain ⟨d, c, b, a, r, rfl, hi⟩ := innerL_true h
      rw [settled_in hi]
      match n, hn with
      | 0, hn => simp at hn
      | n + 1, hn => exact settled_ne n (d :: a :: r) _ (by simp at hn ⊢; omega) (by simp)
theorem read_ne (l : List Nat) (x : Nat) : (Kqb6.read l x).1 ≠ [] := by
  rw [read_eq]
  exact settled_ne _ _ _ (Nat.le_refl _) (point_ne l x)
theorem reads_ne : ∀ (xs l : List Nat), xs ≠ [] ∨ l ≠ [] → (reads l xs).1 ≠ []
  | [], l, h => by
    rw [reads_nil]
    rcases h with h | h
    · exact absurd rfl h
    · exact h
  | x :: xs, l, _ => by
    rw [reads_cons]
    exact reads_ne xs _ (.inr (read_ne l x))
def low (l : List Nat) : Prop := ∀ x ∈ l, x ≤ 1000
theorem point_low {l : List Nat} {x : Nat} (h : low l) (hx : x ≤ 1000) : low (point l x) := by
  intro y hy
  unfold point at hy
  split at hy
  · split at hy
    · rcases List.mem_cons.mp hy with rfl | m
      · exact hx
      · exact h y (List.mem_cons_of_mem _ m)
    · rcases List.mem_cons.mp hy with rfl | m
      · exact hx
      · exact h y m
  · split at hy
    · exact h y hy
    · rcases List.mem_cons.mp hy with rfl | m
      · exact hx
      · exact h y m
  · rw [List.mem_singleton.mp hy]; exact hx
theorem settled_low : ∀ (n : Nat) (l o : List Nat), l.length ≤ n → low l → low (settled l o).1
  | n, l, o, hn, h0 => by
    cases h : innerL l with
    | false => rw [settled_out h]; exact h0
    | true =>
      obtain ⟨d, c, b, a, r, rfl, hi⟩ := innerL_true h
      rw [settled_in hi]
      match n, hn with
      | 0, hn => simp at hn
      | n + 1, hn => exact settled_low n (d :: a :: r) _ (by simp at hn ⊢; omega) (fun y hy => h0 y (by simp at hy ⊢; rcases hy with h | h | h <;> simp [h]))
theorem read_low {l : List Nat} {x : Nat} (h : low l) (hx : x ≤ 1000) : low (Kqb6.read l x).1 := by
  rw [read_eq]
  exact settled_low _ _ _ (Nat.le_refl _) (point_low h hx)
theorem reads_low : ∀ {xs l : List Nat}, low l → low xs → low (reads l xs).1
  | [], l, h, _ => by rw [reads_nil]; exact h
  | x :: xs, l, h, hx => by
    rw [reads_cons]
    exact reads_low (read_low h (hx x (by simp))) fun y m => hx y (by simp [m])
theorem low_rep {l : List Nat} (h : low l) (n : Nat) : low (List.replicate n l.reverse).flatten := by
  intro y hy
  rw [List.mem_flatten] at hy
  obtain ⟨m, h1, h2⟩ := hy
  rw [(List.mem_replicate.mp h1).2] at h2
  exact h y (List.mem_reverse.mp h2)
/-! ### the greatest, the least -/
theorem foldl_max : ∀ (l : List Nat) (z : Nat), (∀ x ∈ l, x ≤ l.foldl max z) ∧ z ≤ l.foldl max z ∧ (l.foldl max z = z ∨ l.foldl max z ∈ l)
  | [], z => ⟨by simp, Nat.le_refl _, .inl rfl⟩
  | a :: l, z => by
    obtain ⟨h1, h2, h3⟩ := foldl_max l (max z a)
    rw [List.foldl_cons]
    refine ⟨fun x hx => ?_, by omega, ?_⟩
    · rcases List.mem_cons.mp hx with rfl | m
      · omega
      · exact h1 x m
    · rcases h3 with h3 | h3
      · rw [h3]
        rcases Nat.le_total z a with q | q
        · right; rw [Nat.max_eq_right q]; simp
        · left; rw [Nat.max_eq_left q]
      · right; simp [h3]
theorem foldl_min : ∀ (l : List Nat) (z : Nat), (∀ x ∈ l, l.foldl min z ≤ x) ∧ l.foldl min z ≤ z ∧ (l.foldl min z = z ∨ l.foldl min z ∈ l)
  | [], z => ⟨by simp, Nat.le_refl _, .inl rfl⟩
  | a :: l, z => by
    obtain ⟨h1, h2, h3⟩ := foldl_min l (min z a)
    rw [List.foldl_cons]
    refine ⟨fun x hx => ?_, by omega, ?_⟩
    · rcases List.mem_cons.mp hx with rfl | m
      · omega
      · exact h1 x m
    · rcases h3 with h3 | h3
      · rw [h3]
        rcases Nat.le_total z a with q | q
        · left; rw [Nat.min_eq_left q]
        · right; rw [Nat.min_eq_right q]; simp
      · right; simp [h3]
theorem max_is {l l' : List Nat} {z : Nat} {m : Int} (hp : ∀ x, x ∈ l' ↔ x ∈ l) (h : (m ∈ (l'.map fun n : Nat => (n : Int)) ∧ ∀ b, b ∈ (l'.map fun n : Nat => (n : Int)) → b ≤ m) ∨ l' = [] ∧ m = (z : Int)) (hz : z = 0) : m = ((l.foldl max 0 : Nat) : Int) := by
  obtain ⟨h1, h2, h3⟩ := foldl_max l 0
  rcases h with ⟨hm, hb⟩ | ⟨he, hm⟩
  · obtain ⟨x, hx, rfl⟩ := List.mem_map.mp hm
    have a1 := h1 x ((hp x).mp hx)
    rcases h3 with h3 | h3
    · omega
    · have := hb _ (List.mem_map.mpr ⟨_, (hp _).mpr h3, rfl⟩)
      omega
  · subst he
    have : l = [] := List.eq_nil_iff_forall_not_mem.mpr fun x hx => by simpa using (hp x).mpr hx
    subst this
    subst hz
    exact hm
theorem min_is {l l' : List Nat} {m : Int} (hp : ∀ x, x ∈ l' ↔ x ∈ l) (hl : low l) (hm : m ∈ (l'.map fun n : Nat => (n : Int))) (hb : ∀ b, b ∈ (l'.map fun n : Nat => (n : Int)) → m ≤ b) : m = ((l.foldl min 1000 : Nat) : Int) := by
  obtain ⟨h1, h2, h3⟩ := foldl_min l 1000
  obtain ⟨x, hx, rfl⟩ := List.mem_map.mp hm
  have a1 := h1 x ((hp x).mp hx)
  have a2 := hl x ((hp x).mp hx)
  rcases h3 with h3 | h3
  · have a3 : x = 1000 ∨ x < 1000 := by omega
    omega
  · have := hb _ (List.mem_map.mpr ⟨_, (hp _).mpr h3, rfl⟩)
    omega
end Sw
namespace Sw
open PySem PySem.Spec PyProof.Rows L2
theorem TabAt.off {H H' : Hp} {S : List Addr} {t : Addr} {rows : List Kqb6.Row} (h : TabAt H t rows) (s : SameOff S H H') (n : t ∉ S) (nt : ∀ b ∈ S, ∀ ys, H b ≠ some (.tup ys)) : TabAt H' t rows := by
  obtain ⟨ps, h1, h2⟩ := h
  exact ⟨ps, s _ _ h1 n, Paired.imp' (fun p r e => s _ _ e fun m => nt p m _ e) h2⟩
theorem TlAt.notup {C : Addr} {H : Hp} {x : Tl} {l dn : List Nat} {c h : Nat} (t : TlAt C H x l dn c h) : ∀ b ∈ x.fp, ∀ ys, H b ≠ some (.tup ys) := by
  obtain ⟨⟨dx, t1⟩, t2, t3, t4⟩ := t
  intro b m ys
  simp only [Tl.fp, List.mem_cons, List.not_mem_nil, or_false] at m
  rcases m with rfl | rfl | rfl
  · rw [t1]; intro z; cases z
  · rw [t2]; intro z; cases z
  · rw [t3]; intro z; cases z
theorem lkR {C dx r d : Addr} {c h : Nat} : List.lookup ("row" : Str) [("came", V.int (c : Int)), ("row", V.ref r), ("sizes_done", V.ref d), ("harm_kept", V.int (h : Int))] = some (V.ref r) := (lk_miss _ _ (by decide +kernel)).trans (lk_hit _ _ _)
theorem lkD {C dx r d : Addr} {c h : Nat} : List.lookup ("sizes_done" : Str) [("came", V.int (c : Int)), ("row", V.ref r), ("sizes_done", V.ref d), ("harm_kept", V.int (h : Int))] = some (V.ref d) := (lk_miss _ _ (by decide +kernel)).trans ((lk_miss _ _ (by decide +kernel)).trans (lk_hit _ _ _))
theorem lkH {C dx r d : Addr} {c h : Nat} : List.lookup ("harm_kept" : Str) [("came", V.int (c : Int)), ("row", V.ref r), ("sizes_done", V.ref d), ("harm_kept", V.int (h : Int))] = some (V.int (h : Int)) := (lk_miss _ _ (by decide +kernel)).trans ((lk_miss _ _ (by decide +kernel)).trans ((lk_miss _ _ (by decide +kernel)).trans (lk_hit _ _ _)))
theorem putH (r d : Addr) (c h : Nat) (v : V) : putF "harm_kept" v [("came", V.int (c : Int)), ("row", V.ref r), ("sizes_done", V.ref d), ("harm_kept", V.int (h : Int))] = ([("came", V.int (c : Int)), ("row", V.ref r), ("sizes_done", V.ref d), ("harm_kept", v)] : List (Str × V)) := by
  rw [putF_miss _ _ _ (by decide +kernel), putF_miss _ _ _ (by decide +kernel), putF_miss _ _ _ (by decide +kernel), putF_hit]
theorem putR (r d : Addr) (c h : Nat) (v : V) : putF "row" v [("came", V.int (c : Int)), ("row", V.ref r), ("sizes_done", V.ref d), ("harm_kept", V.int (h : Int))] = ([("came", V.int (c : Int)), ("row", v), ("sizes_done", V.ref d), ("harm_kept", V.int (h : Int))] : List (Str × V)) := by
  rw [putF_miss _ _ _ (by decide +kernel), putF_hit]
/-! ### promises -/
def spTake (C : Addr) : Sp := fun vs H Q _ => ∃ (x : Tl) (t rd : Addr) (l dn rs : List Nat) (c h : Nat) (rows : List Kqb6.Row), vs = [.ref x.p, .ref t, .ref rd] ∧ TlAt C H x l dn c h ∧ TabAt H t rows ∧ t ∉ x.fp ∧ H rd = some (.lst (nums rs)) ∧ rd ∉ x.fp ∧
  l.length + dn.length + rs.length + 2 < sizeLine ∧
  ∀ H' : Hp, SameOff x.fp H H' → TlAt C H' x (Kqb6.reads l rs).1 (dn ++ (Kqb6.reads l rs).2) (c + rs.length) (h + 2 * Kqb6.sum ((Kqb6.reads l rs).2.map (Kqb6.harm rows))) → Q (.int ((Kqb6.reads l rs).2.length : Nat)) H'
def spDmgOf (C : Addr) : Sp := fun vs H Q _ => ∃ (x : Tl) (t : Addr) (l dn : List Nat) (c h : Nat) (rows : List Kqb6.Row), vs = [.ref x.p, .ref t] ∧ TlAt C H x l dn c h ∧ TabAt H t rows ∧ l.length < sizeLine ∧
  ∀ H' : Hp, Same H H' → Q (.int (h + Kqb6.sum ((dif l.reverse).map (Kqb6.harm rows)) : Nat)) H'
def spBtwn : Sp := fun vs H Q _ => ∃ (a : Addr) (l : List Nat) (lo hi : Nat), vs = [.ref a, .int (lo : Int), .int (hi : Int)] ∧ H a = some (.lst (nums l)) ∧ l.length < sizeLine ∧
  ∀ H' : Hp, Same H H' → Q (.int ((l.filter fun d => decide (lo ≤ d) && decide (d ≤ hi)).length : Nat)) H'
section
variable {P : Program} {w : World} {K : PySem.W.Frag} {mg : Str → Option Value} {base : Heap}
/-! ### take_in -/
theorem scTake : FnScope ["tally", "table", "readings", "before", "reading", "gone"] ["tally", "table", "readings"] (defScope sTake) := ⟨rfl, rfl, rfl, by decide +kernel, rfl, by decide +kernel, by decide +kernel⟩
theorem ok_take {f C : Addr} {fd : FuncData} (F : Fun K "take_in" "take_in" sTake f fd) (T : TTxt K C) (X : Txt mg) (cC : Cal P w K mg base "come" 3 ["row", "reading"] spCome) (cA : Cal P w K mg base "harm_of_all" 2 ["table", "sizes"] spHarmAll) :
    FnOk P w K mg base CX0 4 f fd ["tally", "table", "readings"] (spTake C) := by
  refine F.ok scTake (fun vs H Q E h => ?_) (fun cdv A outer s H vs Q E hr h => ?_)
  · obtain ⟨x, t, rd, l, dn, rs, c, h, rows, rfl, _⟩ := h
    rfl
  · obtain ⟨x, t, rd, l, dn, rs, c, h, rows, rfl, tl, tab, ht, hrd, hrf, hb, k⟩ := h
    have hr2 : Room 2 _ := hr.mono (by decide)
    refine ⟨_, pss_cons (ps_set (i := 3) scTake.nd rfl (Or.inl rfl) (pe_callB call_len_seq rfl X.len PySem.boot_len (pa_cons (pe_fld (pv 0) rfl) pa_nil)))
      (pss_cons (ps_for PassesOwn.never rfl (pi_list (pv 2)) (pg_name (i := 4) scTake.nd rfl (Or.inl rfl))
        (pss_cons (ps_set (i := 5) scTake.nd rfl (Or.inl rfl) (pe_callC cC hr rfl (pa_cons (pe_fld (pv 0) rfl) (pa_cons (pv 4) pa_nil))))
        (pss_cons (ps_expr (pe_bm PySem.F.plainAttrs_list PySem.F.slot_list_extend PySem.F.type_list_extend mt_extend (pe_fld (pv 0) rfl) (pa_cons (pv 5) pa_nil)))
        (pss_one (ps_fldaug (pv 0) (pe_op op_mul pe_int (pe_callC cA hr2 rfl (pa_cons (pv 1) (pa_cons (pv 5) pa_nil)))) in_add)))))
      (pss_cons (ps_fldaug (pv 0) (pe_callB call_len_seq rfl X.len PySem.boot_len (pa_cons (pv 2) pa_nil)) in_add)
      (pss_one (ps_ret (pe_op op_sub (pe_callB call_len_seq rfl X.len PySem.boot_len (pa_cons (pe_fld (pv 0) rfl) pa_nil)) (pv 3)))))), ?_⟩
    obtain ⟨dx, i0⟩ := tl.ins
    refine ⟨_, rfl, x.p, C, dx, _, _, rfl, i0, T.cl, T.nD, lkD (C := C) (dx := dx), x.d, _, rfl, .inl (SqL.of tl.don), ?_⟩
    refine ⟨_, rfl, rd, rfl, ⟨_, SqL.of hrd⟩, for_list (K := K) (a := rd) (xs := nums rs) (fun i σ H' => ∃ v4 v5 : Option V, σ = [some (.ref x.p), some (.ref t), some (.ref rd), some (.int ((nums dn).length : Int)), v4, v5] ∧ SameOff x.fp H H' ∧
        TlAt C H' x (Kqb6.reads l (rs.take i)).1 (dn ++ (Kqb6.reads l (rs.take i)).2) c (h + 2 * Kqb6.sum ((Kqb6.reads l (rs.take i)).2.map (Kqb6.harm rows))))
      ⟨none, none, rfl, SameOff.refl _ _, by rw [List.take_zero, reads_nil, List.append_nil]; exact tl⟩ (fun i σ H' _ ⟨_, _, _, so, _⟩ => SqL.of (so _ _ hrd hrf)) ?_ ?_⟩
    · rintro i y σ H' hi ⟨v4, v5, rfl, so, tl'⟩
      obtain ⟨n, hn, rfl⟩ := nums_get' hi
      have hin : i < rs.length := (List.getElem?_eq_some_iff.mp hn).1
      have len1 := reads_len (rs.take i) l
      rw [List.length_take, Nat.min_eq_left (Nat.le_of_lt hin)] at len1
      generalize hA : Kqb6.reads l (rs.take i) = A1 at *
      have len2 := read_len A1.1 n
      have hsn : Kqb6.reads l (rs.take (i + 1)) = ((Kqb6.read A1.1 n).1, A1.2 ++ (Kqb6.read A1.1 n).2) := by rw [take_snoc hn, reads_snoc, hA]
      generalize hB : Kqb6.read A1.1 n = B1 at *
      obtain ⟨dx1, i1⟩ := tl'.ins
      refine ⟨_, rfl, x.p, C, dx1, _, _, rfl, i1, T.cl, T.nR, lkR (C := C) (dx := dx1), _, rfl, x.r, A1.1, n, rfl, tl'.row, by omega, fun H2 g hg so2 r2 g2 => ?_⟩
      rw [hB] at r2 g2
      have nd : x.d ≠ x.r := fun e => tl'.ne e.symm
      have i2 : H2 x.p = _ := so2 _ _ i1 (by simp; exact tl'.pr)
      have d2 : H2 x.d = _ := so2 _ _ tl'.don (by simp; exact nd)
      have gd : g ≠ x.d := fun e => by rw [e, tl'.don] at hg; cases hg
      have gp : g ≠ x.p := fun e => by rw [e, i1] at hg; cases hg
      refine ⟨_, rfl, x.p, C, dx1, _, _, rfl, i2, T.cl, T.nD, lkD (C := C) (dx := dx1), .inl ⟨rfl, _, SqL.of d2⟩, _, rfl, x.d, g, _, _, rfl, rfl, d2, g2, ?_, ?_⟩
      · rw [nums_len, nums_len, List.length_append]; omega
      rw [← nums_app]
      have so3 : SameOff x.fp H (upd H2 x.d (.lst (nums ((dn ++ A1.2) ++ B1.2)))) := ((so.off so2 (by intro b m; left; rw [List.mem_singleton.mp m]; simp [Tl.fp])).upd (.inl (by simp [Tl.fp])))
      have i3 : upd H2 x.d (.lst (nums ((dn ++ A1.2) ++ B1.2))) x.p = some (tallyO C dx1 c x.r x.d (h + 2 * Kqb6.sum (A1.2.map (Kqb6.harm rows)))) := by rw [upd_ne tl'.pd]; exact i2
      have g3 : upd H2 x.d (.lst (nums ((dn ++ A1.2) ++ B1.2))) g = some (.lst (nums B1.2)) := by rw [upd_ne gd]; exact g2
      have r3 : upd H2 x.d (.lst (nums ((dn ++ A1.2) ++ B1.2))) x.r = some (.lst (nums B1.1.reverse)) := by rw [upd_ne tl'.ne]; exact r2
      have d3 : upd H2 x.d (.lst (nums ((dn ++ A1.2) ++ B1.2))) x.d = some (.lst (nums ((dn ++ A1.2) ++ B1.2))) := upd_same
      generalize upd H2 x.d (.lst (nums ((dn ++ A1.2) ++ B1.2))) = H3 at *
      have tab3 : TabAt H3 t rows := tab.off so3 ht tl.notup
      refine ⟨_, rfl, x.p, C, dx1, _, _, rfl, i3, T.cl, T.nH, lkH (C := C) (dx := dx1), _, rfl, _, rfl, t, g, rows, B1.2, rfl, tab3, g3, by omega, fun H4 s4 => ?_⟩
      refine ⟨_, _, rfl, rfl, .inl ⟨by decide, by decide⟩, _, _, rfl, rfl, dx1, _, s4 _ _ i3, (by show 4 < 1000; decide), ?_⟩
      rw [putH]
      refine ⟨_, _, rfl, (so3.off (SameOff.of (S := []) s4) (by simp)).upd (.inl (by simp [Tl.fp])), ?_⟩
      rw [hsn]
      refine ⟨⟨dx1, ?_⟩, ?_, ?_, tl'.ne⟩
      · rw [upd_same]
        unfold tallyO
        rw [List.map_append, sum_append]
        have e : ((h + 2 * Kqb6.sum (A1.2.map (Kqb6.harm rows)) : Nat) : Int) + 2 * ((Kqb6.sum (B1.2.map (Kqb6.harm rows)) : Nat) : Int) = ((h + 2 * (Kqb6.sum (A1.2.map (Kqb6.harm rows)) + Kqb6.sum (B1.2.map (Kqb6.harm rows))) : Nat) : Int) := by omega
        rw [e]
      · rw [upd_ne (fun e => tl'.pr e.symm)]; exact s4 _ _ r3
      · rw [upd_ne (fun e => tl'.pd e.symm), ← List.append_assoc]; exact s4 _ _ d3
    · rintro σ H' ⟨v4, v5, rfl, so, tl'⟩
      rw [nums_len, List.take_length] at tl'
      obtain ⟨dx1, i1⟩ := tl'.ins
      refine ⟨_, rfl, x.p, C, dx1, _, _, rfl, i1, T.cl, T.nC, lk_hit _ _ _, _, rfl, rd, _, rfl, .inl (SqL.of (so _ _ hrd hrf)), _, _, rfl, rfl, dx1, _, i1, (by show 4 < 1000; decide), ?_⟩
      rw [putF_hit, nums_len rs]
      have i2 : upd H' x.p (.ins C dx1 [("came", .int ((c : Int) + (rs.length : Int))), ("row", .ref x.r), ("sizes_done", .ref x.d), ("harm_kept", .int ((h + 2 * Kqb6.sum ((Kqb6.reads l rs).2.map (Kqb6.harm rows)) : Nat) : Int))]) x.p =
        some (tallyO C dx1 (c + rs.length) x.r x.d (h + 2 * Kqb6.sum ((Kqb6.reads l rs).2.map (Kqb6.harm rows)))) := by rw [upd_same]; rfl
      have d2 : upd H' x.p (.ins C dx1 [("came", .int ((c : Int) + (rs.length : Int))), ("row", .ref x.r), ("sizes_done", .ref x.d), ("harm_kept", .int ((h + 2 * Kqb6.sum ((Kqb6.reads l rs).2.map (Kqb6.harm rows)) : Nat) : Int))]) x.d = some (.lst (nums (dn ++ (Kqb6.reads l rs).2))) := by
        rw [upd_ne (fun e => tl'.pd e.symm)]; exact tl'.don
      refine ⟨_, rfl, x.p, C, dx1, _, _, rfl, i2, T.cl, T.nD, lkD (C := C) (dx := dx1), x.d, _, rfl, .inl (SqL.of d2), _, rfl, _, _, rfl, rfl, ?_⟩
      have e : ((nums (dn ++ (Kqb6.reads l rs).2)).length : Int) - ((nums dn).length : Int) = (((Kqb6.reads l rs).2.length : Nat) : Int) := by rw [nums_len, nums_len, List.length_append]; omega
      show Q (V.int (((nums (dn ++ (Kqb6.reads l rs).2)).length : Int) - ((nums dn).length : Int))) _
      rw [e]
      refine k _ (so.upd (.inl (by simp [Tl.fp]))) ⟨⟨dx1, i2⟩, ?_, d2, tl'.ne⟩
      rw [upd_ne (fun e => tl'.pr e.symm)]; exact tl'.row
/-! ### damage_of -/
theorem scDmgOf : FnScope ["tally", "table"] ["tally", "table"] (defScope sDmgOf) := ⟨rfl, rfl, rfl, by decide +kernel, rfl, by decide +kernel, by decide +kernel⟩
theorem ok_dmgOf {f C : Addr} {fd : FuncData} (F : Fun K "damage_of" "damage_of" sDmgOf f fd) (T : TTxt K C) (cH : Cal P w K mg base "half_swings" 1 ["row"] spHalf) (cA : Cal P w K mg base "harm_of_all" 2 ["table", "sizes"] spHarmAll) :
    FnOk P w K mg base CX0 3 f fd ["tally", "table"] (spDmgOf C) := by
  refine F.ok scDmgOf (fun vs H Q E h => ?_) (fun cdv A outer s H vs Q E hr h => ?_)
  · obtain ⟨x, t, l, dn, c, h, rows, rfl, _⟩ := h
    rfl
  · obtain ⟨x, t, l, dn, c, h, rows, rfl, tl, tab, hl, k⟩ := h
    refine ⟨_, pss_one (ps_ret (pe_op op_add (pe_fld (pv 0) rfl) (pe_callC cA hr rfl (pa_cons (pv 1) (pa_cons (pe_callC cH (hr.mono (by decide)) rfl (pa_cons (pe_fld (pv 0) rfl) pa_nil)) pa_nil))))), ?_⟩
    obtain ⟨dx, i0⟩ := tl.ins
    refine ⟨_, rfl, x.p, C, dx, _, _, rfl, i0, T.cl, T.nH, lkH (C := C) (dx := dx), _, rfl, _, rfl, x.p, C, dx, _, _, rfl, i0, T.cl, T.nR, lkR (C := C) (dx := dx), x.r, l, rfl, tl.row, hl, fun H1 g hg s1 hg1 => ?_⟩
    refine ⟨t, g, rows, _, rfl, tab.same s1, hg1, by rw [dif_len, List.length_reverse]; omega, fun H2 s2 => ⟨_, _, rfl, rfl, ?_⟩⟩
    exact k H2 (s1.trans s2)
/-! ### number_between -/
theorem scBtwn : FnScope ["sizes", "least", "top", "size"] ["sizes", "least", "top"] (defScope sBtwn) := ⟨rfl, rfl, rfl, by decide +kernel, rfl, by decide +kernel, by decide +kernel⟩
theorem ok_btwn {f : Addr} {fd : FuncData} (F : Fun K "number_between" "number_between" sBtwn f fd) (X : Txt mg) : FnOk P w K mg base CX0 1 f fd ["sizes", "least", "top"] spBtwn := by
  refine F.ok scBtwn (fun vs H Q E h => ?_) (fun cdv A outer s H vs Q E hr h => ?_)
  · obtain ⟨a, l, lo, hi, rfl, _⟩ := h
    rfl
  · obtain ⟨a, l, lo, hi, rfl, ha, hl, k⟩ := h
    refine ⟨_, pss_one (ps_ret (pe_callB call_len_seq rfl X.len PySem.boot_len (pa_cons (pe_lc rfl scBtwn.nd (pi_list (pv 0)) (blkOk_by (own := [("size", 3)]) (show blkC ["sizes", "least", "top", "size"] (defScope sBtwn) _ [("size", 3)] = true by decide +kernel))
      (fun _ _ _ _ _ => pg_name (i := 3) scBtwn.nd rfl (Or.inl rfl)) (fun _ _ _ _ _ => pts_one (pt_chain op_le op_le (pv 1) (pv 3) (pv 2))) (fun _ _ _ _ _ => pv 3)) pa_nil))), ?_⟩
    refine ⟨_, rfl, a, rfl, ⟨_, SqL.of ha⟩, fun D hD => ?_⟩
    refine lc_list (K := K) (a := a) (xs := nums l) (fun i H' => Same H H' ∧ H' D = some (.lst (nums ((l.take i).filter fun d => decide (lo ≤ d) && decide (d ≤ hi))))) ⟨same_new hD, upd_same⟩ (fun i H' _ ⟨sm, _⟩ => SqL.of (sm _ _ ha)) (fun i y H' hi' ⟨sm, hD'⟩ => ?_) (fun H' ⟨sm, hD'⟩ => ?_)
    · obtain ⟨n, hn, rfl⟩ := nums_get' hi'
      refine ⟨rfl, ?_⟩
      have hfl : ((l.take i).filter fun d => decide (lo ≤ d) && decide (d ≤ hi)).length < sizeLine := by
        have h1 := List.length_filter_le (fun d => decide (lo ≤ d) && decide (d ≤ hi)) (l.take i)
        rw [List.length_take] at h1
        omega
      have e1 : decide ((lo : Int) ≤ (n : Int)) = decide (lo ≤ n) := by rw [Bool.eq_iff_iff, decide_eq_true_eq, decide_eq_true_eq]; omega
      have e2 : decide ((n : Int) ≤ (hi : Int)) = decide (n ≤ hi) := by rw [Bool.eq_iff_iff, decide_eq_true_eq, decide_eq_true_eq]; omega
      rw [take_snoc hn, List.filter_append, List.filter_cons, List.filter_nil]
      refine ⟨_, rfl, _, rfl, _, _, rfl, rfl, _, rfl, ?_⟩
      rw [e1]
      cases h1 : decide (lo ≤ n) with
      | false =>
        refine iteF ⟨_, rfl, iteF ⟨sm, ?_⟩⟩
        rw [Bool.false_and, if_neg Bool.false_ne_true, List.append_nil]
        exact hD'
      | true =>
        refine iteT ⟨_, rfl, _, _, rfl, rfl, _, rfl, ?_⟩
        rw [e2]
        cases h2 : decide (n ≤ hi) with
        | false =>
          refine iteF ⟨sm, ?_⟩
          rw [Bool.true_and, if_neg Bool.false_ne_true, List.append_nil]
          exact hD'
        | true =>
          refine iteT ⟨_, rfl, _, hD', by rw [nums_len]; exact hfl, same_upd sm hD, ?_⟩
          rw [Bool.true_and, if_pos rfl, upd_same, nums_app, nums_one]
    · rw [nums_len, List.take_length] at hD'
      refine ⟨D, _, rfl, .inl (SqL.of hD'), ?_⟩
      rw [nums_len]
      exact k H' sm
end
end Sw
namespace Sw
open PySem PySem.Spec PyProof.Rows L2
/-! ### names of the text's top -/
structure GTxt (mg : Str → Option Value) : Prop where
  start : IsG mg "START" (.int 0)
  not : IsG mg "NOT_STARTED" (.int (-11))
  wrong : IsG mg "WRONG" (.int (-22))
  full : IsG mg "FULL" (.int (-28))
  there : IsG mg "NOTHING_THERE" (.int (-6))
  tell : IsG mg "NOTHING_TO_TELL" (.int (-33))
  limit : IsG mg "TOP_LIMIT" (.int 10000000)
  reading : IsG mg "TOP_READING" (.int 1000)
  done : IsG mg "MOST_DONE" (.int 3000)
  times : IsG mg "MOST_TIMES" (.int 20)
  steps : IsG mg "MOST_STEPS" (.int 20)
/-! ### a pack -/
def packO (C dq : Addr) (st : Bool) (lim : Nat) (t p aS : Addr) : HO := .ins C dq [("started", .bl st), ("limit", .int (lim : Int)), ("table", .ref t), ("tally", .ref p), ("steps", .ref aS)]
structure PTxt (K : PySem.W.Frag) (C : Addr) : Prop where
  cl : Cls K C
  nS : NoAttr K C "started"
  nL : NoAttr K C "limit"
  nT : NoAttr K C "table"
  nY : NoAttr K C "tally"
  nP : NoAttr K C "steps"
theorem pkL {C dq t p aS : Addr} {st : Bool} {lim : Nat} : List.lookup ("limit" : Str) [("started", V.bl st), ("limit", V.int (lim : Int)), ("table", V.ref t), ("tally", V.ref p), ("steps", V.ref aS)] = some (V.int (lim : Int)) := (lk_miss _ _ (by decide +kernel)).trans (lk_hit _ _ _)
theorem pkT {C dq t p aS : Addr} {st : Bool} {lim : Nat} : List.lookup ("table" : Str) [("started", V.bl st), ("limit", V.int (lim : Int)), ("table", V.ref t), ("tally", V.ref p), ("steps", V.ref aS)] = some (V.ref t) := (lk_miss _ _ (by decide +kernel)).trans ((lk_miss _ _ (by decide +kernel)).trans (lk_hit _ _ _))
theorem pkY {C dq t p aS : Addr} {st : Bool} {lim : Nat} : List.lookup ("tally" : Str) [("started", V.bl st), ("limit", V.int (lim : Int)), ("table", V.ref t), ("tally", V.ref p), ("steps", V.ref aS)] = some (V.ref p) := (lk_miss _ _ (by decide +kernel)).trans ((lk_miss _ _ (by decide +kernel)).trans ((lk_miss _ _ (by decide +kernel)).trans (lk_hit _ _ _)))
theorem pkP {C dq t p aS : Addr} {st : Bool} {lim : Nat} : List.lookup ("steps" : Str) [("started", V.bl st), ("limit", V.int (lim : Int)), ("table", V.ref t), ("tally", V.ref p), ("steps", V.ref aS)] = some (V.ref aS) := (lk_miss _ _ (by decide +kernel)).trans ((lk_miss _ _ (by decide +kernel)).trans ((lk_miss _ _ (by decide +kernel)).trans ((lk_miss _ _ (by decide +kernel)).trans (lk_hit _ _ _))))
theorem putY (st : Bool) (lim : Nat) (t p aS : Addr) (v : V) : putF "tally" v [("started", V.bl st), ("limit", V.int (lim : Int)), ("table", V.ref t), ("tally", V.ref p), ("steps", V.ref aS)] = ([("started", V.bl st), ("limit", V.int (lim : Int)), ("table", V.ref t), ("tally", v), ("steps", V.ref aS)] : List (Str × V)) := by
  rw [putF_miss _ _ _ (by decide +kernel), putF_miss _ _ _ (by decide +kernel), putF_miss _ _ _ (by decide +kernel), putF_hit]
theorem putP (st : Bool) (lim : Nat) (t p aS : Addr) (v : V) : putF "steps" v [("started", V.bl st), ("limit", V.int (lim : Int)), ("table", V.ref t), ("tally", V.ref p), ("steps", V.ref aS)] = ([("started", V.bl st), ("limit", V.int (lim : Int)), ("table", V.ref t), ("tally", V.ref p), ("steps", v)] : List (Str × V)) := by
  rw [putF_miss _ _ _ (by decide +kernel), putF_miss _ _ _ (by decide +kernel), putF_miss _ _ _ (by decide +kernel), putF_miss _ _ _ (by decide +kernel), putF_hit]
/-- where a pack and what it holds stand; his: the newest first -/
structure Adr where
  q : Addr
  dq : Addr
  t : Addr
  aS : Addr
  cur : Tl
  his : List Tl
def Adr.fp (A : Adr) : List Addr := A.q :: A.aS :: A.t :: (A.cur :: A.his).flatMap Tl.fp
abbrev En := List Nat × List Nat × Nat × Nat
def EnAt (C : Addr) (rows : List Kqb6.Row) (H : Hp) (x : Tl) (e : En) : Prop := TlAt C H x e.1 e.2.1 e.2.2.1 (e.2.2.2 + 2 * Kqb6.sum (e.2.1.map (Kqb6.harm rows)))
structure GoodE (N : Nat) (e : En) : Prop where
  len : e.1.length + 2 * e.2.1.length ≤ N
  lo : low e.1
  z : e.2.2.1 = 0 ↔ e.1 = []
theorem GoodE.mono {N M : Nat} {e : En} (g : GoodE N e) (h : N ≤ M) : GoodE M e := ⟨Nat.le_trans g.len h, g.lo, g.z⟩
structure Sep (A : Adr) : Prop where
  st : A.aS ≠ A.t
  qs : A.q ≠ A.aS
  qt : A.q ≠ A.t
  own : ∀ x ∈ A.cur :: A.his, ∀ b ∈ x.fp, b ≠ A.q ∧ b ≠ A.aS ∧ b ≠ A.t
  pw : (A.cur :: A.his).Pairwise fun x y => ∀ b ∈ x.fp, b ∉ y.fp
def curE (y : Kqb6.State) : En := (y.left, y.done, y.readings, y.closed)
structure PkAt (CP C : Addr) (H : Hp) (N : Nat) (A : Adr) (y : Kqb6.State) : Prop where
  ins : H A.q = some (packO CP A.dq true y.limit A.t A.cur.p A.aS)
  tab : TabAt H A.t y.table
  stp : H A.aS = some (.lst (A.his.reverse.map fun x => V.ref x.p))
  cur : EnAt C y.table H A.cur (curE y)
  his : Paired (EnAt C y.table H) A.his y.history
  sep : Sep A
  hl : y.history.length ≤ 20
  g : GoodE N (curE y)
  gh : ∀ e ∈ y.history, GoodE N e
theorem Paired.mem {α β : Type} {F : α → β → Prop} {xs : List α} {ys : List β} (h : Paired F xs ys) {x : α} (m : x ∈ xs) : ∃ y, y ∈ ys ∧ F x y := by
  induction h with
  | nil => cases m
  | cons r t ih =>
    rcases List.mem_cons.mp m with rfl | m
    · exact ⟨_, by simp, r⟩
    · obtain ⟨y, h1, h2⟩ := ih m
      exact ⟨y, by simp [h1], h2⟩
theorem Paired.impM {α β : Type} {F G : α → β → Prop} {xs : List α} {ys : List β} (h : Paired F xs ys) (k : ∀ a ∈ xs, ∀ b, F a b → G a b) : Paired G xs ys := by
  induction h with
  | nil => exact .nil
  | cons r t ih => exact .cons (k _ (by simp) _ r) (ih fun a m b e => k a (by simp [m]) b e)
section
variable {CP C : Addr} {H H' : Hp} {N M : Nat} {A : Adr} {y : Kqb6.State}
theorem PkAt.has (p : PkAt CP C H N A y) : ∀ b ∈ A.fp, ∃ o, H b = Option.some o := by
  intro b m
  simp only [Adr.fp, List.mem_cons, List.mem_flatMap] at m
  rcases m with rfl | rfl | rfl | ⟨x, mx, mb⟩
  · exact ⟨_, p.ins⟩
  · exact ⟨_, p.stp⟩
  · obtain ⟨ps, h1, _⟩ := p.tab
    exact ⟨_, h1⟩
  · rcases mx with rfl | mx
    · exact TlAt.has p.cur b mb
    · obtain ⟨e, _, he⟩ := Paired.mem p.his mx
      exact TlAt.has he b mb
theorem PkAt.same (p : PkAt CP C H N A y) (s : Same H H') : PkAt CP C H' N A y :=
  ⟨s _ _ p.ins, p.tab.same s, s _ _ p.stp, TlAt.same p.cur s, Paired.imp' (fun _ _ e => TlAt.same e s) p.his, p.sep, p.hl, p.g, p.gh⟩
theorem PkAt.mono (p : PkAt CP C H N A y) (h : N ≤ M) : PkAt CP C H M A y :=
  ⟨p.ins, p.tab, p.stp, p.cur, p.his, p.sep, p.hl, p.g.mono h, fun e m => (p.gh e m).mono h⟩
theorem PkAt.tabOff {S : List Addr} (p : PkAt CP C H N A y) (s : SameOff S H H') (n : A.t ∉ S) (h : ∀ b ∈ S, b ∈ A.fp) : TabAt H' A.t y.table := by
  refine p.tab.off s n fun b m ys e => ?_
  have m := h b m
  simp only [Adr.fp, List.mem_cons, List.mem_flatMap] at m
  rcases m with rfl | rfl | rfl | ⟨x, mx, mb⟩
  · rw [p.ins] at e; cases e
  · rw [p.stp] at e; cases e
  · obtain ⟨ps, h1, _⟩ := p.tab
    rw [h1] at e; cases e
  · rcases mx with rfl | mx
    · exact TlAt.notup p.cur b mb ys e
    · obtain ⟨e', _, he⟩ := Paired.mem p.his mx
      exact TlAt.notup he b mb ys e
theorem PkAt.cur_fp (A : Adr) : ∀ b ∈ A.cur.fp, b ∈ A.fp := fun b m => by simp [Adr.fp, m]
theorem PkAt.his_fp (A : Adr) {x : Tl} (mx : x ∈ A.his) : ∀ b ∈ x.fp, b ∈ A.fp := fun b m => by
  simp only [Adr.fp, List.mem_cons, List.mem_flatMap]
  exact .inr (.inr (.inr ⟨x, .inr mx, m⟩))
theorem Sep.cur (s : Sep A) : A.q ∉ A.cur.fp ∧ A.aS ∉ A.cur.fp ∧ A.t ∉ A.cur.fp :=
  ⟨fun m => (s.own A.cur (by simp) _ m).1 rfl, fun m => (s.own A.cur (by simp) _ m).2.1 rfl, fun m => (s.own A.cur (by simp) _ m).2.2 rfl⟩
end
/-! ### promises -/
def spPInit (CP C : Addr) : Sp := fun vs H Q _ => ∃ (p dx : Addr), vs = [.ref p] ∧ H p = some (.ins CP dx []) ∧
  ∀ (H' : Hp) (t y aS : Addr), SameOff [p] H H' → H' p = some (packO CP dx false 0 t y aS) → Q .non H'
def spDmgNow (CP C : Addr) : Sp := fun vs H Q _ => ∃ (A : Adr) (y : Kqb6.State) (N : Nat), vs = [.ref A.q] ∧ PkAt CP C H N A y ∧ N ≤ 1000000 ∧ ∀ H' : Hp, Same H H' → Q (.int (Kqb6.hurt y : Nat)) H'
def spForget (CP C : Addr) : Sp := fun vs H Q _ => ∃ (q dq t p aS : Addr) (st : Bool) (lim : Nat), vs = [.ref q] ∧ H q = some (packO CP dq st lim t p aS) ∧
  ∀ (H' : Hp) (x : Tl) (aS' : Addr), (∀ b ∈ x.fp, H b = none) → H aS' = none → aS' ∉ x.fp → SameOff [q] H H' → H' q = some (packO CP dq st lim t x.p aS') → TlAt C H' x [] [] 0 0 → H' aS' = some (.lst []) → Q .non H'
def spKeep (CP C : Addr) : Sp := fun vs H Q _ => ∃ (A : Adr) (y : Kqb6.State) (N : Nat), vs = [.ref A.q] ∧ PkAt CP C H N A y ∧
  ∀ (H' : Hp) (his : List Tl), PkAt CP C H' N { A with his := his } { y with history := (curE y :: y.history).take 20 } → SameOff [A.aS] H H' → (∀ x ∈ his, ∀ b ∈ x.fp, b ∈ A.fp ∨ H b = none) → Q .non H'
def spAsStep (CP C : Addr) : Sp := fun vs H Q _ => ∃ (A : Adr) (y : Kqb6.State) (N : Nat) (rd : Addr) (rs : List Nat), vs = [.ref A.q, .ref rd] ∧ PkAt CP C H N A y ∧ N ≤ 600000 ∧ H rd = some (.lst (nums rs)) ∧ rd ∉ A.fp ∧ rs ≠ [] ∧ rs.length ≤ 3000 ∧ low rs ∧
  ∀ (H' : Hp) (A' : Adr), A'.q = A.q → PkAt CP C H' (N + 3000) A' (Kqb6.take_ y (Kqb6.reads y.left rs) rs.length) → SameOff A.fp H H' → (∀ b ∈ A'.fp, b ∈ A.fp ∨ H b = none) → Q (.int ((Kqb6.reads y.left rs).2.length : Nat)) H'
def spRoom (CP C : Addr) : Sp := fun vs H Q _ => ∃ (A : Adr) (y : Kqb6.State) (N n : Nat), vs = [.ref A.q, .int (n : Int)] ∧ PkAt CP C H N A y ∧ Q (.bl (decide (y.done.length + n ≤ 3000))) H
section
variable {P : Program} {w : World} {K : PySem.W.Frag} {mg : Str → Option Value} {base : Heap}
/-! ### Pack.__init__ -/
theorem scPInit : FnScope ["self"] ["self"] (defScope sPInit) := ⟨rfl, rfl, rfl, by decide +kernel, rfl, by decide +kernel, by decide +kernel⟩
theorem ok_pinit {f CP C : Addr} {fd : FuncData} (F : Fun K "__init__" "Pack.__init__" sPInit f fd) (T : PTxt K CP) (mT : MkCal P w K mg base "Tally" C 1 ["self"] (spTInit C)) : FnOk P w K mg base CX0 3 f fd ["self"] (spPInit CP C) := by
  refine F.ok scPInit (fun vs H Q E h => ?_) (fun cdv A outer s H vs Q E hr h => ?_)
  · obtain ⟨p, dx, rfl, _⟩ := h
    rfl
  · obtain ⟨p, dx, rfl, hp, k⟩ := h
    refine ⟨_, pss_cons (ps_fld (pv 0) pe_bl rfl) (pss_cons (ps_fld (pv 0) pe_int rfl) (pss_cons (ps_fld (pv 0) (pe_lst pa_nil) rfl) (pss_cons (ps_fld (pv 0) (pe_makeC0 mT hr rfl) rfl) (pss_one (ps_fld (pv 0) (pe_lst pa_nil) rfl))))), ?_⟩
    have mp : p ∈ [p] ∨ H p = none := .inl (by simp)
    refine ⟨_, rfl, p, CP, dx, [], rfl, hp, T.cl, T.nS, (by show 0 < 1000; decide), ?_⟩
    rw [putF_nil]
    refine ⟨_, rfl, p, CP, dx, _, rfl, upd_same, T.cl, T.nL, (by show 1 < 1000; decide), ?_⟩
    rw [upd_upd, putF_miss _ _ _ (by decide +kernel), putF_nil]
    refine ⟨Nat.zero_le _, fun t ht => ?_⟩
    have pt : p ≠ t := ne_of_none upd_same ht
    have ht0 : H t = none := by rw [upd_ne (fun e => pt e.symm)] at ht; exact ht
    refine ⟨_, rfl, p, CP, dx, _, rfl, by rw [upd_ne pt, upd_same], T.cl, T.nT, (by show 2 < 1000; decide), ?_⟩
    rw [putF_miss _ _ _ (by decide +kernel), putF_miss _ _ _ (by decide +kernel), putF_nil]
    intro y dy ny ndy ney
    refine ⟨y, dy, rfl, upd_same, fun H1 r0 d0 nr0 nd0 so t1 t2 => ⟨rfl, ?_⟩⟩
    have sm1 := Same.made ny ndy fun b o e n => so b o e (by simp; exact n)
    have hp1 := sm1 _ _ (show upd _ p _ p = _ from upd_same)
    refine ⟨_, rfl, p, CP, dx, _, rfl, hp1, T.cl, T.nY, (by show 3 < 1000; decide), ?_⟩
    rw [putF_miss _ _ _ (by decide +kernel), putF_miss _ _ _ (by decide +kernel), putF_miss _ _ _ (by decide +kernel), putF_nil]
    refine ⟨Nat.zero_le _, fun aS hS => ?_⟩
    have pS : p ≠ aS := ne_of_none upd_same hS
    refine ⟨_, rfl, p, CP, dx, _, rfl, by rw [upd_ne pS, upd_same], T.cl, T.nP, (by show 4 < 1000; decide), ?_⟩
    rw [putF_miss _ _ _ (by decide +kernel), putF_miss _ _ _ (by decide +kernel), putF_miss _ _ _ (by decide +kernel), putF_miss _ _ _ (by decide +kernel), putF_nil]
    have so1 : SameOff [p] H H1 := fun b o e n => sm1 b o (by rw [upd_ne (fun q => n (by simp [q])), upd_ne (ne_of_none e ht0), upd_ne (fun q => n (by simp [q]))]; exact e)
    have hS0 : H aS = none := so1.free (by simp; exact fun e => pS e.symm) (by rw [upd_ne (fun e => pS e.symm)] at hS; exact hS)
    exact k _ t y aS (by exact ((so1.upd mp).upd (.inr hS0)).upd mp) upd_same
/-! ### damage_now -/
theorem scDmgNow : FnScope ["pack"] ["pack"] (defScope sDmgNow) := ⟨rfl, rfl, rfl, by decide +kernel, rfl, by decide +kernel, by decide +kernel⟩
theorem hurt_eq (y : Kqb6.State) : Kqb6.hurt y = y.closed + 2 * Kqb6.sum (y.done.map (Kqb6.harm y.table)) + Kqb6.sum ((dif y.left.reverse).map (Kqb6.harm y.table)) := by
  unfold Kqb6.hurt
  rw [damage_eq]
  omega
theorem ok_dmgNow {f CP C : Addr} {fd : FuncData} (F : Fun K "damage_now" "damage_now" sDmgNow f fd) (T : PTxt K CP) (cD : Cal P w K mg base "damage_of" 3 ["tally", "table"] (spDmgOf C)) : FnOk P w K mg base CX0 4 f fd ["pack"] (spDmgNow CP C) := by
  refine F.ok scDmgNow (fun vs H Q E h => ?_) (fun cdv A outer s H vs Q E hr h => ?_)
  · obtain ⟨A, y, N, rfl, _⟩ := h
    rfl
  · obtain ⟨B, y, N, rfl, pk, hN, k⟩ := h
    refine ⟨_, pss_one (ps_ret (pe_callC cD hr rfl (pa_cons (pe_fld (pv 0) rfl) (pa_cons (pe_fld (pv 0) rfl) pa_nil)))), ?_⟩
    have hl := pk.g.len
    have hs : (1000000 : Nat) < sizeLine := by rw [sizeLine_eq]; decide
    refine ⟨_, rfl, B.q, CP, B.dq, _, _, rfl, pk.ins, T.cl, T.nY, pkY (C := C) (dq := C), _, rfl, B.q, CP, B.dq, _, _, rfl, pk.ins, T.cl, T.nT, pkT (C := C) (dq := C), B.cur, B.t, _, _, _, _, _, rfl, pk.cur, pk.tab, by omega, fun H' s' => ?_⟩
    have := k H' s'
    rw [hurt_eq] at this
    exact this
/-! ### forget -/
theorem scForget : FnScope ["pack"] ["pack"] (defScope sForget) := ⟨rfl, rfl, rfl, by decide +kernel, rfl, by decide +kernel, by decide +kernel⟩
theorem ok_forget {f CP C : Addr} {fd : FuncData} (F : Fun K "forget" "forget" sForget f fd) (T : PTxt K CP) (mT : MkCal P w K mg base "Tally" C 1 ["self"] (spTInit C)) : FnOk P w K mg base CX0 3 f fd ["pack"] (spForget CP C) := by
  refine F.ok scForget (fun vs H Q E h => ?_) (fun cdv A outer s H vs Q E hr h => ?_)
  · obtain ⟨q, dq, t, p, aS, st, lim, rfl, _⟩ := h
    rfl
  · obtain ⟨q, dq, t, p, aS, st, lim, rfl, hq, k⟩ := h
    refine ⟨_, pss_cons (ps_fld (pv 0) (pe_makeC0 mT hr rfl) rfl) (pss_one (ps_fld (pv 0) (pe_lst pa_nil) rfl)), ?_⟩
    intro y dy ny ndy ney
    refine ⟨y, dy, rfl, upd_same, fun H1 r0 d0 nr0 nd0 so t1 t2 => ⟨rfl, ?_⟩⟩
    have sm1 : Same H H1 := Same.made ny ndy fun b o e n => so b o e (by simp; exact n)
    refine ⟨_, rfl, q, CP, dq, _, rfl, sm1 _ _ hq, T.cl, T.nY, (by show 5 < 1000; decide), ?_⟩
    rw [putY]
    refine ⟨Nat.zero_le _, fun aS' hS => ?_⟩
    have qS : q ≠ aS' := ne_of_none upd_same hS
    have hS1 : H1 aS' = none := by rw [upd_ne (fun e => qS e.symm)] at hS; exact hS
    refine ⟨_, rfl, q, CP, dq, _, rfl, by rw [upd_ne qS, upd_same], T.cl, T.nP, (by show 5 < 1000; decide), ?_⟩
    rw [putP]
    have mq : q ∈ [q] ∨ H q = none := .inl (by simp)
    have hS0 : H aS' = none := sm1.free hS1
    have nr1 : H r0 = none := by
      by_cases e1 : r0 = y
      · rw [e1]; exact ny
      · by_cases e2 : r0 = dy
        · rw [e2]; exact ndy
        · rw [upd_ne e1, upd_ne e2] at nr0; exact nr0
    have nd1 : H d0 = none := by
      by_cases e1 : d0 = y
      · rw [e1]; exact ny
      · by_cases e2 : d0 = dy
        · rw [e2]; exact ndy
        · rw [upd_ne e1, upd_ne e2] at nd0; exact nd0
    have fr : ∀ b ∈ (Tl.mk y r0 d0).fp, H b = none := by
      intro b m
      simp only [Tl.fp, List.mem_cons, List.not_mem_nil, or_false] at m
      rcases m with rfl | rfl | rfl
      · exact ny
      · exact nr1
      · exact nd1
    have nS : aS' ∉ (Tl.mk y r0 d0).fp := fun m => by
      obtain ⟨o, e⟩ := TlAt.has t2 aS' m
      rw [e] at hS1; cases hS1
    have nq : ∀ b ∈ (Tl.mk y r0 d0).fp, b ∉ [q, aS'] := fun b m m2 => by
      simp only [List.mem_cons, List.not_mem_nil, or_false] at m2
      rcases m2 with e | e
      · have := fr b m; rw [e, hq] at this; cases this
      · exact nS (e ▸ m)
    refine k _ ⟨y, r0, d0⟩ aS' fr hS0 nS (by exact (((SameOff.of sm1).upd mq).upd (.inr hS0)).upd mq) upd_same ?_ (by rw [upd_ne (fun e => qS e.symm), upd_same])
    exact t2.off (S := [q, aS']) (by exact (((SameOff.refl _ _).upd (.inl (by simp))).upd (.inl (by simp))).upd (.inl (by simp))) nq
/-! ### has_room -/
theorem scRoom : FnScope ["pack", "number"] ["pack", "number"] (defScope sRoom) := ⟨rfl, rfl, rfl, by decide +kernel, rfl, by decide +kernel, by decide +kernel⟩
theorem ok_room {f CP C : Addr} {fd : FuncData} (F : Fun K "has_room" "has_room" sRoom f fd) (T : PTxt K CP) (TT : TTxt K C) (X : Txt mg) (G : GTxt mg) : FnOk P w K mg base CX0 1 f fd ["pack", "number"] (spRoom CP C) := by
  refine F.ok scRoom (fun vs H Q E h => ?_) (fun cdv A outer s H vs Q E hr h => ?_)
  · obtain ⟨A, y, N, n, rfl, _⟩ := h
    rfl
  · obtain ⟨B, y, N, n, rfl, pk, k⟩ := h
    refine ⟨_, pss_one (ps_ret (pe_cmpR op_le (pe_op op_add (pe_callB call_len_seq rfl X.len PySem.boot_len (pa_cons (pe_fld (pe_fld (pv 0) rfl) rfl) pa_nil)) (pv 1)) (pe_g G.done rfl) (nomark _))), ?_⟩
    obtain ⟨dx, i0⟩ := pk.cur.ins
    refine ⟨_, rfl, B.q, CP, B.dq, _, _, rfl, pk.ins, T.cl, T.nY, pkY (C := C) (dq := C), B.cur.p, C, dx, _, _, rfl, i0, TT.cl, TT.nD, lkD (C := C) (dx := dx), B.cur.d, _, rfl, .inl (SqL.of pk.cur.don), _, rfl, _, _, rfl, rfl, _, _, rfl, rfl, ?_⟩
    have e : decide (((nums (curE y).2.1).length : Int) + (n : Int) ≤ 3000) = decide (y.done.length + n ≤ 3000) := by
      rw [nums_len, Bool.eq_iff_iff, decide_eq_true_eq, decide_eq_true_eq]
      show (y.done.length : Int) + (n : Int) ≤ 3000 ↔ _
      omega
    show Q (V.bl (decide (((nums (curE y).2.1).length : Int) + (n : Int) ≤ 3000))) H
    rw [e]
    exact k
end
end Sw
namespace Sw
open PySem PySem.Spec PyProof.Rows L2
theorem Paired.take {α β : Type} {F : α → β → Prop} : ∀ {xs : List α} {ys : List β} (n : Nat), Paired F xs ys → Paired F (xs.take n) (ys.take n)
  | _, _, 0, _ => by rw [List.take_zero, List.take_zero]; exact .nil
  | _, _, n + 1, .nil => .nil
  | _, _, n + 1, .cons r t => .cons r (Paired.take n t)
section
variable {CP C : Addr} {H H1 H' : Hp} {N M : Nat} {A : Adr} {y : Kqb6.State}
theorem PkAt.push (p : PkAt CP C H N A y) {z : Tl} (fr : ∀ b ∈ z.fp, H b = none) (s1 : Same H H1) (tz : EnAt C y.table H1 z (curE y)) :
    PkAt CP C (upd H1 A.aS (.lst (((z :: A.his).take 20).reverse.map fun x => V.ref x.p))) N { A with his := (z :: A.his).take 20 } { y with history := (curE y :: y.history).take 20 } := by
  have p1 := p.same s1
  have zf : ∀ b ∈ A.fp, b ∉ z.fp := fun b m m2 => by
    obtain ⟨o, e⟩ := p.has b m
    rw [fr b m2] at e; cases e
  have so : SameOff [A.aS] H1 (upd H1 A.aS (.lst (((z :: A.his).take 20).reverse.map fun x => V.ref x.p))) := (SameOff.refl _ _).upd (.inl (by simp))
  have aF : A.aS ∈ A.fp := by simp [Adr.fp]
  refine ⟨?_, ?_, upd_same, ?_, ?_, ⟨p.sep.st, p.sep.qs, p.sep.qt, ?_, ?_⟩, ?_, p.g, ?_⟩
  · show upd H1 A.aS _ A.q = _
    rw [upd_ne p.sep.qs]; exact p1.ins
  · exact p1.tabOff so (by simp; exact fun e => p.sep.st e.symm) (by simp; exact aF)
  · exact TlAt.off p1.cur so (fun b m m2 => p.sep.cur.2.1 (List.mem_singleton.mp m2 ▸ m))
  · refine Paired.take 20 (.cons ?_ ?_)
    · exact TlAt.off tz so (fun b m m2 => zf _ aF (List.mem_singleton.mp m2 ▸ m))
    · exact Paired.impM p1.his fun x mx e he => TlAt.off he so fun b m m2 => (p.sep.own x (by simp [mx]) b m).2.1 (List.mem_singleton.mp m2)
  · intro x mx b mb
    rcases List.mem_cons.mp mx with rfl | mx
    · exact p.sep.own A.cur (by simp) b mb
    · rcases List.mem_cons.mp (List.mem_of_mem_take mx) with rfl | mx
      · refine ⟨fun e => ?_, fun e => ?_, fun e => ?_⟩
        · exact zf A.q (by simp [Adr.fp]) (e ▸ mb)
        · exact zf A.aS aF (e ▸ mb)
        · exact zf A.t (by simp [Adr.fp]) (e ▸ mb)
      · exact p.sep.own x (by simp [mx]) b mb
  · have pw := List.pairwise_cons.mp p.sep.pw
    refine List.pairwise_cons.mpr ⟨fun x mx b mb => ?_, List.Pairwise.sublist (List.take_sublist 20 _) (List.pairwise_cons.mpr ⟨fun x mx b mb m2 => ?_, pw.2⟩)⟩
    · rcases List.mem_cons.mp (List.mem_of_mem_take mx) with rfl | mx
      · exact zf b (PkAt.cur_fp A b mb)
      · exact pw.1 x mx b mb
    · exact zf b (PkAt.his_fp A mx b m2) mb
  · show ((curE y :: y.history).take 20).length ≤ 20
    rw [List.length_take]; omega
  · intro e me
    rcases List.mem_cons.mp (List.mem_of_mem_take me) with rfl | me
    · exact p.g
    · exact p.gh e me
theorem PkAt.turn (p : PkAt CP C H N A y) {x' : Tl} (hp : x'.p = A.cur.p) (fr : ∀ b ∈ x'.fp, b ∈ A.cur.fp ∨ H b = none) (so : SameOff A.cur.fp H H') {e : En} (t : EnAt C y.table H' x' e) (g : GoodE M e) (h : N ≤ M) :
    PkAt CP C H' M { A with cur := x' } { y with left := e.1, done := e.2.1, readings := e.2.2.1, closed := e.2.2.2 } := by
  have pw := List.pairwise_cons.mp p.sep.pw
  have ne : ∀ b ∈ A.fp, b ∉ A.cur.fp → b ∉ x'.fp := fun b m n m2 => by
    rcases fr b m2 with q | q
    · exact n q
    · obtain ⟨o, e⟩ := p.has b m
      rw [q] at e; cases e
  refine ⟨?_, ?_, ?_, t, ?_, ⟨p.sep.st, p.sep.qs, p.sep.qt, ?_, ?_⟩, p.hl, g, fun e m => (p.gh e m).mono h⟩
  · show H' A.q = some (packO CP A.dq true y.limit A.t x'.p A.aS)
    rw [hp]; exact so _ _ p.ins p.sep.cur.1
  · exact p.tabOff so p.sep.cur.2.2 (PkAt.cur_fp A)
  · exact so _ _ p.stp p.sep.cur.2.1
  · exact Paired.impM p.his fun x mx e he => TlAt.off he so fun b m m2 => pw.1 x mx b m2 m
  · intro x mx b mb
    rcases List.mem_cons.mp mx with rfl | mx
    · refine ⟨fun e => ?_, fun e => ?_, fun e => ?_⟩
      · exact ne A.q (by simp [Adr.fp]) p.sep.cur.1 (e ▸ mb)
      · exact ne A.aS (by simp [Adr.fp]) p.sep.cur.2.1 (e ▸ mb)
      · exact ne A.t (by simp [Adr.fp]) p.sep.cur.2.2 (e ▸ mb)
    · exact p.sep.own x (by simp [mx]) b mb
  · exact List.pairwise_cons.mpr ⟨fun x mx b mb m2 => ne b (PkAt.his_fp A mx b m2) (fun m3 => pw.1 x mx b m3 m2) mb, pw.2⟩
theorem Adr.fp_mem {A : Adr} {b : Addr} : b ∈ A.fp ↔ b = A.q ∨ b = A.aS ∨ b = A.t ∨ b ∈ A.cur.fp ∨ ∃ x ∈ A.his, b ∈ x.fp := by
  simp only [Adr.fp, List.flatMap_cons, List.mem_cons, List.mem_append, List.mem_flatMap]
end
section
variable {P : Program} {w : World} {K : PySem.W.Frag} {mg : Str → Option Value} {base : Heap}
/-! ### keep_step -/
theorem scKeep : FnScope ["pack"] ["pack"] (defScope sKeep) := ⟨rfl, rfl, rfl, by decide +kernel, rfl, by decide +kernel, by decide +kernel⟩
theorem ok_keep {f CP C : Addr} {fd : FuncData} (F : Fun K "keep_step" "keep_step" sKeep f fd) (T : PTxt K CP) (X : Txt mg) (G : GTxt mg) (cY : Cal P w K mg base "copy_of" 3 ["tally"] (spCopy C)) : FnOk P w K mg base CX0 4 f fd ["pack"] (spKeep CP C) := by
  refine F.ok scKeep (fun vs H Q E h => ?_) (fun cdv A outer s H vs Q E hr h => ?_)
  · obtain ⟨A, y, N, rfl, _⟩ := h
    rfl
  · obtain ⟨B, y, N, rfl, pk, k⟩ := h
    refine ⟨_, pss_cons (ps_expr (pe_bm PySem.F.plainAttrs_list PySem.F.slot_list_append PySem.F.type_list_append mt_append (pe_fld (pv 0) rfl) (pa_cons (pe_callC cY hr rfl (pa_cons (pe_fld (pv 0) rfl) pa_nil)) pa_nil)))
      (pss_one (ps_if (pt_cmpR op_gt (pe_callB call_len_seq rfl X.len PySem.boot_len (pa_cons (pe_fld (pv 0) rfl) pa_nil)) (pe_g G.steps rfl) (nomark _))
        (pss_one (ps_expr (pe_bm PySem.F.plainAttrs_list PySem.F.slot_list_pop PySem.F.type_list_pop mt_popAt (pe_fld (pv 0) rfl) (pa_cons pe_int pa_nil)))) pss_nil)), ?_⟩
    have hlen : B.his.length = y.history.length := Paired.length pk.his
    have hl := pk.hl
    have hline : (1000 : Nat) < sizeLine := by rw [sizeLine_eq]; decide
    refine ⟨_, rfl, B.q, CP, B.dq, _, _, rfl, pk.ins, T.cl, T.nP, pkP (C := C) (dq := C), .inl ⟨rfl, _, SqL.of pk.stp⟩, _, rfl, B.q, CP, B.dq, _, _, rfl, pk.ins, T.cl, T.nY, pkY (C := C) (dq := C), B.cur, _, _, _, _, rfl, pk.cur, fun H1 z fr s1 t1 => ?_⟩
    have pu := pk.push fr s1 t1
    have fin : Q .non (upd H1 B.aS (.lst (((z :: B.his).take 20).reverse.map fun x => V.ref x.p))) := by
      refine k _ _ pu ((SameOff.of s1).upd (.inl (by simp))) fun x mx b mb => ?_
      rcases List.mem_cons.mp (List.mem_of_mem_take mx) with rfl | mx
      · exact .inr (fr b mb)
      · exact .inl (PkAt.his_fp B mx b mb)
    refine ⟨B.aS, _, _, rfl, rfl, s1 _ _ pk.stp, by rw [List.length_map, List.length_reverse]; omega, ?_⟩
    have e1 : (B.his.reverse.map fun x => V.ref x.p) ++ [V.ref z.p] = (z :: B.his).reverse.map fun x => V.ref x.p := by rw [List.reverse_cons, List.map_append]; rfl
    rw [e1]
    refine ⟨_, rfl, B.q, CP, B.dq, _, _, rfl, by rw [upd_ne pk.sep.qs]; exact s1 _ _ pk.ins, T.cl, T.nP, pkP (C := C) (dq := C), B.aS, _, rfl, .inl (SqL.of upd_same), _, _, rfl, rfl, _, rfl, ?_⟩
    have e2 : (((z :: B.his).reverse.map fun x => V.ref x.p).length : Int) = ((B.his.length + 1 : Nat) : Int) := by rw [List.length_map, List.length_reverse]; rfl
    rw [e2]
    by_cases h20 : 20 < B.his.length + 1
    · rw [show decide ((20 : Int) < ((B.his.length + 1 : Nat) : Int)) = true from decide_eq_true (by omega)]
      refine iteT ⟨_, rfl, B.q, CP, B.dq, _, _, rfl, by rw [upd_ne pk.sep.qs]; exact s1 _ _ pk.ins, T.cl, T.nP, pkP (C := C) (dq := C), .inl ⟨rfl, _, SqL.of upd_same⟩, B.aS, _, _, 0, _, rfl, rfl, upd_same, by decide, by decide, ?_, List.getElem?_eq_getElem (by rw [List.length_map, List.length_reverse, List.length_cons]; omega), ?_⟩
      · unfold seqIndex?
        rw [List.length_map, List.length_reverse, List.length_cons]
        simp
      · rw [upd_upd]
        have e3 : ((z :: B.his).reverse.map fun x => V.ref x.p).eraseIdx 0 = ((z :: B.his).take 20).reverse.map fun x => V.ref x.p := by
          rw [List.eraseIdx_zero, ← List.map_tail, List.tail_reverse, List.dropLast_eq_take, List.length_cons, show B.his.length + 1 - 1 = 20 by omega]
        rw [e3]
        exact fin
    · rw [show decide ((20 : Int) < ((B.his.length + 1 : Nat) : Int)) = false from decide_eq_false (by omega)]
      refine iteF ?_
      rw [List.take_of_length_le (show (z :: B.his).length ≤ 20 by rw [List.length_cons]; omega)] at fin
      exact fin
/-! ### come_as_step -/
theorem scAsStep : FnScope ["pack", "readings"] ["pack", "readings"] (defScope sAsStep) := ⟨rfl, rfl, rfl, by decide +kernel, rfl, by decide +kernel, by decide +kernel⟩
theorem ok_asStep {f CP C : Addr} {fd : FuncData} (F : Fun K "come_as_step" "come_as_step" sAsStep f fd) (T : PTxt K CP) (cK : Cal P w K mg base "keep_step" 4 ["pack"] (spKeep CP C)) (cT : Cal P w K mg base "take_in" 4 ["tally", "table", "readings"] (spTake C)) :
    FnOk P w K mg base CX0 5 f fd ["pack", "readings"] (spAsStep CP C) := by
  refine F.ok scAsStep (fun vs H Q E h => ?_) (fun cdv A outer s H vs Q E hr h => ?_)
  · obtain ⟨A, y, N, rd, rs, rfl, _⟩ := h
    rfl
  · obtain ⟨B, y, N, rd, rs, rfl, pk, hN, hrd, nrd, rne, rlen, rlow, k⟩ := h
    refine ⟨_, pss_cons (ps_expr (pe_callC cK hr rfl (pa_cons (pv 0) pa_nil))) (pss_one (ps_ret (pe_callC cT hr rfl (pa_cons (pe_fld (pv 0) rfl) (pa_cons (pe_fld (pv 0) rfl) (pa_cons (pv 1) pa_nil)))))), ?_⟩
    refine ⟨_, rfl, B, y, N, rfl, pk, fun H1 his p1 so1 fr1 => ?_⟩
    have hline : (700000 : Nat) < sizeLine := by rw [sizeLine_eq]; decide
    have hl := pk.g.len
    have rdS : rd ≠ B.aS := fun e => nrd (by rw [e]; simp [Adr.fp])
    have rdc : rd ∉ B.cur.fp := fun m => nrd (PkAt.cur_fp B _ m)
    have hl1 : y.left.length + 2 * y.done.length ≤ N := hl
    refine ⟨_, rfl, B.q, CP, B.dq, _, _, rfl, p1.ins, T.cl, T.nY, pkY (C := C) (dq := C), _, rfl, B.q, CP, B.dq, _, _, rfl, p1.ins, T.cl, T.nT, pkT (C := C) (dq := C), _, rfl, B.cur, B.t, rd, y.left, y.done, rs, _, _, y.table, rfl, p1.cur, p1.tab, p1.sep.cur.2.2, so1 _ _ hrd (by simp; exact rdS), rdc, by omega, fun H2 so2 t2 => ?_⟩
    have rl := reads_len rs y.left
    have e2 : EnAt C y.table H2 B.cur ((Kqb6.reads y.left rs).1, y.done ++ (Kqb6.reads y.left rs).2, y.readings + rs.length, y.closed) := by
      unfold EnAt
      have e : y.closed + 2 * Kqb6.sum ((y.done ++ (Kqb6.reads y.left rs).2).map (Kqb6.harm y.table)) = y.closed + 2 * Kqb6.sum (y.done.map (Kqb6.harm y.table)) + 2 * Kqb6.sum ((Kqb6.reads y.left rs).2.map (Kqb6.harm y.table)) := by rw [List.map_append, sum_append]; omega
      show TlAt C H2 B.cur (Kqb6.reads y.left rs).1 (y.done ++ (Kqb6.reads y.left rs).2) (y.readings + rs.length) (y.closed + 2 * Kqb6.sum ((y.done ++ (Kqb6.reads y.left rs).2).map (Kqb6.harm y.table)))
      rw [e]
      exact t2
    have rs0 : 0 < rs.length := List.length_pos_iff.mpr rne
    have g2 : GoodE (N + 3000) ((Kqb6.reads y.left rs).1, y.done ++ (Kqb6.reads y.left rs).2, y.readings + rs.length, y.closed) := by
      refine ⟨?_, reads_low pk.g.lo rlow, ?_⟩
      · show (Kqb6.reads y.left rs).1.length + 2 * (y.done ++ (Kqb6.reads y.left rs).2).length ≤ N + 3000
        rw [List.length_append]; omega
      · show y.readings + rs.length = 0 ↔ (Kqb6.reads y.left rs).1 = []
        exact ⟨fun h => by omega, fun h => absurd h (reads_ne rs y.left (.inl rne))⟩
    have p2 := p1.turn (x' := B.cur) rfl (fun b m => .inl m) so2 e2 g2 (by omega)
    refine k H2 { B with his := his } rfl p2 ?_ ?_
    · refine SameOff.off (S := B.fp) (T := B.cur.fp) (so1.mono (by simp [Adr.fp])) so2 fun b m => .inl (PkAt.cur_fp B b m)
    · intro b m
      rcases Adr.fp_mem.mp m with e | e | e | e | ⟨x, mx, mb⟩
      · exact .inl (Adr.fp_mem.mpr (.inl e))
      · exact .inl (Adr.fp_mem.mpr (.inr (.inl e)))
      · exact .inl (Adr.fp_mem.mpr (.inr (.inr (.inl e))))
      · exact .inl (Adr.fp_mem.mpr (.inr (.inr (.inr (.inl e)))))
      · exact fr1 x mx b mb
end
end Sw
namespace Sw
open PySem PySem.Spec PyProof.Rows L2
abbrev sStart : Stmt := top 41
abbrev sRead : Stmt := top 42
abbrev sReads : Stmt := top 43
abbrev sLeft : Stmt := top 44
abbrev sDone : Stmt := top 45
abbrev sHalves : Stmt := top 46
abbrev sHarmC : Stmt := top 47
abbrev sDamage : Stmt := top 48
abbrev sLife : Stmt := top 49
abbrev sWould : Stmt := top 50
abbrev sMost : Stmt := top 51
abbrev sCount : Stmt := top 52
abbrev sGreatest : Stmt := top 53
abbrev sAgain : Stmt := top 54
abbrev sTimes : Stmt := top 55
abbrev sUndo : Stmt := top 56
abbrev sClear : Stmt := top 57
abbrev sClose : Stmt := top 58
abbrev sState : Stmt := top 59
theorem iv_cast (l : List Nat) : iv (cast l) = nums l := by
  unfold iv cast nums
  rw [List.map_map]; rfl
/-- a call on a pack that was started -/
def spFn (CP C : Addr) (x : Kqb6.Call) (as : List Int) (xs : List (List Int)) : Sp := fun vs H Q _ => ∃ (told : Addr) (ps : List Addr) (N : Nat) (A : Adr) (y : Kqb6.State), vs = [.ref A.q, .ref told] ∧ H told = some (.lst (iv as ++ ps.map V.ref)) ∧ RowsP H ps xs ∧
  (∀ b ∈ ps, b ∉ A.fp) ∧ PkAt CP C H N A y ∧ N ≤ 600000 ∧
  ∀ (H' : Hp) (A' : Adr) (y' : Kqb6.State) (D : Addr), A'.q = A.q → PkAt CP C H' (N + 3000) A' y' → (Kqb6.step (some y) x).1 = some y' → SameOff A.fp H H' → (∀ b ∈ A'.fp, b ∈ A.fp ∨ H b = none) →
    H' D = some (.lst (iv (Kqb6Neutral.tell (Kqb6.step (some y) x).2))) → Q (.ref D) H'
theorem ask {CP C : Addr} {x : Kqb6.Call} {H H' : Hp} {N : Nat} {A : Adr} {y : Kqb6.State} {Q : VK} {an : Kqb6.Ans} {D : Addr} (pk : PkAt CP C H N A y)
    (k : ∀ (H' : Hp) (A' : Adr) (y' : Kqb6.State) (D : Addr), A'.q = A.q → PkAt CP C H' (N + 3000) A' y' → (Kqb6.step (some y) x).1 = some y' → SameOff A.fp H H' → (∀ b ∈ A'.fp, b ∈ A.fp ∨ H b = none) →
      H' D = some (.lst (iv (Kqb6Neutral.tell (Kqb6.step (some y) x).2))) → Q (.ref D) H')
    (e : Kqb6.step (some y) x = (some y, an)) (sm : Same H H') (hD : H' D = some (.lst (iv (Kqb6Neutral.tell an)))) : Q (.ref D) H' :=
  k H' A y D rfl ((pk.same sm).mono (by omega)) (by rw [e]) (SameOff.of sm) (fun b m => .inl m) (by rw [e]; exact hD)
theorem iv_row (l : List Nat) : iv (Kqb6Neutral.tell (Kqb6.row l)) = V.int (l.length : Int) :: nums l := by
  show iv ((l.length : Int) :: l.map fun x : Nat => (x : Int)) = _
  rw [nums_int]; rfl
theorem one_le : 1 ≤ sizeLine := by rw [sizeLine_eq]; decide
section
variable {P : Program} {w : World} {K : PySem.W.Frag} {mg : Str → Option Value} {base : Heap}
/-! ### left, done, halves -/
theorem scLeft : FnScope ["pack", "told"] ["pack", "told"] (defScope sLeft) := ⟨rfl, rfl, rfl, by decide +kernel, rfl, by decide +kernel, by decide +kernel⟩
theorem ok_left {f CP C : Addr} {fd : FuncData} (F : Fun K "left" "left" sLeft f fd) (T : PTxt K CP) (TT : TTxt K C) (cN : Cal P w K mg base "counted" 1 ["numbers"] spCounted) : FnOk P w K mg base CX0 6 f fd ["pack", "told"] (spFn CP C .left [] []) := by
  refine F.ok scLeft (fun vs H Q E h => ?_) (fun cdv A outer s H vs Q E hr h => ?_)
  · obtain ⟨told, ps, N, A, y, rfl, _⟩ := h
    rfl
  · obtain ⟨told, ps, N, B, y, rfl, ht, hp, hn, pk, hN, k⟩ := h
    refine ⟨_, pss_one (ps_ret (pe_callC cN (hr.mono (by decide)) rfl (pa_cons (pe_fld (pe_fld (pv 0) rfl) rfl) pa_nil))), ?_⟩
    obtain ⟨dx, i0⟩ := pk.cur.ins
    have hl := pk.g.len
    have hline : (1000000 : Nat) < sizeLine := by rw [sizeLine_eq]; decide
    refine ⟨_, rfl, B.q, CP, B.dq, _, _, rfl, pk.ins, T.cl, T.nY, pkY (C := C) (dq := C), B.cur.p, C, dx, _, _, rfl, i0, TT.cl, TT.nR, lkR (C := C) (dx := dx), B.cur.r, _, rfl, pk.cur.row, by rw [nums_len, List.length_reverse]; omega, fun H' D hD sm hD' => ?_⟩
    refine ask pk k (an := Kqb6.row y.left.reverse) rfl sm ?_
    rw [iv_row, hD', nums_len]
    rfl
theorem scDone : FnScope ["pack", "told"] ["pack", "told"] (defScope sDone) := ⟨rfl, rfl, rfl, by decide +kernel, rfl, by decide +kernel, by decide +kernel⟩
theorem ok_done {f CP C : Addr} {fd : FuncData} (F : Fun K "done" "done" sDone f fd) (T : PTxt K CP) (TT : TTxt K C) (cN : Cal P w K mg base "counted" 1 ["numbers"] spCounted) : FnOk P w K mg base CX0 6 f fd ["pack", "told"] (spFn CP C .done [] []) := by
  refine F.ok scDone (fun vs H Q E h => ?_) (fun cdv A outer s H vs Q E hr h => ?_)
  · obtain ⟨told, ps, N, A, y, rfl, _⟩ := h
    rfl
  · obtain ⟨told, ps, N, B, y, rfl, ht, hp, hn, pk, hN, k⟩ := h
    refine ⟨_, pss_one (ps_ret (pe_callC cN (hr.mono (by decide)) rfl (pa_cons (pe_fld (pe_fld (pv 0) rfl) rfl) pa_nil))), ?_⟩
    obtain ⟨dx, i0⟩ := pk.cur.ins
    have hl := pk.g.len
    have hline : (1000000 : Nat) < sizeLine := by rw [sizeLine_eq]; decide
    refine ⟨_, rfl, B.q, CP, B.dq, _, _, rfl, pk.ins, T.cl, T.nY, pkY (C := C) (dq := C), B.cur.p, C, dx, _, _, rfl, i0, TT.cl, TT.nD, lkD (C := C) (dx := dx), B.cur.d, _, rfl, pk.cur.don, by rw [nums_len]; omega, fun H' D hD sm hD' => ?_⟩
    refine ask pk k (an := Kqb6.row y.done) rfl sm ?_
    rw [iv_row, hD', nums_len]
    rfl
theorem scHalves : FnScope ["pack", "told"] ["pack", "told"] (defScope sHalves) := ⟨rfl, rfl, rfl, by decide +kernel, rfl, by decide +kernel, by decide +kernel⟩
theorem ok_halves {f CP C : Addr} {fd : FuncData} (F : Fun K "halves" "halves" sHalves f fd) (T : PTxt K CP) (TT : TTxt K C) (cN : Cal P w K mg base "counted" 1 ["numbers"] spCounted) (cH : Cal P w K mg base "half_swings" 1 ["row"] spHalf) :
    FnOk P w K mg base CX0 6 f fd ["pack", "told"] (spFn CP C .halves [] []) := by
  refine F.ok scHalves (fun vs H Q E h => ?_) (fun cdv A outer s H vs Q E hr h => ?_)
  · obtain ⟨told, ps, N, A, y, rfl, _⟩ := h
    rfl
  · obtain ⟨told, ps, N, B, y, rfl, ht, hp, hn, pk, hN, k⟩ := h
    refine ⟨_, pss_one (ps_ret (pe_callC cN (hr.mono (by decide)) rfl (pa_cons (pe_callC cH (hr.mono (by decide)) rfl (pa_cons (pe_fld (pe_fld (pv 0) rfl) rfl) pa_nil)) pa_nil))), ?_⟩
    obtain ⟨dx, i0⟩ := pk.cur.ins
    have hl := pk.g.len
    have hline : (1000000 : Nat) < sizeLine := by rw [sizeLine_eq]; decide
    refine ⟨_, rfl, B.q, CP, B.dq, _, _, rfl, pk.ins, T.cl, T.nY, pkY (C := C) (dq := C), B.cur.p, C, dx, _, _, rfl, i0, TT.cl, TT.nR, lkR (C := C) (dx := dx), B.cur.r, _, rfl, pk.cur.row, by omega, fun H1 g hg s1 g1 => ?_⟩
    refine ⟨g, _, rfl, g1, by rw [nums_len, dif_len, List.length_reverse]; omega, fun H' D hD sm hD' => ?_⟩
    refine ask pk k (an := Kqb6.row (Kqb6.halves y.left).reverse) rfl (s1.trans sm) ?_
    rw [iv_row, hD', nums_len, halves_dif]
    rfl
/-! ### harm -/
theorem scHarmC : FnScope ["pack", "told", "size"] ["pack", "told"] (defScope sHarmC) := ⟨rfl, rfl, rfl, by decide +kernel, rfl, by decide +kernel, by decide +kernel⟩
theorem ok_harmC {f CP C : Addr} {fd : FuncData} (n : Nat) (F : Fun K "harm" "harm" sHarmC f fd) (T : PTxt K CP) (X : Txt mg) (G : GTxt mg) (cH : Cal P w K mg base "harm_of" 1 ["table", "size"] spHarm) : FnOk P w K mg base CX0 6 f fd ["pack", "told"] (spFn CP C (.harm n) [(n : Int)] []) := by
  refine F.ok scHarmC (fun vs H Q E h => ?_) (fun cdv A outer s H vs Q E hr h => ?_)
  · obtain ⟨told, ps, N, A, y, rfl, _⟩ := h
    rfl
  · obtain ⟨told, ps, N, B, y, rfl, ht, hp, hn, pk, hN, k⟩ := h
    refine ⟨_, pss_cons (ps_set (i := 2) scHarmC.nd rfl (Or.inl rfl) (pe_ix ix_list (pv 1) pe_int (fun _ _ => rfl)))
      (pss_cons (ps_if (pt_cmpR op_gt (pv 2) (pe_g X.topSize rfl) (nomark _)) (pss_one (ps_ret (pe_lst (pa_cons (pe_g G.wrong rfl) pa_nil)))) pss_nil)
      (pss_one (ps_ret (pe_lst (pa_cons (pe_callC cH (hr.mono (by decide)) rfl (pa_cons (pe_fld (pv 0) rfl) (pa_cons (pv 2) pa_nil))) pa_nil))))), ?_⟩
    refine ⟨_, rfl, told, _, _, _, rfl, rfl, SqL.of ht, at_of (j := 0) rfl rfl, _, rfl, _, _, rfl, rfl, _, rfl, ite2 (fun h => ⟨one_le, fun D hD => ?_⟩) (fun h => ?_)⟩
    · have h' : 1000 < n := by have := of_decide_eq_true h; omega
      refine ask pk k (an := .num (-22)) ?_ (same_new hD) upd_same
      show (some y, if 1000 < n then _ else _) = _
      rw [if_pos h']
    · have h' : ¬ 1000 < n := fun q => h (decide_eq_true (by omega))
      refine ⟨_, rfl, B.q, CP, B.dq, _, _, rfl, pk.ins, T.cl, T.nT, pkT (C := C) (dq := C), _, rfl, B.t, _, n, rfl, pk.tab, one_le, fun D hD => ?_⟩
      refine ask pk k (an := .num (Kqb6.harm y.table n)) ?_ (same_new hD) upd_same
      show (some y, if 1000 < n then _ else _) = _
      rw [if_neg h']
/-! ### damage, life -/
theorem scDamage : FnScope ["pack", "told"] ["pack", "told"] (defScope sDamage) := ⟨rfl, rfl, rfl, by decide +kernel, rfl, by decide +kernel, by decide +kernel⟩
theorem ok_damage {f CP C : Addr} {fd : FuncData} (F : Fun K "damage" "damage" sDamage f fd) (cD : Cal P w K mg base "damage_now" 4 ["pack"] (spDmgNow CP C)) : FnOk P w K mg base CX0 6 f fd ["pack", "told"] (spFn CP C .damage [] []) := by
  refine F.ok scDamage (fun vs H Q E h => ?_) (fun cdv A outer s H vs Q E hr h => ?_)
  · obtain ⟨told, ps, N, A, y, rfl, _⟩ := h
    rfl
  · obtain ⟨told, ps, N, B, y, rfl, ht, hp, hn, pk, hN, k⟩ := h
    refine ⟨_, pss_one (ps_ret (pe_lst (pa_cons (pe_callC cD (hr.mono (by decide)) rfl (pa_cons (pv 0) pa_nil)) pa_nil))), ?_⟩
    refine ⟨_, rfl, B, y, N, rfl, pk, by omega, fun H1 s1 => ⟨one_le, fun D hD => ?_⟩⟩
    exact ask pk k (an := .num (Kqb6.hurt y)) rfl (s1.trans (same_new hD)) upd_same
theorem scLife : FnScope ["pack", "told", "spare"] ["pack", "told"] (defScope sLife) := ⟨rfl, rfl, rfl, by decide +kernel, rfl, by decide +kernel, by decide +kernel⟩
theorem ok_life {f CP C : Addr} {fd : FuncData} (F : Fun K "life" "life" sLife f fd) (T : PTxt K CP) (cD : Cal P w K mg base "damage_now" 4 ["pack"] (spDmgNow CP C)) : FnOk P w K mg base CX0 6 f fd ["pack", "told"] (spFn CP C .life [] []) := by
  refine F.ok scLife (fun vs H Q E h => ?_) (fun cdv A outer s H vs Q E hr h => ?_)
  · obtain ⟨told, ps, N, A, y, rfl, _⟩ := h
    rfl
  · obtain ⟨told, ps, N, B, y, rfl, ht, hp, hn, pk, hN, k⟩ := h
    refine ⟨_, pss_cons (ps_set (i := 2) scLife.nd rfl (Or.inl rfl) (pe_op op_sub (pe_op op_mul pe_int (pe_fld (pv 0) rfl)) (pe_callC cD (hr.mono (by decide)) rfl (pa_cons (pv 0) pa_nil))))
      (pss_cons (ps_if (pt_cmpR op_lt (pv 2) pe_int (nomark _)) (pss_one (ps_ret (pe_lst (pa_cons pe_int (pa_cons pe_int pa_nil))))) pss_nil)
      (pss_one (ps_ret (pe_lst (pa_cons pe_int (pa_cons (pv 2) pa_nil)))))), ?_⟩
    have two_le : 2 ≤ sizeLine := by rw [sizeLine_eq]; decide
    refine ⟨_, rfl, B.q, CP, B.dq, _, _, rfl, pk.ins, T.cl, T.nL, pkL (C := C) (dq := C), _, _, rfl, rfl, .inl ⟨by decide, by decide⟩, _, rfl, B, y, N, rfl, pk, by omega, fun H1 s1 => ⟨_, _, rfl, rfl, ?_⟩⟩
    refine ⟨_, rfl, _, _, rfl, rfl, _, rfl, ite2 (fun h => ⟨two_le, fun D hD => ?_⟩) (fun h => ⟨_, rfl, two_le, fun D hD => ?_⟩)⟩
    · have h' : ¬ Kqb6.hurt y ≤ 2 * y.limit := by have := of_decide_eq_true h; omega
      refine ask pk k (an := .some_ 0 [0]) ?_ (s1.trans (same_new hD)) upd_same
      show (some y, Kqb6.Ans.some_ (if Kqb6.hurt y ≤ 2 * y.limit then 1 else 0) [2 * y.limit - Kqb6.hurt y]) = _
      rw [if_neg h', show 2 * y.limit - Kqb6.hurt y = 0 by omega]
    · have h' : Kqb6.hurt y ≤ 2 * y.limit := by
        rcases Nat.lt_or_ge (2 * y.limit) (Kqb6.hurt y) with q | q
        · exact absurd (decide_eq_true (by omega)) h
        · exact q
      refine ask pk k (an := .some_ 1 [2 * y.limit - Kqb6.hurt y]) ?_ (s1.trans (same_new hD)) ?_
      · show (some y, Kqb6.Ans.some_ (if Kqb6.hurt y ≤ 2 * y.limit then 1 else 0) [2 * y.limit - Kqb6.hurt y]) = _
        rw [if_pos h']
      · rw [upd_same]
        have e : (2 : Int) * (y.limit : Int) - (Kqb6.hurt y : Int) = ((2 * y.limit - Kqb6.hurt y : Nat) : Int) := by omega
        dsimp only
        rw [e]
        rfl
/-! ### state -/
theorem scState : FnScope ["pack", "told", "tally"] ["pack", "told"] (defScope sState) := ⟨rfl, rfl, rfl, by decide +kernel, rfl, by decide +kernel, by decide +kernel⟩
theorem ok_state {f CP C : Addr} {fd : FuncData} (F : Fun K "state" "state" sState f fd) (T : PTxt K CP) (TT : TTxt K C) (X : Txt mg) : FnOk P w K mg base CX0 6 f fd ["pack", "told"] (spFn CP C .state [] []) := by
  refine F.ok scState (fun vs H Q E h => ?_) (fun cdv A outer s H vs Q E hr h => ?_)
  · obtain ⟨told, ps, N, A, y, rfl, _⟩ := h
    rfl
  · obtain ⟨told, ps, N, B, y, rfl, ht, hp, hn, pk, hN, k⟩ := h
    refine ⟨_, pss_cons (ps_set (i := 2) scState.nd rfl (Or.inl rfl) (pe_fld (pv 0) rfl))
      (pss_one (ps_ret (pe_lst (pa_cons (pe_fld (pv 2) rfl) (pa_cons (pe_callB call_len_seq rfl X.len PySem.boot_len (pa_cons (pe_fld (pv 2) rfl) pa_nil)) (pa_cons (pe_callB call_len_seq rfl X.len PySem.boot_len (pa_cons (pe_fld (pv 2) rfl) pa_nil))
        (pa_cons (pe_callB call_len_seq rfl X.len PySem.boot_len (pa_cons (pe_fld (pv 0) rfl) pa_nil)) pa_nil))))))), ?_⟩
    obtain ⟨dx, i0⟩ := pk.cur.ins
    refine ⟨_, rfl, B.q, CP, B.dq, _, _, rfl, pk.ins, T.cl, T.nY, pkY (C := C) (dq := C), ?_⟩
    refine ⟨_, rfl, B.cur.p, C, dx, _, _, rfl, i0, TT.cl, TT.nC, lk_hit _ _ _, _, rfl, B.cur.p, C, dx, _, _, rfl, i0, TT.cl, TT.nR, lkR (C := C) (dx := dx), B.cur.r, _, rfl, .inl (SqL.of pk.cur.row),
      _, rfl, B.cur.p, C, dx, _, _, rfl, i0, TT.cl, TT.nD, lkD (C := C) (dx := dx), B.cur.d, _, rfl, .inl (SqL.of pk.cur.don),
      _, rfl, B.q, CP, B.dq, _, _, rfl, pk.ins, T.cl, T.nP, pkP (C := C) (dq := C), B.aS, _, rfl, .inl (SqL.of pk.stp), (by show 4 ≤ sizeLine; rw [sizeLine_eq]; decide), fun D hD => ?_⟩
    refine ask pk k (an := .some_ y.readings [y.left.length, y.done.length, y.history.length]) rfl (same_new hD) ?_
    rw [upd_same, nums_len, nums_len, List.length_reverse, List.length_map, List.length_reverse, Paired.length pk.his]
    rfl
end
end Sw
namespace Sw
open PySem PySem.Spec PyProof.Rows L2
theorem two_le : 2 ≤ sizeLine := by rw [sizeLine_eq]; decide
theorem line_big : (1000000 : Nat) < sizeLine := by rw [sizeLine_eq]; decide
theorem len_left {a b : List Nat} : (a ++ b).length - a.length = b.length := by rw [List.length_append]; omega
theorem SameOff.pre {S : List Addr} {H H0 H1 : Hp} (s : Same H H0) (so : SameOff S H0 H1) : SameOff S H H1 := fun b o e n => so b o (s b o e) n
theorem PkAt.new {CP C : Addr} {H : Hp} {N : Nat} {A : Adr} {y : Kqb6.State} (pk : PkAt CP C H N A y) {D : Addr} (h : H D = none) : D ∉ A.fp := fun m => by
  obtain ⟨o, e⟩ := pk.has D m
  rw [e] at h; cases h
theorem did {CP C : Addr} {x : Kqb6.Call} {H H1 H' : Hp} {N : Nat} {A A' : Adr} {y y' : Kqb6.State} {Q : VK} {an : Kqb6.Ans} {D : Addr}
    (k : ∀ (H' : Hp) (A' : Adr) (y' : Kqb6.State) (D : Addr), A'.q = A.q → PkAt CP C H' (N + 3000) A' y' → (Kqb6.step (some y) x).1 = some y' → SameOff A.fp H H' → (∀ b ∈ A'.fp, b ∈ A.fp ∨ H b = none) →
      H' D = some (.lst (iv (Kqb6Neutral.tell (Kqb6.step (some y) x).2))) → Q (.ref D) H')
    (e : Kqb6.step (some y) x = (some y', an)) (hq : A'.q = A.q) (p : PkAt CP C H1 (N + 3000) A' y') (so : SameOff A.fp H H1) (fr : ∀ b ∈ A'.fp, b ∈ A.fp ∨ H b = none) (sm : Same H1 H') (hD : H' D = some (.lst (iv (Kqb6Neutral.tell an)))) : Q (.ref D) H' :=
  k H' A' y' D hq (p.same sm) (by rw [e]) (so.trans (SameOff.of sm)) fr (by rw [e]; exact hD)
section
variable {P : Program} {w : World} {K : PySem.W.Frag} {mg : Str → Option Value} {base : Heap}
/-! ### read -/
theorem scRead : FnScope ["pack", "told", "reading"] ["pack", "told"] (defScope sRead) := ⟨rfl, rfl, rfl, by decide +kernel, rfl, by decide +kernel, by decide +kernel⟩
theorem ok_read {f CP C : Addr} {fd : FuncData} (n : Nat) (F : Fun K "read" "read" sRead f fd) (G : GTxt mg) (cR : Cal P w K mg base "has_room" 1 ["pack", "number"] (spRoom CP C)) (cS : Cal P w K mg base "come_as_step" 5 ["pack", "readings"] (spAsStep CP C)) :
    FnOk P w K mg base CX0 6 f fd ["pack", "told"] (spFn CP C (.read n) [(n : Int)] []) := by
  refine F.ok scRead (fun vs H Q E h => ?_) (fun cdv A outer s H vs Q E hr h => ?_)
  · obtain ⟨told, ps, N, A, y, rfl, _⟩ := h
    rfl
  · obtain ⟨told, ps, N, B, y, rfl, ht, hp, hn, pk, hN, k⟩ := h
    refine ⟨_, pss_cons (ps_set (i := 2) scRead.nd rfl (Or.inl rfl) (pe_ix ix_list (pv 1) pe_int (fun _ _ => rfl)))
      (pss_cons (ps_if (pt_cmpR op_gt (pv 2) (pe_g G.reading rfl) (nomark _)) (pss_one (ps_ret (pe_lst (pa_cons (pe_g G.wrong rfl) pa_nil)))) pss_nil)
      (pss_cons (ps_if (pt_not (pt_val (pe_callC cR (hr.mono (by decide)) rfl (pa_cons (pv 0) (pa_cons pe_int pa_nil))))) (pss_one (ps_ret (pe_lst (pa_cons (pe_g G.full rfl) pa_nil)))) pss_nil)
      (pss_one (ps_ret (pe_lst (pa_cons (pe_callC cS hr rfl (pa_cons (pv 0) (pa_cons (pe_lst (pa_cons (pv 2) pa_nil)) pa_nil))) pa_nil)))))), ?_⟩
    refine ⟨_, rfl, told, _, _, _, rfl, rfl, SqL.of ht, at_of (j := 0) rfl rfl, _, rfl, _, _, rfl, rfl, _, rfl, ite2 (fun h => ⟨one_le, fun D hD => ?_⟩) (fun h => ?_)⟩
    · have h' : 1000 < n := by have := of_decide_eq_true h; omega
      refine ask pk k (an := .num (-22)) ?_ (same_new hD) upd_same
      show (if 1000 < n then _ else _) = _
      rw [if_pos h']
    · have h' : ¬ 1000 < n := fun q => h (decide_eq_true (by omega))
      refine ⟨_, rfl, B, y, N, 1, rfl, pk, _, rfl, ?_⟩
      by_cases hd : y.done.length + 1 ≤ 3000
      · rw [decide_eq_true hd]
        refine iteF ⟨_, rfl, _, rfl, one_le, fun D0 hD0 => ?_⟩
        refine ⟨B, y, N, D0, [n], rfl, pk.same (same_new hD0), hN, upd_same, pk.new hD0, by simp, by simp, by intro x m; rw [List.mem_singleton.mp m]; omega, fun H1 A1 hq p1 so1 fr1 => ⟨one_le, fun D hD => ?_⟩⟩
        rw [reads_one] at p1 ⊢
        refine did k (y' := Kqb6.take_ y (Kqb6.read y.left n) 1) (an := .num ((Kqb6.take_ y (Kqb6.read y.left n) 1).done.length - y.done.length : Nat)) ?_ hq p1 (so1.pre (same_new hD0)) (fun b m => (fr1 b m).imp id (same_new hD0).free) (same_new hD) ?_
        · show (if 1000 < n then _ else if Kqb6.DONE ≤ y.done.length then _ else _) = _
          rw [if_neg h', if_neg (show ¬ Kqb6.DONE ≤ y.done.length by show ¬ 3000 ≤ _; omega)]
        · rw [upd_same]
          show _ = some (HO.lst [V.int (((y.done ++ (Kqb6.read y.left n).2).length - y.done.length : Nat) : Int)])
          rw [len_left]
      · rw [decide_eq_false hd]
        refine iteT ⟨one_le, fun D hD => ?_⟩
        refine ask pk k (an := .num (-28)) ?_ (same_new hD) upd_same
        show (if 1000 < n then _ else if Kqb6.DONE ≤ y.done.length then _ else _) = _
        rw [if_neg h', if_pos (show Kqb6.DONE ≤ y.done.length by show 3000 ≤ _; omega)]
/-! ### reads -/
theorem scReads : FnScope ["pack", "told", "readings"] ["pack", "told"] (defScope sReads) := ⟨rfl, rfl, rfl, by decide +kernel, rfl, by decide +kernel, by decide +kernel⟩
theorem ok_reads {f CP C : Addr} {fd : FuncData} (l : List Nat) (hl60 : l.length ≤ 60) (F : Fun K "reads" "reads" sReads f fd) (X : Txt mg) (G : GTxt mg) (cR : Cal P w K mg base "has_room" 1 ["pack", "number"] (spRoom CP C)) (cS : Cal P w K mg base "come_as_step" 5 ["pack", "readings"] (spAsStep CP C)) :
    FnOk P w K mg base CX0 6 f fd ["pack", "told"] (spFn CP C (.reads l) [] [cast l]) := by
  refine F.ok scReads (fun vs H Q E h => ?_) (fun cdv A outer s H vs Q E hr h => ?_)
  · obtain ⟨told, ps, N, A, y, rfl, _⟩ := h
    rfl
  · obtain ⟨told, ps, N, B, y, rfl, ht, hp, hn, pk, hN, k⟩ := h
    obtain ⟨a, rfl, ha⟩ : ∃ a, ps = [a] ∧ H a = some (.lst (iv (cast l))) := by
      cases hp with
      | cons r t => cases t; exact ⟨_, rfl, r⟩
    have haN : H a = some (.lst (nums l)) := by rw [← iv_cast]; exact ha
    refine ⟨_, pss_cons (ps_set (i := 2) scReads.nd rfl (Or.inl rfl) (pe_ix ix_list (pv 1) pe_int (fun _ _ => rfl)))
      (pss_cons (ps_if (PW.pt (pw_or (pt_cmpR op_eq (pe_callB call_len_seq rfl X.len PySem.boot_len (pa_cons (pv 2) pa_nil)) pe_int (nomark _)) (pw_or1 (pt_cmpR op_gt (pe_callB (cr_max rfl) rfl X.max boot_max (pa_cons (pv 2) pa_nil)) (pe_g G.reading rfl) (nomark _)))))
        (pss_one (ps_ret (pe_lst (pa_cons (pe_g G.wrong rfl) pa_nil)))) pss_nil)
      (pss_cons (ps_if (pt_not (pt_val (pe_callC cR (hr.mono (by decide)) rfl (pa_cons (pv 0) (pa_cons (pe_callB call_len_seq rfl X.len PySem.boot_len (pa_cons (pv 2) pa_nil)) pa_nil))))) (pss_one (ps_ret (pe_lst (pa_cons (pe_g G.full rfl) pa_nil)))) pss_nil)
      (pss_one (ps_ret (pe_lst (pa_cons (pe_callC cS hr rfl (pa_cons (pv 0) (pa_cons (pv 2) pa_nil))) pa_nil)))))), ?_⟩
    have wr : (l = [] ∨ l.any (fun x => decide (1000 < x)) = true) → ∀ D, H D = none → Q (.ref D) (upd H D (.lst [.int (-22)])) := fun hw D hD => by
      refine ask pk k (an := .num (-22)) ?_ (same_new hD) upd_same
      show (if l = [] ∨ l.any (fun x => decide (1000 < x)) = true then _ else _) = _
      rw [if_pos hw]
    refine ⟨_, rfl, told, _, _, _, rfl, rfl, SqL.of ht, at_of (j := 0) rfl rfl, ?_⟩
    refine ⟨_, rfl, a, _, rfl, .inl (SqL.of haN), rfl, _, rfl, ?_⟩
    rw [nums_len, show decide (V.int (l.length : Int) = V.int 0) = decide (l.length = 0) from dec_len l.length 0]
    by_cases h0 : l = []
    · rw [show decide (l.length = 0) = true by rw [h0]; rfl]
      exact iteT (iteT ⟨one_le, wr (.inl h0)⟩)
    · have h0' : ¬ l.length = 0 := fun e => h0 (List.length_eq_zero_iff.mp e)
      rw [decide_eq_false h0']
      refine iteF ⟨_, rfl, a, cast l, rfl, SqL.of ha, by unfold cast; rw [List.length_map]; omega, fun m hm hb => ?_⟩
      refine ⟨_, _, rfl, rfl, _, rfl, ?_⟩
      have hany : decide ((1000 : Int) < m) = l.any (fun x => decide (1000 < x)) := by
        rw [Bool.eq_iff_iff, decide_eq_true_eq, List.any_eq_true]
        constructor
        · intro h
          obtain ⟨x, hx, rfl⟩ := List.mem_map.mp hm
          exact ⟨x, hx, decide_eq_true (by omega)⟩
        · rintro ⟨x, hx, hx2⟩
          have h1 := hb _ (List.mem_map.mpr ⟨x, hx, rfl⟩)
          have h2 := of_decide_eq_true hx2
          omega
      rw [hany]
      cases hA : l.any (fun x => decide (1000 < x)) with
      | true => exact iteT ⟨one_le, wr (.inr hA)⟩
      | false =>
        have hnw : ¬ (l = [] ∨ l.any (fun x => decide (1000 < x)) = true) := by rintro (q | q); exact h0 q; rw [hA] at q; cases q
        have hlow : low l := fun x hx => by
          rcases Nat.lt_or_ge 1000 x with q | q
          · have : l.any (fun x => decide (1000 < x)) = true := List.any_eq_true.mpr ⟨x, hx, decide_eq_true q⟩
            rw [hA] at this; cases this
          · exact q
        refine iteF ⟨_, rfl, _, rfl, a, _, rfl, .inl (SqL.of haN), B, y, N, l.length, by rw [nums_len]; rfl, pk, _, rfl, ?_⟩
        by_cases hd : y.done.length + l.length ≤ 3000
        · rw [decide_eq_true hd]
          refine iteF ⟨_, rfl, _, rfl, B, y, N, a, l, rfl, pk, hN, haN, hn a (by simp), h0, by omega, hlow, fun H1 A1 hq p1 so1 fr1 => ⟨one_le, fun D hD => ?_⟩⟩
          refine did k (y' := Kqb6.take_ y (Kqb6.reads y.left l) l.length) (an := .num ((Kqb6.take_ y (Kqb6.reads y.left l) l.length).done.length - y.done.length : Nat)) ?_ hq p1 so1 fr1 (same_new hD) ?_
          · show (if l = [] ∨ l.any (fun x => decide (1000 < x)) = true then _ else if Kqb6.DONE < y.done.length + l.length then _ else _) = _
            rw [if_neg hnw, if_neg (show ¬ Kqb6.DONE < y.done.length + l.length by show ¬ 3000 < _; omega)]
          · rw [upd_same]
            show _ = some (HO.lst [V.int (((y.done ++ (Kqb6.reads y.left l).2).length - y.done.length : Nat) : Int)])
            rw [len_left]
        · rw [decide_eq_false hd]
          refine iteT ⟨one_le, fun D hD => ?_⟩
          refine ask pk k (an := .num (-28)) ?_ (same_new hD) upd_same
          show (if l = [] ∨ l.any (fun x => decide (1000 < x)) = true then _ else if Kqb6.DONE < y.done.length + l.length then _ else _) = _
          rw [if_neg hnw, if_pos (show Kqb6.DONE < y.done.length + l.length by show 3000 < _; omega)]
/-! ### would -/
theorem scWould : FnScope ["pack", "told", "reading", "tried", "number_done"] ["pack", "told"] (defScope sWould) := ⟨rfl, rfl, rfl, by decide +kernel, rfl, by decide +kernel, by decide +kernel⟩
theorem ok_would {f CP C : Addr} {fd : FuncData} (n : Nat) (F : Fun K "would" "would" sWould f fd) (T : PTxt K CP) (G : GTxt mg) (cY : Cal P w K mg base "copy_of" 3 ["tally"] (spCopy C)) (cT : Cal P w K mg base "take_in" 4 ["tally", "table", "readings"] (spTake C))
    (cD : Cal P w K mg base "damage_of" 3 ["tally", "table"] (spDmgOf C)) : FnOk P w K mg base CX0 6 f fd ["pack", "told"] (spFn CP C (.would n) [(n : Int)] []) := by
  refine F.ok scWould (fun vs H Q E h => ?_) (fun cdv A outer s H vs Q E hr h => ?_)
  · obtain ⟨told, ps, N, A, y, rfl, _⟩ := h
    rfl
  · obtain ⟨told, ps, N, B, y, rfl, ht, hp, hn, pk, hN, k⟩ := h
    refine ⟨_, pss_cons (ps_set (i := 2) scWould.nd rfl (Or.inl rfl) (pe_ix ix_list (pv 1) pe_int (fun _ _ => rfl)))
      (pss_cons (ps_if (pt_cmpR op_gt (pv 2) (pe_g G.reading rfl) (nomark _)) (pss_one (ps_ret (pe_lst (pa_cons (pe_g G.wrong rfl) pa_nil)))) pss_nil)
      (pss_cons (ps_set (i := 3) scWould.nd rfl (Or.inl rfl) (pe_callC cY (hr.mono (by decide)) rfl (pa_cons (pe_fld (pv 0) rfl) pa_nil)))
      (pss_cons (ps_set (i := 4) scWould.nd rfl (Or.inl rfl) (pe_callC cT (hr.mono (by decide)) rfl (pa_cons (pv 3) (pa_cons (pe_fld (pv 0) rfl) (pa_cons (pe_lst (pa_cons (pv 2) pa_nil)) pa_nil)))))
      (pss_one (ps_ret (pe_lst (pa_cons (pe_callC cD (hr.mono (by decide)) rfl (pa_cons (pv 3) (pa_cons (pe_fld (pv 0) rfl) pa_nil))) (pa_cons (pv 4) pa_nil)))))))), ?_⟩
    refine ⟨_, rfl, told, _, _, _, rfl, rfl, SqL.of ht, at_of (j := 0) rfl rfl, _, rfl, _, _, rfl, rfl, _, rfl, ite2 (fun h => ⟨one_le, fun D hD => ?_⟩) (fun h => ?_)⟩
    · have h' : 1000 < n := by have := of_decide_eq_true h; omega
      refine ask pk k (an := .num (-22)) ?_ (same_new hD) upd_same
      show (some y, if 1000 < n then _ else _) = _
      rw [if_pos h']
    · have h' : ¬ 1000 < n := fun q => h (decide_eq_true (by omega))
      have hl : y.left.length + 2 * y.done.length ≤ N := pk.g.len
      have hline := line_big
      have rl := read_len y.left n
      refine ⟨_, rfl, B.q, CP, B.dq, _, _, rfl, pk.ins, T.cl, T.nY, pkY (C := C) (dq := C), B.cur, y.left, y.done, _, _, rfl, pk.cur, fun H1 z fr s1 t1 => ?_⟩
      have p1 := pk.same s1
      refine ⟨_, rfl, _, rfl, B.q, CP, B.dq, _, _, rfl, p1.ins, T.cl, T.nT, pkT (C := C) (dq := C), _, rfl, one_le, fun D0 hD0 => ?_⟩
      have s2 : Same H1 (upd H1 D0 (.lst [V.int (n : Int)])) := same_new hD0
      have tz : B.t ∉ z.fp := fun m => by
        obtain ⟨o, e⟩ := pk.has B.t (by simp [Adr.fp])
        rw [fr _ m] at e; cases e
      have dz : D0 ∉ z.fp := fun m => by
        obtain ⟨o, e⟩ := TlAt.has t1 D0 m
        rw [e] at hD0; cases hD0
      refine ⟨z, B.t, D0, y.left, y.done, [n], _, _, y.table, rfl, t1.same s2, (p1.same s2).tab, tz, upd_same, dz, by simp; omega, fun H2 so2 t2 => ?_⟩
      rw [reads_one] at t2 ⊢
      have sm : Same H H2 := fun b o e => so2 b o (s2 b o (s1 b o e)) fun m => by rw [fr b m] at e; cases e
      have p2 := pk.same sm
      refine ⟨_, rfl, _, rfl, B.q, CP, B.dq, _, _, rfl, p2.ins, T.cl, T.nT, pkT (C := C) (dq := C), z, B.t, _, _, _, _, y.table, rfl, t2, p2.tab, by omega, fun H3 s3 => ?_⟩
      refine ⟨_, rfl, two_le, fun D hD => ?_⟩
      refine ask pk k (an := .some_ (y.closed + Kqb6.damage y.table (y.done ++ (Kqb6.read y.left n).2) (Kqb6.read y.left n).1 : Nat) [(Kqb6.read y.left n).2.length]) ?_ (sm.trans (s3.trans (same_new hD))) ?_
      · show (some y, if 1000 < n then _ else _) = _
        rw [if_neg h']
      · rw [upd_same, damage_eq, List.map_append, sum_append]
        show some (HO.lst [V.int ((y.closed + 2 * Kqb6.sum (y.done.map (Kqb6.harm y.table)) + 2 * Kqb6.sum ((Kqb6.read y.left n).2.map (Kqb6.harm y.table)) + Kqb6.sum ((dif (Kqb6.read y.left n).1.reverse).map (Kqb6.harm y.table)) : Nat) : Int), V.int ((Kqb6.read y.left n).2.length : Int)]) =
          some (HO.lst [V.int ((y.closed + (2 * (Kqb6.sum (y.done.map (Kqb6.harm y.table)) + Kqb6.sum ((Kqb6.read y.left n).2.map (Kqb6.harm y.table))) + Kqb6.sum ((dif (Kqb6.read y.left n).1.reverse).map (Kqb6.harm y.table))) : Nat) : Int), V.int ((Kqb6.read y.left n).2.length : Int)])
        have e : y.closed + 2 * Kqb6.sum (y.done.map (Kqb6.harm y.table)) + 2 * Kqb6.sum ((Kqb6.read y.left n).2.map (Kqb6.harm y.table)) + Kqb6.sum ((dif (Kqb6.read y.left n).1.reverse).map (Kqb6.harm y.table)) =
          y.closed + (2 * (Kqb6.sum (y.done.map (Kqb6.harm y.table)) + Kqb6.sum ((Kqb6.read y.left n).2.map (Kqb6.harm y.table))) + Kqb6.sum ((dif (Kqb6.read y.left n).1.reverse).map (Kqb6.harm y.table))) := by omega
        rw [e]
/-! ### most -/
theorem scMost : FnScope ["pack", "told", "least", "size"] ["pack", "told"] (defScope sMost) := ⟨rfl, rfl, rfl, by decide +kernel, rfl, by decide +kernel, by decide +kernel⟩
theorem ok_most {f CP C : Addr} {fd : FuncData} (lo : Nat) (F : Fun K "most" "most" sMost f fd) (T : PTxt K CP) (TT : TTxt K C) (X : Txt mg) : FnOk P w K mg base CX0 6 f fd ["pack", "told"] (spFn CP C (.most lo) [(lo : Int)] []) := by
  refine F.ok scMost (fun vs H Q E h => ?_) (fun cdv A outer s H vs Q E hr h => ?_)
  · obtain ⟨told, ps, N, A, y, rfl, _⟩ := h
    rfl
  · obtain ⟨told, ps, N, B, y, rfl, ht, hp, hn, pk, hN, k⟩ := h
    refine ⟨_, pss_cons (ps_set (i := 2) scMost.nd rfl (Or.inr rfl) (pe_ix ix_list (pv 1) pe_int (fun _ _ => rfl)))
      (pss_one (ps_ret (pe_lst (pa_cons (pe_callB call_len_seq rfl X.len PySem.boot_len (pa_cons (pe_lc rfl scMost.nd (pi_list (pe_fld (pe_fld (pv 0) rfl) rfl)) (blkOk_by (own := [("size", 3)]) (show blkC ["pack", "told", "least", "size"] (defScope sMost) _ [("size", 3)] = true by decide +kernel))
      (fun _ _ _ _ _ => pg_name (i := 3) scMost.nd rfl (Or.inl rfl)) (fun _ _ _ _ _ => pts_one (pt_cmpR op_ge (pv 3) (pv 2) (nomark _))) (fun _ _ _ _ _ => pv 3)) pa_nil)) pa_nil)))), ?_⟩
    obtain ⟨dx, i0⟩ := pk.cur.ins
    have hl : y.left.length + 2 * y.done.length ≤ N := pk.g.len
    have hline := line_big
    have hdn : H B.cur.d = some (.lst (nums y.done)) := pk.cur.don
    refine ⟨_, rfl, told, _, _, _, rfl, rfl, SqL.of ht, at_of (j := 0) rfl rfl, _, rfl, B.q, CP, B.dq, _, _, rfl, pk.ins, T.cl, T.nY, pkY (C := C) (dq := C), B.cur.p, C, dx, _, _, rfl, i0, TT.cl, TT.nD, lkD (C := C) (dx := dx), B.cur.d, rfl, ⟨_, SqL.of hdn⟩, fun D hD => ?_⟩
    refine lc_list (K := K) (a := B.cur.d) (xs := nums y.done) (fun i H' => Same H H' ∧ H' D = some (.lst (nums ((y.done.take i).filter fun d => decide (lo ≤ d))))) ⟨same_new hD, upd_same⟩ (fun i H' _ ⟨sm, _⟩ => SqL.of (sm _ _ hdn)) (fun i v H' hi' ⟨sm, hD'⟩ => ?_) (fun H' ⟨sm, hD'⟩ => ?_)
    · obtain ⟨n, hn', rfl⟩ := nums_get' hi'
      refine ⟨rfl, ?_⟩
      have hfl : ((y.done.take i).filter fun d => decide (lo ≤ d)).length < sizeLine := by
        have h1 := List.length_filter_le (fun d => decide (lo ≤ d)) (y.done.take i)
        rw [List.length_take] at h1
        omega
      have e1 : decide ((lo : Int) ≤ (n : Int)) = decide (lo ≤ n) := by rw [Bool.eq_iff_iff, decide_eq_true_eq, decide_eq_true_eq]; omega
      rw [take_snoc hn', List.filter_append, List.filter_cons, List.filter_nil]
      refine ⟨_, rfl, _, rfl, _, _, rfl, rfl, _, rfl, ?_⟩
      rw [e1]
      cases h1 : decide (lo ≤ n) with
      | false =>
        refine iteF ⟨sm, ?_⟩
        rw [if_neg Bool.false_ne_true, List.append_nil]
        exact hD'
      | true =>
        refine iteT ⟨_, rfl, _, hD', by rw [nums_len]; exact hfl, same_upd sm hD, ?_⟩
        rw [if_pos rfl, upd_same, nums_app, nums_one]
    · rw [nums_len, List.take_length] at hD'
      refine ⟨D, _, rfl, .inl (SqL.of hD'), one_le, fun D2 hD2 => ?_⟩
      refine ask pk k (an := .num ((y.done.filter fun d => decide (lo ≤ d)).length)) rfl (sm.trans (same_new hD2)) ?_
      rw [upd_same, nums_len]
      rfl
/-! ### count -/
theorem scCount : FnScope ["pack", "told", "least", "top", "tally"] ["pack", "told"] (defScope sCount) := ⟨rfl, rfl, rfl, by decide +kernel, rfl, by decide +kernel, by decide +kernel⟩
theorem ok_count {f CP C : Addr} {fd : FuncData} (lo hi : Nat) (F : Fun K "count" "count" sCount f fd) (T : PTxt K CP) (TT : TTxt K C) (G : GTxt mg) (cB : Cal P w K mg base "number_between" 1 ["sizes", "least", "top"] spBtwn) (cH : Cal P w K mg base "half_swings" 1 ["row"] spHalf) :
    FnOk P w K mg base CX0 6 f fd ["pack", "told"] (spFn CP C (.count lo hi) [(lo : Int), (hi : Int)] []) := by
  refine F.ok scCount (fun vs H Q E h => ?_) (fun cdv A outer s H vs Q E hr h => ?_)
  · obtain ⟨told, ps, N, A, y, rfl, _⟩ := h
    rfl
  · obtain ⟨told, ps, N, B, y, rfl, ht, hp, hn, pk, hN, k⟩ := h
    refine ⟨_, pss_cons (ps_set (i := 2) scCount.nd rfl (Or.inl rfl) (pe_ix ix_list (pv 1) pe_int (fun _ _ => rfl)))
      (pss_cons (ps_set (i := 3) scCount.nd rfl (Or.inl rfl) (pe_ix ix_list (pv 1) pe_int (fun _ _ => rfl)))
      (pss_cons (ps_if (pt_cmpR op_lt (pv 3) (pv 2) (nomark _)) (pss_one (ps_ret (pe_lst (pa_cons (pe_g G.wrong rfl) pa_nil)))) pss_nil)
      (pss_cons (ps_set (i := 4) scCount.nd rfl (Or.inl rfl) (pe_fld (pv 0) rfl))
      (pss_one (ps_ret (pe_lst (pa_cons (pe_callC cB (hr.mono (by decide)) rfl (pa_cons (pe_fld (pv 4) rfl) (pa_cons (pv 2) (pa_cons (pv 3) pa_nil))))
        (pa_cons (pe_callC cB (hr.mono (by decide)) rfl (pa_cons (pe_callC cH (hr.mono (by decide)) rfl (pa_cons (pe_fld (pv 4) rfl) pa_nil)) (pa_cons (pv 2) (pa_cons (pv 3) pa_nil)))) pa_nil)))))))), ?_⟩
    obtain ⟨dx, i0⟩ := pk.cur.ins
    have hl : y.left.length + 2 * y.done.length ≤ N := pk.g.len
    have hline := line_big
    refine ⟨_, rfl, told, _, _, _, rfl, rfl, SqL.of ht, at_of (j := 0) rfl rfl, _, rfl, told, _, _, _, rfl, rfl, SqL.of ht, at_of (j := 1) rfl rfl, _, rfl, _, rfl, _, _, rfl, rfl, _, rfl, ite2 (fun h => ⟨one_le, fun D hD => ?_⟩) (fun h => ?_)⟩
    · have h' : hi < lo := by have := of_decide_eq_true h; omega
      refine ask pk k (an := .num (-22)) ?_ (same_new hD) upd_same
      show (some y, if hi < lo then _ else _) = _
      rw [if_pos h']
    · have h' : ¬ hi < lo := fun q => h (decide_eq_true (by omega))
      refine ⟨_, rfl, B.q, CP, B.dq, _, _, rfl, pk.ins, T.cl, T.nY, pkY (C := C) (dq := C), ?_⟩
      refine ⟨_, rfl, B.cur.p, C, dx, _, _, rfl, i0, TT.cl, TT.nD, lkD (C := C) (dx := dx), _, rfl, _, rfl, B.cur.d, y.done, lo, hi, rfl, pk.cur.don, by omega, fun H1 s1 => ?_⟩
      refine ⟨_, rfl, B.cur.p, C, dx, _, _, rfl, s1 _ _ i0, TT.cl, TT.nR, lkR (C := C) (dx := dx), B.cur.r, y.left, rfl, s1 _ _ pk.cur.row, by omega, fun H2 g hg s2 g2 => ?_⟩
      refine ⟨_, rfl, _, rfl, g, _, lo, hi, rfl, g2, by rw [dif_len, List.length_reverse]; omega, fun H3 s3 => ⟨two_le, fun D hD => ?_⟩⟩
      refine ask pk k (an := .some_ (y.done.filter fun d => decide (lo ≤ d) && decide (d ≤ hi)).length [((Kqb6.halves y.left).filter fun d => decide (lo ≤ d) && decide (d ≤ hi)).length]) ?_ (s1.trans (s2.trans (s3.trans (same_new hD)))) ?_
      · show (some y, if hi < lo then _ else _) = _
        rw [if_neg h']
      · rw [upd_same, ← halves_dif, List.filter_reverse, List.length_reverse]
        rfl
end
end Sw
namespace Sw
open PySem PySem.Spec PyProof.Rows L2
theorem nums_rep (n : Nat) (l : List Nat) : (List.replicate n (nums l)).flatten = nums (List.replicate n l).flatten := by
  induction n with
  | zero => rfl
  | succ n ih => rw [List.replicate_succ, List.replicate_succ, List.flatten_cons, List.flatten_cons, ih, nums_app]
theorem len_rep' (n : Nat) (l : List Nat) : (List.replicate n l).flatten.length = n * l.length := by
  induction n with
  | zero => rw [Nat.zero_mul]; rfl
  | succ n ih => rw [List.replicate_succ, List.flatten_cons, List.length_append, ih, Nat.succ_mul, Nat.add_comm]
theorem over1 (p l : List Nat) : Kqb6.over 1 p l = Kqb6.reads l p := by
  rw [over_reads]
  simp
theorem over2 (p l : List Nat) : Kqb6.over 2 p l = ((Kqb6.reads (Kqb6.reads l p).1 p).1, (Kqb6.reads l p).2 ++ (Kqb6.reads (Kqb6.reads l p).1 p).2) := by
  rw [over_reads, ← reads_app]
  simp [List.replicate]
section
variable {P : Program} {w : World} {K : PySem.W.Frag} {mg : Str → Option Value} {base : Heap}
/-! ### greatest -/
theorem scGreatest : FnScope ["pack", "told", "row", "sizes"] ["pack", "told"] (defScope sGreatest) := ⟨rfl, rfl, rfl, by decide +kernel, rfl, by decide +kernel, by decide +kernel⟩
theorem ok_greatest {f CP C : Addr} {fd : FuncData} (F : Fun K "greatest" "greatest" sGreatest f fd) (T : PTxt K CP) (TT : TTxt K C) (X : Txt mg) (G : GTxt mg) (cH : Cal P w K mg base "half_swings" 1 ["row"] spHalf) :
    FnOk P w K mg base CX0 6 f fd ["pack", "told"] (spFn CP C .greatest [] []) := by
  refine F.ok scGreatest (fun vs H Q E h => ?_) (fun cdv A outer s H vs Q E hr h => ?_)
  · obtain ⟨told, ps, N, A, y, rfl, _⟩ := h
    rfl
  · obtain ⟨told, ps, N, B, y, rfl, ht, hp, hn, pk, hN, k⟩ := h
    refine ⟨_, pss_cons (ps_set (i := 2) scGreatest.nd rfl (Or.inl rfl) (pe_fld (pe_fld (pv 0) rfl) rfl))
      (pss_cons (ps_if (pt_cmpR op_eq (pe_callB call_len_seq rfl X.len PySem.boot_len (pa_cons (pv 2) pa_nil)) pe_int (nomark _)) (pss_one (ps_ret (pe_lst (pa_cons (pe_g G.tell rfl) pa_nil)))) pss_nil)
      (pss_cons (ps_set (i := 3) scGreatest.nd rfl (Or.inl rfl) (pe_op op_cat (pe_fld (pe_fld (pv 0) rfl) rfl) (pe_callC cH (hr.mono (by decide)) rfl (pa_cons (pv 2) pa_nil))))
      (pss_one (ps_ret (pe_lst (pa_cons (pe_maxD rfl rfl X.max (pa_cons (pv 3) pa_nil) (pk_cons pe_int pk_nil)) (pa_cons (pe_callB (cr_max rfl) rfl X.max boot_max (pa_cons (pv 2) pa_nil)) (pa_cons (pe_callB (cr_min rfl) rfl X.min boot_min (pa_cons (pv 2) pa_nil)) pa_nil)))))))), ?_⟩
    obtain ⟨dx, i0⟩ := pk.cur.ins
    have hl : y.left.length + 2 * y.done.length ≤ N := pk.g.len
    have hline := line_big
    have hrow : H B.cur.r = some (.lst (nums y.left.reverse)) := pk.cur.row
    have hdon : H B.cur.d = some (.lst (nums y.done)) := pk.cur.don
    have hz : y.readings = 0 ↔ y.left = [] := pk.g.z
    refine ⟨_, rfl, B.q, CP, B.dq, _, _, rfl, pk.ins, T.cl, T.nY, pkY (C := C) (dq := C), B.cur.p, C, dx, _, _, rfl, i0, TT.cl, TT.nR, lkR (C := C) (dx := dx), ?_⟩
    refine ⟨_, rfl, B.cur.r, _, rfl, .inl (SqL.of hrow), rfl, _, rfl, ?_⟩
    rw [nums_len, List.length_reverse, show decide (V.int (y.left.length : Int) = V.int 0) = decide (y.left.length = 0) from dec_len y.left.length 0]
    by_cases h0 : y.left = []
    · rw [show decide (y.left.length = 0) = true by rw [h0]; rfl]
      refine iteT ⟨one_le, fun D hD => ?_⟩
      refine ask pk k (an := .num (-33)) ?_ (same_new hD) upd_same
      show (some y, if y.readings = 0 then _ else _) = _
      rw [if_pos (hz.mpr h0)]
    · have h0' : ¬ y.left.length = 0 := fun e => h0 (List.length_eq_zero_iff.mp e)
      rw [decide_eq_false h0']
      refine iteF ⟨_, rfl, B.q, CP, B.dq, _, _, rfl, pk.ins, T.cl, T.nY, pkY (C := C) (dq := C), B.cur.p, C, dx, _, _, rfl, i0, TT.cl, TT.nD, lkD (C := C) (dx := dx), _, rfl, B.cur.r, y.left, rfl, hrow, by omega, fun H1 g hg s1 g1 => ?_⟩
      refine ⟨B.cur.d, g, _, _, rfl, rfl, s1 _ _ hdon, g1, by rw [nums_len, nums_len, dif_len, List.length_reverse]; omega, fun D1 hD1 => ?_⟩
      rw [← nums_app]
      have s2 : Same H (upd H1 D1 (.lst (nums (y.done ++ dif y.left.reverse)))) := s1.trans (same_new hD1)
      have d2 : upd H1 D1 (.lst (nums (y.done ++ dif y.left.reverse))) D1 = some (.lst (nums (y.done ++ dif y.left.reverse))) := upd_same
      generalize upd H1 D1 (.lst (nums (y.done ++ dif y.left.reverse))) = H2 at *
      refine ⟨_, rfl, D1, (y.done ++ dif y.left.reverse).map fun n : Nat => (n : Int), 0, rfl, rfl, SqL.of (by rw [← nums_int]; exact d2), fun m hm => ?_⟩
      have em : m = (((y.done ++ Kqb6.halves y.left).foldl max 0 : Nat) : Int) := by
        refine max_is (l' := y.done ++ dif y.left.reverse) (z := 0) (fun x => ?_) ?_ rfl
        · rw [List.mem_append, List.mem_append, ← halves_dif, List.mem_reverse]
        · rcases hm with hm | ⟨hm, hm2⟩
          · exact .inl hm
          · exact .inr ⟨List.map_eq_nil_iff.mp hm, hm2⟩
      have r2 := s2 _ _ hrow
      have lpos : 0 < (y.left.reverse.map fun n : Nat => (n : Int)).length := by rw [List.length_map, List.length_reverse]; omega
      refine ⟨_, rfl, B.cur.r, y.left.reverse.map fun n : Nat => (n : Int), rfl, SqL.of (by rw [← nums_int]; exact r2), lpos, fun m1 hm1 hb1 => ?_⟩
      have em1 : m1 = ((y.left.foldl max 0 : Nat) : Int) := max_is (l' := y.left.reverse) (z := 0) (fun x => List.mem_reverse) (.inl ⟨hm1, hb1⟩) rfl
      refine ⟨_, rfl, B.cur.r, y.left.reverse.map fun n : Nat => (n : Int), rfl, SqL.of (by rw [← nums_int]; exact r2), lpos, fun m2 hm2 hb2 => ?_⟩
      have em2 : m2 = ((y.left.foldl min 1000 : Nat) : Int) := min_is (l' := y.left.reverse) (fun x => List.mem_reverse) pk.g.lo hm2 hb2
      refine ⟨(by show 3 ≤ sizeLine; rw [sizeLine_eq]; decide), fun D hD => ?_⟩
      refine ask pk k (an := .some_ (((y.done ++ Kqb6.halves y.left).foldl max 0 : Nat)) [y.left.foldl max 0, y.left.foldl min 1000]) ?_ (s2.trans (same_new hD)) ?_
      · show (some y, if y.readings = 0 then _ else _) = _
        rw [if_neg (fun q => h0 (hz.mp q))]
      · rw [upd_same, em, em1, em2]
        rfl
/-! ### again -/
theorem scAgain : FnScope ["pack", "told", "how_often", "row"] ["pack", "told"] (defScope sAgain) := ⟨rfl, rfl, rfl, by decide +kernel, rfl, by decide +kernel, by decide +kernel⟩
theorem ok_again {f CP C : Addr} {fd : FuncData} (n : Nat) (F : Fun K "again" "again" sAgain f fd) (T : PTxt K CP) (TT : TTxt K C) (X : Txt mg) (G : GTxt mg) (cR : Cal P w K mg base "has_room" 1 ["pack", "number"] (spRoom CP C)) (cS : Cal P w K mg base "come_as_step" 5 ["pack", "readings"] (spAsStep CP C)) :
    FnOk P w K mg base CX0 6 f fd ["pack", "told"] (spFn CP C (.again n) [(n : Int)] []) := by
  refine F.ok scAgain (fun vs H Q E h => ?_) (fun cdv A outer s H vs Q E hr h => ?_)
  · obtain ⟨told, ps, N, A, y, rfl, _⟩ := h
    rfl
  · obtain ⟨told, ps, N, B, y, rfl, ht, hp, hn, pk, hN, k⟩ := h
    refine ⟨_, pss_cons (ps_set (i := 2) scAgain.nd rfl (Or.inl rfl) (pe_ix ix_list (pv 1) pe_int (fun _ _ => rfl)))
      (pss_cons (ps_set (i := 3) scAgain.nd rfl (Or.inl rfl) (pe_fld (pe_fld (pv 0) rfl) rfl))
      (pss_cons (ps_if (PW.pt (pw_or (pt_cmpR op_lt (pv 2) pe_int (nomark _)) (pw_or1 (pt_cmpR op_gt (pv 2) (pe_g G.times rfl) (nomark _))))) (pss_one (ps_ret (pe_lst (pa_cons (pe_g G.wrong rfl) pa_nil)))) pss_nil)
      (pss_cons (ps_if (pt_cmpR op_eq (pe_callB call_len_seq rfl X.len PySem.boot_len (pa_cons (pv 3) pa_nil)) pe_int (nomark _)) (pss_one (ps_ret (pe_lst (pa_cons (pe_g G.there rfl) pa_nil)))) pss_nil)
      (pss_cons (ps_if (pt_not (pt_val (pe_callC cR (hr.mono (by decide)) rfl (pa_cons (pv 0) (pa_cons (pe_op op_mul (pv 2) (pe_callB call_len_seq rfl X.len PySem.boot_len (pa_cons (pv 3) pa_nil))) pa_nil))))) (pss_one (ps_ret (pe_lst (pa_cons (pe_g G.full rfl) pa_nil)))) pss_nil)
      (pss_one (ps_ret (pe_lst (pa_cons (pe_callC cS hr rfl (pa_cons (pv 0) (pa_cons (pe_op op_rep (pv 3) (pv 2)) pa_nil))) pa_nil)))))))), ?_⟩
    obtain ⟨dx, i0⟩ := pk.cur.ins
    have hl : y.left.length + 2 * y.done.length ≤ N := pk.g.len
    have hline := line_big
    have hrow : H B.cur.r = some (.lst (nums y.left.reverse)) := pk.cur.row
    have stp : Kqb6.step (some y) (.again n) = if n = 0 ∨ 20 < n then (some y, .num (-22)) else if y.left = [] then (some y, .num (-6)) else if Kqb6.DONE < y.done.length + n * y.left.length then (some y, .num (-28)) else
        (some (Kqb6.take_ y (Kqb6.over n y.left.reverse y.left) (n * y.left.length)), .num ((Kqb6.take_ y (Kqb6.over n y.left.reverse y.left) (n * y.left.length)).done.length - y.done.length : Nat)) := rfl
    have wr : (n = 0 ∨ 20 < n) → ∀ D, H D = none → Q (.ref D) (upd H D (.lst [.int (-22)])) := fun hw D hD => by
      refine ask pk k (an := .num (-22)) ?_ (same_new hD) upd_same
      rw [stp, if_pos hw]
    refine ⟨_, rfl, told, _, _, _, rfl, rfl, SqL.of ht, at_of (j := 0) rfl rfl, _, rfl, B.q, CP, B.dq, _, _, rfl, pk.ins, T.cl, T.nY, pkY (C := C) (dq := C), B.cur.p, C, dx, _, _, rfl, i0, TT.cl, TT.nR, lkR (C := C) (dx := dx), ?_⟩
    refine ⟨_, rfl, _, _, rfl, rfl, _, rfl, ite2 (fun h => iteT ⟨one_le, wr (.inl ?_)⟩) (fun h => ?_)⟩
    · have := of_decide_eq_true h; omega
    refine ⟨_, rfl, _, _, rfl, rfl, _, rfl, ite2 (fun h2 => ⟨one_le, wr (.inr ?_)⟩) (fun h2 => ?_)⟩
    · have := of_decide_eq_true h2; omega
    have n1 : 1 ≤ n := by
      rcases Nat.eq_zero_or_pos n with q | q
      · exact absurd (decide_eq_true (by omega)) h
      · exact q
    have n20 : n ≤ 20 := by
      rcases Nat.lt_or_ge 20 n with q | q
      · exact absurd (decide_eq_true (by omega)) h2
      · exact q
    have hnw : ¬ (n = 0 ∨ 20 < n) := by omega
    refine ⟨_, rfl, B.cur.r, _, rfl, .inl (SqL.of hrow), rfl, _, rfl, ?_⟩
    rw [nums_len, List.length_reverse, show decide (V.int (y.left.length : Int) = V.int 0) = decide (y.left.length = 0) from dec_len y.left.length 0]
    by_cases h0 : y.left = []
    · rw [show decide (y.left.length = 0) = true by rw [h0]; rfl]
      refine iteT ⟨one_le, fun D hD => ?_⟩
      refine ask pk k (an := .num (-6)) ?_ (same_new hD) upd_same
      rw [stp, if_neg hnw, if_pos h0]
    · have h0' : ¬ y.left.length = 0 := fun e => h0 (List.length_eq_zero_iff.mp e)
      rw [decide_eq_false h0']
      refine iteF ⟨_, rfl, _, rfl, _, rfl, B.cur.r, _, rfl, .inl (SqL.of hrow), _, _, rfl, rfl, .inl ⟨by omega, by omega⟩, B, y, N, n * y.left.length, ?_, pk, _, rfl, ?_⟩
      · show [V.ref B.q, V.int ((n : Int) * ((nums y.left.reverse).length : Int))] = [V.ref B.q, V.int ((n * y.left.length : Nat) : Int)]
        rw [nums_len, List.length_reverse]
        congr 3
      by_cases hd : y.done.length + n * y.left.length ≤ 3000
      · rw [decide_eq_true hd]
        refine iteF ⟨_, rfl, _, rfl, _, rfl, B.cur.r, (n : Int), _, rfl, rfl, hrow, by omega, by omega, ?_, fun D0 hD0 => ?_⟩
        · rw [nums_len, List.length_reverse, Int.toNat_natCast, Nat.mul_comm]; omega
        rw [Int.toNat_natCast, nums_rep]
        have rne : (List.replicate n y.left.reverse).flatten ≠ [] := fun e => by
          have h1 := len_rep' n y.left.reverse
          rw [e, List.length_reverse] at h1
          have h2 : 0 < n * y.left.length := Nat.mul_pos n1 (by omega)
          rw [← h1] at h2
          exact absurd h2 (Nat.lt_irrefl _)
        refine ⟨B, y, N, D0, (List.replicate n y.left.reverse).flatten, rfl, pk.same (same_new hD0), hN, upd_same, pk.new hD0, rne, by rw [len_rep', List.length_reverse]; omega, low_rep pk.g.lo n, fun H1 A1 hq p1 so1 fr1 => ⟨one_le, fun D hD => ?_⟩⟩
        rw [← over_reads, len_rep', List.length_reverse] at p1
        rw [← over_reads]
        refine did k (y' := Kqb6.take_ y (Kqb6.over n y.left.reverse y.left) (n * y.left.length)) (an := .num ((Kqb6.take_ y (Kqb6.over n y.left.reverse y.left) (n * y.left.length)).done.length - y.done.length : Nat)) ?_ hq p1 (so1.pre (same_new hD0)) (fun b m => (fr1 b m).imp id (same_new hD0).free) (same_new hD) ?_
        · rw [stp, if_neg hnw, if_neg h0, if_neg (show ¬ Kqb6.DONE < _ by show ¬ 3000 < _; omega)]
        · rw [upd_same]
          show _ = some (HO.lst [V.int (((y.done ++ (Kqb6.over n y.left.reverse y.left).2).length - y.done.length : Nat) : Int)])
          rw [len_left]
      · rw [decide_eq_false hd]
        refine iteT ⟨one_le, fun D hD => ?_⟩
        refine ask pk k (an := .num (-28)) ?_ (same_new hD) upd_same
        rw [stp, if_neg hnw, if_neg h0, if_pos (show Kqb6.DONE < _ by show 3000 < _; omega)]
/-! ### times -/
theorem scTimes : FnScope ["pack", "told", "row", "tried", "once"] ["pack", "told"] (defScope sTimes) := ⟨rfl, rfl, rfl, by decide +kernel, rfl, by decide +kernel, by decide +kernel⟩
theorem ok_times {f CP C : Addr} {fd : FuncData} (F : Fun K "times" "times" sTimes f fd) (T : PTxt K CP) (TT : TTxt K C) (X : Txt mg) (G : GTxt mg) (cY : Cal P w K mg base "copy_of" 3 ["tally"] (spCopy C)) (cT : Cal P w K mg base "take_in" 4 ["tally", "table", "readings"] (spTake C))
    (cD : Cal P w K mg base "damage_of" 3 ["tally", "table"] (spDmgOf C)) : FnOk P w K mg base CX0 6 f fd ["pack", "told"] (spFn CP C .times [] []) := by
  refine F.ok scTimes (fun vs H Q E h => ?_) (fun cdv A outer s H vs Q E hr h => ?_)
  · obtain ⟨told, ps, N, A, y, rfl, _⟩ := h
    rfl
  · obtain ⟨told, ps, N, B, y, rfl, ht, hp, hn, pk, hN, k⟩ := h
    refine ⟨_, pss_cons (ps_set (i := 2) scTimes.nd rfl (Or.inl rfl) (pe_fld (pe_fld (pv 0) rfl) rfl))
      (pss_cons (ps_if (pt_cmpR op_eq (pe_callB call_len_seq rfl X.len PySem.boot_len (pa_cons (pv 2) pa_nil)) pe_int (nomark _)) (pss_one (ps_ret (pe_lst (pa_cons (pe_g G.tell rfl) pa_nil)))) pss_nil)
      (pss_cons (ps_set (i := 3) scTimes.nd rfl (Or.inl rfl) (pe_callC cY (hr.mono (by decide)) rfl (pa_cons (pe_fld (pv 0) rfl) pa_nil)))
      (pss_cons (ps_expr (pe_callC cT (hr.mono (by decide)) rfl (pa_cons (pv 3) (pa_cons (pe_fld (pv 0) rfl) (pa_cons (pv 2) pa_nil)))))
      (pss_cons (ps_set (i := 4) scTimes.nd rfl (Or.inl rfl) (pe_callC cD (hr.mono (by decide)) rfl (pa_cons (pv 3) (pa_cons (pe_fld (pv 0) rfl) pa_nil))))
      (pss_cons (ps_expr (pe_callC cT (hr.mono (by decide)) rfl (pa_cons (pv 3) (pa_cons (pe_fld (pv 0) rfl) (pa_cons (pv 2) pa_nil)))))
      (pss_one (ps_ret (pe_lst (pa_cons (pv 4) (pa_cons (pe_callC cD (hr.mono (by decide)) rfl (pa_cons (pv 3) (pa_cons (pe_fld (pv 0) rfl) pa_nil))) pa_nil)))))))))), ?_⟩
    obtain ⟨dx, i0⟩ := pk.cur.ins
    have hl : y.left.length + 2 * y.done.length ≤ N := pk.g.len
    have hline : (8000000 : Nat) < sizeLine := by rw [sizeLine_eq]; decide
    have hrow : H B.cur.r = some (.lst (nums y.left.reverse)) := pk.cur.row
    refine ⟨_, rfl, B.q, CP, B.dq, _, _, rfl, pk.ins, T.cl, T.nY, pkY (C := C) (dq := C), B.cur.p, C, dx, _, _, rfl, i0, TT.cl, TT.nR, lkR (C := C) (dx := dx), ?_⟩
    refine ⟨_, rfl, B.cur.r, _, rfl, .inl (SqL.of hrow), rfl, _, rfl, ?_⟩
    rw [nums_len, List.length_reverse, show decide (V.int (y.left.length : Int) = V.int 0) = decide (y.left.length = 0) from dec_len y.left.length 0]
    by_cases h0 : y.left = []
    · rw [show decide (y.left.length = 0) = true by rw [h0]; rfl]
      refine iteT ⟨one_le, fun D hD => ?_⟩
      refine ask pk k (an := .num (-33)) ?_ (same_new hD) upd_same
      show (some y, if y.left = [] then _ else _) = _
      rw [if_pos h0]
    · have h0' : ¬ y.left.length = 0 := fun e => h0 (List.length_eq_zero_iff.mp e)
      rw [decide_eq_false h0']
      refine iteF ⟨_, rfl, B.q, CP, B.dq, _, _, rfl, pk.ins, T.cl, T.nY, pkY (C := C) (dq := C), B.cur, y.left, y.done, _, _, rfl, pk.cur, fun H1 z fr s1 t1 => ?_⟩
      have p1 := pk.same s1
      have zf : ∀ b, b ∈ B.fp → b ∉ z.fp := fun b m m2 => by
        obtain ⟨o, e⟩ := pk.has b m
        rw [fr _ m2] at e; cases e
      have tz : B.t ∉ z.fp := zf _ (by simp [Adr.fp])
      have rz : B.cur.r ∉ z.fp := zf _ (PkAt.cur_fp B _ (by simp [Tl.fp]))
      have rl1 := reads_len y.left.reverse y.left
      rw [List.length_reverse] at rl1
      refine ⟨_, rfl, _, rfl, B.q, CP, B.dq, _, _, rfl, p1.ins, T.cl, T.nT, pkT (C := C) (dq := C), _, rfl, z, B.t, B.cur.r, y.left, y.done, y.left.reverse, _, _, y.table, rfl, t1, p1.tab, tz, s1 _ _ hrow, rz, by rw [List.length_reverse]; omega, fun H2 so2 t2 => ?_⟩
      have sm2 : Same H H2 := fun b o e => so2 b o (s1 b o e) fun m => by rw [fr b m] at e; cases e
      have p2 := pk.same sm2
      refine ⟨_, rfl, _, rfl, B.q, CP, B.dq, _, _, rfl, p2.ins, T.cl, T.nT, pkT (C := C) (dq := C), z, B.t, _, _, _, _, y.table, rfl, t2, p2.tab, by omega, fun H3 s3 => ?_⟩
      have sm3 : Same H H3 := sm2.trans s3
      have p3 := pk.same sm3
      have rl2 := reads_len y.left.reverse (Kqb6.reads y.left y.left.reverse).1
      rw [List.length_reverse] at rl2
      refine ⟨_, rfl, _, rfl, B.q, CP, B.dq, _, _, rfl, p3.ins, T.cl, T.nT, pkT (C := C) (dq := C), _, rfl, z, B.t, B.cur.r, _, _, y.left.reverse, _, _, y.table, rfl, t2.same s3, p3.tab, tz, sm3 _ _ hrow, rz, by rw [List.length_reverse, List.length_append]; omega, fun H4 so4 t4 => ?_⟩
      have sm4 : Same H H4 := fun b o e => so4 b o (sm3 b o e) fun m => by rw [fr b m] at e; cases e
      have p4 := pk.same sm4
      refine ⟨_, rfl, _, rfl, _, rfl, B.q, CP, B.dq, _, _, rfl, p4.ins, T.cl, T.nT, pkT (C := C) (dq := C), z, B.t, _, _, _, _, y.table, rfl, t4, p4.tab, by omega, fun H5 s5 => ?_⟩
      refine ⟨two_le, fun D hD => ?_⟩
      refine ask pk k (an := .some_ (y.closed + Kqb6.damage y.table (y.done ++ (Kqb6.over 1 y.left.reverse y.left).2) (Kqb6.over 1 y.left.reverse y.left).1 : Nat) [y.closed + Kqb6.damage y.table (y.done ++ (Kqb6.over 2 y.left.reverse y.left).2) (Kqb6.over 2 y.left.reverse y.left).1]) ?_ (sm4.trans (s5.trans (same_new hD))) ?_
      · show (some y, if y.left = [] then _ else _) = _
        rw [if_neg h0]
      · rw [upd_same, over1, over2, damage_eq, damage_eq]
        generalize Kqb6.reads y.left y.left.reverse = R1
        generalize Kqb6.reads R1.1 y.left.reverse = R2
        show some (HO.lst [V.int _, V.int _]) = some (HO.lst [V.int _, V.int _])
        have e1 : y.closed + 2 * Kqb6.sum (y.done.map (Kqb6.harm y.table)) + 2 * Kqb6.sum (R1.2.map (Kqb6.harm y.table)) + Kqb6.sum ((dif R1.1.reverse).map (Kqb6.harm y.table)) = y.closed + (2 * Kqb6.sum ((y.done ++ R1.2).map (Kqb6.harm y.table)) + Kqb6.sum ((dif R1.1.reverse).map (Kqb6.harm y.table))) := by
          rw [List.map_append, sum_append]; omega
        have e2 : y.closed + 2 * Kqb6.sum (y.done.map (Kqb6.harm y.table)) + 2 * Kqb6.sum (R1.2.map (Kqb6.harm y.table)) + 2 * Kqb6.sum (R2.2.map (Kqb6.harm y.table)) + Kqb6.sum ((dif R2.1.reverse).map (Kqb6.harm y.table)) = y.closed + (2 * Kqb6.sum ((y.done ++ (R1.2 ++ R2.2)).map (Kqb6.harm y.table)) + Kqb6.sum ((dif R2.1.reverse).map (Kqb6.harm y.table))) := by
          rw [List.map_append, sum_append, List.map_append, sum_append]; omega
        rw [← e1, ← e2]
        rfl
end
end Sw
namespace Sw
open PySem PySem.Spec PyProof.Rows L2
theorem tab_new {H H' : Hp} {q t C dq : Addr} {fs : List (Str × V)} {rows : List Kqb6.Row} (hq : H q = some (.ins C dq fs)) (tab : TabAt H t rows) (so : SameOff [q] H H') : TabAt H' t rows := by
  obtain ⟨ps, h1, h2⟩ := tab
  refine TabAt.off ⟨ps, h1, h2⟩ so (by simp; exact ne_of h1 hq (by intro z; cases z)) fun b m ys e => ?_
  rw [List.mem_singleton.mp m, hq] at e; cases e
/-- a pack that has just been begun -/
theorem PkAt.fresh {CP C : Addr} {H0 H : Hp} {q dq t aS : Addr} {x : Tl} {lim : Nat} {rows : List Kqb6.Row} (hq : H q = some (packO CP dq true lim t x.p aS)) (tab : TabAt H t rows) (hs : H aS = some (.lst [])) (tx : TlAt C H x [] [] 0 0)
    (n1 : aS ≠ t) (n2 : aS ∉ x.fp) (n3 : ∀ b ∈ x.fp, b ≠ q ∧ b ≠ t) : PkAt CP C H 0 ⟨q, dq, t, aS, x, []⟩ ⟨rows, lim, [], [], 0, 0, []⟩ := by
  obtain ⟨ps, h1, h2⟩ := tab
  refine ⟨hq, ⟨ps, h1, h2⟩, hs, tx, .nil, ⟨n1, ne_of hq hs (by intro z; cases z), ne_of hq h1 (by intro z; cases z), ?_, ?_⟩, Nat.zero_le _, ⟨Nat.le_refl _, (fun x m => by cases m), ⟨fun _ => rfl, fun _ => rfl⟩⟩, fun e m => by cases m⟩
  · intro z mz b mb
    rw [List.mem_singleton.mp mz] at mb
    exact ⟨(n3 b mb).1, fun e => n2 (by rw [← (show b = aS from e)]; exact mb), (n3 b mb).2⟩
  · exact List.pairwise_singleton _ _
section
variable {P : Program} {w : World} {K : PySem.W.Frag} {mg : Str → Option Value} {base : Heap}
/-! ### undo -/
theorem scUndo : FnScope ["pack", "told"] ["pack", "told"] (defScope sUndo) := ⟨rfl, rfl, rfl, by decide +kernel, rfl, by decide +kernel, by decide +kernel⟩
theorem ok_undo {f CP C : Addr} {fd : FuncData} (F : Fun K "undo" "undo" sUndo f fd) (T : PTxt K CP) (X : Txt mg) (G : GTxt mg) : FnOk P w K mg base CX0 6 f fd ["pack", "told"] (spFn CP C .undo [] []) := by
  refine F.ok scUndo (fun vs H Q E h => ?_) (fun cdv A outer s H vs Q E hr h => ?_)
  · obtain ⟨told, ps, N, A, y, rfl, _⟩ := h
    rfl
  · obtain ⟨told, ps, N, B, y, rfl, ht, hp, hn, pk, hN, k⟩ := h
    refine ⟨_, pss_cons (ps_if (pt_cmpR op_eq (pe_callB call_len_seq rfl X.len PySem.boot_len (pa_cons (pe_fld (pv 0) rfl) pa_nil)) pe_int (nomark _)) (pss_one (ps_ret (pe_lst (pa_cons (pe_g G.there rfl) pa_nil)))) pss_nil)
      (pss_cons (ps_fld (pv 0) (pe_bm0 PySem.F.plainAttrs_list PySem.F.slot_list_pop PySem.F.type_list_pop mt_pop (pe_fld (pv 0) rfl)) rfl)
      (pss_one (ps_ret (pe_lst (pa_cons (pe_callB call_len_seq rfl X.len PySem.boot_len (pa_cons (pe_fld (pv 0) rfl) pa_nil)) pa_nil))))), ?_⟩
    refine ⟨_, rfl, B.q, CP, B.dq, _, _, rfl, pk.ins, T.cl, T.nP, pkP (C := C) (dq := C), B.aS, _, rfl, .inl (SqL.of pk.stp), rfl, _, rfl, ?_⟩
    rw [List.length_map, List.length_reverse, show decide (V.int (B.his.length : Int) = V.int 0) = decide (B.his.length = 0) from dec_len B.his.length 0]
    obtain ⟨q, dq, t, aS, cur, his⟩ := B
    obtain ⟨rows, lim, left, done, rd, cl, hist⟩ := y
    have hh : Paired (EnAt C rows H) his hist := pk.his
    cases hh with
    | nil =>
      refine iteT ⟨one_le, fun D hD => ?_⟩
      exact ask pk k (an := .num (-6)) rfl (same_new hD) upd_same
    | @cons z e hs es r tl =>
      refine iteF ?_
      obtain ⟨l', d', n', k'⟩ := e
      have hst : H aS = some (.lst ((z :: hs).reverse.map fun x => V.ref x.p)) := pk.stp
      have el : (z :: hs).reverse.map (fun x : Tl => V.ref x.p) = hs.reverse.map (fun x : Tl => V.ref x.p) ++ [V.ref z.p] := by rw [List.reverse_cons, List.map_append]; rfl
      rw [el] at hst
      have hq : H q = some (packO CP dq true lim t cur.p aS) := pk.ins
      have qs : q ≠ aS := pk.sep.qs
      refine ⟨_, rfl, q, CP, dq, _, _, rfl, hq, T.cl, T.nP, pkP (C := C) (dq := C), .inl ⟨rfl, _, SqL.of hst⟩, aS, _, V.ref z.p, rfl, rfl, hst, ?_, ?_⟩
      · rw [List.length_append]; simp
      rw [List.dropLast_concat]
      refine ⟨_, rfl, q, CP, dq, _, rfl, by rw [upd_ne qs]; exact hq, T.cl, T.nY, (by show 5 < 1000; decide), ?_⟩
      rw [putY]
      have so : SameOff [q, aS] H (upd (upd H aS (.lst (hs.reverse.map fun x : Tl => V.ref x.p))) q (packO CP dq true lim t z.p aS)) := ((SameOff.refl _ _).upd (.inl (by simp))).upd (.inl (by simp))
      have q2 : upd (upd H aS (.lst (hs.reverse.map fun x : Tl => V.ref x.p))) q (packO CP dq true lim t z.p aS) q = some (packO CP dq true lim t z.p aS) := upd_same
      have a2 : upd (upd H aS (.lst (hs.reverse.map fun x : Tl => V.ref x.p))) q (packO CP dq true lim t z.p aS) aS = some (.lst (hs.reverse.map fun x : Tl => V.ref x.p)) := by rw [upd_ne (fun e => qs e.symm), upd_same]
      rw [show (HO.ins CP dq [("started", V.bl true), ("limit", V.int (lim : Int)), ("table", V.ref t), ("tally", V.ref z.p), ("steps", V.ref aS)]) = packO CP dq true lim t z.p aS from rfl]
      generalize upd (upd H aS (.lst (hs.reverse.map fun x : Tl => V.ref x.p))) q (packO CP dq true lim t z.p aS) = H2 at *
      refine ⟨_, rfl, q, CP, dq, _, _, rfl, q2, T.cl, T.nP, pkP (C := C) (dq := C), aS, _, rfl, .inl (SqL.of a2), one_le, fun D hD => ?_⟩
      rw [List.length_map, List.length_reverse, Paired.length tl]
      have own := pk.sep.own
      have pw := List.pairwise_cons.mp pk.sep.pw
      have nf : ∀ x ∈ (z :: hs : List Tl), ∀ b ∈ x.fp, b ∉ [q, aS] := fun x mx b mb m => by
        have := own x (List.mem_cons_of_mem _ mx) b mb
        simp only [List.mem_cons, List.not_mem_nil, or_false] at m
        rcases m with e | e
        · exact this.1 e
        · exact this.2.1 e
      have p2 : PkAt CP C H2 N ⟨q, dq, t, aS, z, hs⟩ ⟨rows, lim, l', d', n', k', es⟩ := by
        refine ⟨q2, pk.tabOff so ?_ ?_, a2, TlAt.off r so (nf z (by simp)), Paired.impM tl fun x mx e he => TlAt.off he so (nf x (by simp [mx])), ⟨pk.sep.st, qs, pk.sep.qt, fun x mx => own x (List.mem_cons_of_mem _ mx), pw.2⟩, ?_, pk.gh (l', d', n', k') List.mem_cons_self, fun e m => pk.gh e (List.mem_cons_of_mem _ m)⟩
        · simp only [List.mem_cons, List.not_mem_nil, or_false]
          rintro (e | e)
          · exact pk.sep.qt e.symm
          · exact pk.sep.st e.symm
        · intro b m
          simp only [List.mem_cons, List.not_mem_nil, or_false] at m
          rcases m with e | e <;> simp [Adr.fp, e]
        · have := pk.hl
          simp only [List.length_cons] at this
          show es.length ≤ 20
          omega
      refine did k (A' := ⟨q, dq, t, aS, z, hs⟩) (y' := ⟨rows, lim, l', d', n', k', es⟩) (an := .num es.length) rfl rfl (p2.mono (by omega)) (so.mono ?_) ?_ (same_new hD) upd_same
      · intro b m
        simp only [List.mem_cons, List.not_mem_nil, or_false] at m
        rcases m with e | e <;> simp [Adr.fp, e]
      · intro b m
        left
        rcases Adr.fp_mem.mp m with e | e | e | e | ⟨x, mx, mb⟩
        · exact Adr.fp_mem.mpr (.inl e)
        · exact Adr.fp_mem.mpr (.inr (.inl e))
        · exact Adr.fp_mem.mpr (.inr (.inr (.inl e)))
        · exact Adr.fp_mem.mpr (.inr (.inr (.inr (.inr ⟨z, by simp, e⟩))))
        · exact Adr.fp_mem.mpr (.inr (.inr (.inr (.inr ⟨x, List.mem_cons_of_mem _ mx, mb⟩))))
/-! ### clear -/
theorem scClear : FnScope ["pack", "told", "number_done"] ["pack", "told"] (defScope sClear) := ⟨rfl, rfl, rfl, by decide +kernel, rfl, by decide +kernel, by decide +kernel⟩
theorem ok_clear {f CP C : Addr} {fd : FuncData} (F : Fun K "clear" "clear" sClear f fd) (T : PTxt K CP) (TT : TTxt K C) (X : Txt mg) (cF : Cal P w K mg base "forget" 3 ["pack"] (spForget CP C)) : FnOk P w K mg base CX0 6 f fd ["pack", "told"] (spFn CP C .clear [] []) := by
  refine F.ok scClear (fun vs H Q E h => ?_) (fun cdv A outer s H vs Q E hr h => ?_)
  · obtain ⟨told, ps, N, A, y, rfl, _⟩ := h
    rfl
  · obtain ⟨told, ps, N, B, y, rfl, ht, hp, hn, pk, hN, k⟩ := h
    refine ⟨_, pss_cons (ps_set (i := 2) scClear.nd rfl (Or.inl rfl) (pe_callB call_len_seq rfl X.len PySem.boot_len (pa_cons (pe_fld (pe_fld (pv 0) rfl) rfl) pa_nil)))
      (pss_cons (ps_expr (pe_callC cF (hr.mono (by decide)) rfl (pa_cons (pv 0) pa_nil)))
      (pss_one (ps_ret (pe_lst (pa_cons (pv 2) pa_nil))))), ?_⟩
    obtain ⟨dx, i0⟩ := pk.cur.ins
    refine ⟨_, rfl, B.q, CP, B.dq, _, _, rfl, pk.ins, T.cl, T.nY, pkY (C := C) (dq := C), B.cur.p, C, dx, _, _, rfl, i0, TT.cl, TT.nD, lkD (C := C) (dx := dx), B.cur.d, _, rfl, .inl (SqL.of pk.cur.don), ?_⟩
    refine ⟨_, rfl, B.q, B.dq, B.t, B.cur.p, B.aS, true, y.limit, rfl, pk.ins, fun H1 x aS' fr hS0 nS so q1 t1 a1 => ?_⟩
    refine ⟨_, rfl, one_le, fun D hD => ?_⟩
    have tab1 : TabAt H1 B.t y.table := tab_new pk.ins pk.tab so
    have hasT := pk.has B.t (by simp [Adr.fp])
    have hasQ := pk.has B.q (by simp [Adr.fp])
    have p1 : PkAt CP C H1 0 ⟨B.q, B.dq, B.t, aS', x, []⟩ ⟨y.table, y.limit, [], [], 0, 0, []⟩ := by
      refine PkAt.fresh (H0 := H) q1 tab1 a1 t1 (fun e => ?_) nS fun b m => ⟨fun e => ?_, fun e => ?_⟩
      · obtain ⟨o, ho⟩ := hasT
        rw [← e, hS0] at ho; cases ho
      · obtain ⟨o, ho⟩ := hasQ
        rw [← e, fr b m] at ho; cases ho
      · obtain ⟨o, ho⟩ := hasT
        rw [← e, fr b m] at ho; cases ho
    refine did k (A' := ⟨B.q, B.dq, B.t, aS', x, []⟩) (y' := ⟨y.table, y.limit, [], [], 0, 0, []⟩) (an := .num (y.done.length)) rfl rfl (p1.mono (by omega)) (so.mono (by simp [Adr.fp])) ?_ (same_new hD) ?_
    · intro b m
      rcases Adr.fp_mem.mp m with e | e | e | e | ⟨z, mz, mb⟩
      · exact .inl (Adr.fp_mem.mpr (.inl e))
      · exact .inr (by rw [e]; exact hS0)
      · exact .inl (Adr.fp_mem.mpr (.inr (.inr (.inl e))))
      · exact .inr (fr b e)
      · cases mz
    · rw [upd_same, nums_len]
      rfl
/-! ### close -/
theorem scClose : FnScope ["pack", "told", "tally", "sizes"] ["pack", "told"] (defScope sClose) := ⟨rfl, rfl, rfl, by decide +kernel, rfl, by decide +kernel, by decide +kernel⟩
theorem ok_close {f CP C : Addr} {fd : FuncData} (F : Fun K "close" "close" sClose f fd) (T : PTxt K CP) (TT : TTxt K C) (X : Txt mg) (G : GTxt mg) (cK : Cal P w K mg base "keep_step" 4 ["pack"] (spKeep CP C)) (cH : Cal P w K mg base "half_swings" 1 ["row"] spHalf) (cA : Cal P w K mg base "harm_of_all" 2 ["table", "sizes"] spHarmAll) :
    FnOk P w K mg base CX0 6 f fd ["pack", "told"] (spFn CP C .close [] []) := by
  refine F.ok scClose (fun vs H Q E h => ?_) (fun cdv A outer s H vs Q E hr h => ?_)
  · obtain ⟨told, ps, N, A, y, rfl, _⟩ := h
    rfl
  · obtain ⟨told, ps, N, B, y, rfl, ht, hp, hn, pk, hN, k⟩ := h
    refine ⟨_, pss_cons (ps_set (i := 2) scClose.nd rfl (Or.inl rfl) (pe_fld (pv 0) rfl))
      (pss_cons (ps_if (pt_cmpR op_eq (pe_callB call_len_seq rfl X.len PySem.boot_len (pa_cons (pe_fld (pv 2) rfl) pa_nil)) pe_int (nomark _)) (pss_one (ps_ret (pe_lst (pa_cons (pe_g G.there rfl) pa_nil)))) pss_nil)
      (pss_cons (ps_expr (pe_callC cK (hr.mono (by decide)) rfl (pa_cons (pv 0) pa_nil)))
      (pss_cons (ps_set (i := 3) scClose.nd rfl (Or.inl rfl) (pe_callC cH (hr.mono (by decide)) rfl (pa_cons (pe_fld (pv 2) rfl) pa_nil)))
      (pss_cons (ps_fldaug (pv 2) (pe_callC cA (hr.mono (by decide)) rfl (pa_cons (pe_fld (pv 0) rfl) (pa_cons (pv 3) pa_nil))) in_add)
      (pss_cons (ps_fld (pv 2) (pe_lst (pa_cons (pe_ix ix_list (pe_fld (pv 2) rfl) (pe_un un_neg pe_int) (fun _ _ => rfl)) pa_nil)) rfl)
      (pss_one (ps_ret (pe_lst (pa_cons (pe_callB call_len_seq rfl X.len PySem.boot_len (pa_cons (pv 3) pa_nil)) pa_nil))))))))), ?_⟩
    obtain ⟨dx, i0⟩ := pk.cur.ins
    have hl : y.left.length + 2 * y.done.length ≤ N := pk.g.len
    have hline := line_big
    have hrow : H B.cur.r = some (.lst (nums y.left.reverse)) := pk.cur.row
    refine ⟨_, rfl, B.q, CP, B.dq, _, _, rfl, pk.ins, T.cl, T.nY, pkY (C := C) (dq := C), ?_⟩
    refine ⟨_, rfl, B.cur.p, C, dx, _, _, rfl, i0, TT.cl, TT.nR, lkR (C := C) (dx := dx), B.cur.r, _, rfl, .inl (SqL.of hrow), rfl, _, rfl, ?_⟩
    rw [nums_len, List.length_reverse, show decide (V.int (y.left.length : Int) = V.int 0) = decide (y.left.length = 0) from dec_len y.left.length 0]
    by_cases h0 : y.left = []
    · rw [show decide (y.left.length = 0) = true by rw [h0]; rfl]
      refine iteT ⟨one_le, fun D hD => ?_⟩
      refine ask pk k (an := .num (-6)) ?_ (same_new hD) upd_same
      show (if y.left = [] then _ else _) = _
      rw [if_pos h0]
    · have h0' : ¬ y.left.length = 0 := fun e => h0 (List.length_eq_zero_iff.mp e)
      rw [decide_eq_false h0']
      refine iteF ⟨_, rfl, B, y, N, rfl, pk, fun H1 his p1 so1 fr1 => ?_⟩
      obtain ⟨dx1, i1⟩ := p1.cur.ins
      have row1 : H1 B.cur.r = some (.lst (nums y.left.reverse)) := p1.cur.row
      have don1 : H1 B.cur.d = some (.lst (nums y.done)) := p1.cur.don
      refine ⟨_, rfl, B.cur.p, C, dx1, _, _, rfl, i1, TT.cl, TT.nR, lkR (C := C) (dx := dx1), B.cur.r, y.left, rfl, row1, by omega, fun H2 g hg s2 g2 => ?_⟩
      have p2 := p1.same s2
      refine ⟨_, rfl, B.cur.p, C, dx1, _, _, rfl, s2 _ _ i1, TT.cl, TT.nH, lkH (C := C) (dx := dx1), _, rfl, B.q, CP, B.dq, _, _, rfl, p2.ins, T.cl, T.nT, pkT (C := C) (dq := C), _, rfl, B.t, g, y.table, _, rfl, p2.tab, g2, by rw [dif_len, List.length_reverse]; omega, fun H3 s3 => ?_⟩
      have i3 := s3 _ _ (s2 _ _ i1)
      refine ⟨_, _, rfl, rfl, dx1, _, i3, (by show 4 < 1000; decide), ?_⟩
      rw [putH]
      obtain ⟨b, l', hb⟩ : ∃ b l', y.left = b :: l' := by
        cases e : y.left with
        | nil => exact absurd e h0
        | cons b l' => exact ⟨b, l', rfl⟩
      have ct : TlAt C H1 B.cur y.left y.done y.readings (y.closed + 2 * Kqb6.sum (y.done.map (Kqb6.harm y.table))) := p1.cur
      have pr := ct.pr
      have pd := ct.pd
      have row3 : H3 B.cur.r = some (.lst (nums (b :: l').reverse)) := by rw [← hb]; exact s3 _ _ (s2 _ _ row1)
      have don3 := s3 _ _ (s2 _ _ don1)
      refine ⟨_, rfl, B.cur.p, C, dx1, _, _, rfl, upd_same, TT.cl, TT.nR, (lk_miss _ _ (by decide +kernel)).trans (lk_hit _ _ _), _, rfl, B.cur.r, _, _, _, rfl, rfl, SqL.of (by rw [upd_ne (fun e => pr e.symm)]; exact row3), atR (k := 0) (n := b) rfl rfl, one_le, fun r' hr' => ?_⟩
      have prn : B.cur.p ≠ r' := ne_of_none upd_same hr'
      have hr3 : H3 r' = none := by rw [upd_ne (fun e => prn e.symm)] at hr'; exact hr'
      refine ⟨_, rfl, B.cur.p, C, dx1, _, rfl, by rw [upd_ne prn, upd_same], TT.cl, TT.nR, (by show 4 < 1000; decide), ?_⟩
      rw [putF_miss _ _ _ (by decide +kernel), putF_hit]
      have gr' : g ≠ r' := ne_of_none (s3 _ _ g2) hr3
      have gp : g ≠ B.cur.p := fun e => by rw [e, i1] at hg; cases hg
      have dr' : B.cur.d ≠ r' := ne_of_none don3 hr3
      have r1n : H1 r' = none := (s2.trans s3).free hr3
      refine ⟨_, rfl, g, _, rfl, .inl (SqL.of (by rw [upd_ne gp, upd_ne gr', upd_ne gp]; exact s3 _ _ g2)), one_le, fun D hD => ?_⟩
      have eh : (((y.closed + 2 * Kqb6.sum (y.done.map (Kqb6.harm y.table)) : Nat) : Int) + ((Kqb6.sum ((dif y.left.reverse).map (Kqb6.harm y.table)) : Nat) : Int)) = ((y.closed + Kqb6.sum ((Kqb6.halves y.left).map (Kqb6.harm y.table)) + 2 * Kqb6.sum (y.done.map (Kqb6.harm y.table)) : Nat) : Int) := by
        rw [← halves_dif, List.map_reverse, sum_reverse]; omega
      have p5 : PkAt CP C (upd (upd (upd H3 B.cur.p (.ins C dx1 [("came", .int (y.readings : Int)), ("row", .ref B.cur.r), ("sizes_done", .ref B.cur.d), ("harm_kept", .int (((y.closed + 2 * Kqb6.sum (y.done.map (Kqb6.harm y.table)) : Nat) : Int) + ((Kqb6.sum ((dif y.left.reverse).map (Kqb6.harm y.table)) : Nat) : Int)))])) r' (.lst [.int (b : Int)])) B.cur.p (.ins C dx1 [("came", .int (y.readings : Int)), ("row", .ref r'), ("sizes_done", .ref B.cur.d), ("harm_kept", .int (((y.closed + 2 * Kqb6.sum (y.done.map (Kqb6.harm y.table)) : Nat) : Int) + ((Kqb6.sum ((dif y.left.reverse).map (Kqb6.harm y.table)) : Nat) : Int)))])) (N + 3000) { B with his := his, cur := ⟨B.cur.p, r', B.cur.d⟩ }
          { y with left := [y.left.headD 0], closed := y.closed + Kqb6.sum ((Kqb6.halves y.left).map (Kqb6.harm y.table)), history := (curE y :: y.history).take 20 } := by
        refine p1.turn (x' := ⟨B.cur.p, r', B.cur.d⟩) (e := ([y.left.headD 0], y.done, y.readings, y.closed + Kqb6.sum ((Kqb6.halves y.left).map (Kqb6.harm y.table)))) rfl ?_ ?_ ?_ ?_ (by omega)
        · intro c m
          simp only [Tl.fp, List.mem_cons, List.not_mem_nil, or_false] at m
          rcases m with e | e | e
          · exact .inl (by simp [Tl.fp, e])
          · exact .inr (by rw [e]; exact r1n)
          · exact .inl (by simp [Tl.fp, e])
        · exact (((SameOff.of (s2.trans s3)).upd (.inl (by simp [Tl.fp]))).upd (.inr r1n)).upd (.inl (by simp [Tl.fp]))
        · refine ⟨⟨dx1, ?_⟩, ?_, ?_, fun e => dr' e.symm⟩
          · rw [upd_same, eh]; rfl
          · show upd _ B.cur.p _ r' = some (.lst (nums [y.left.headD 0]))
            rw [upd_ne (fun e => prn e.symm), upd_same, hb]; rfl
          · show upd _ B.cur.p _ B.cur.d = some (.lst (nums y.done))
            rw [upd_ne (fun e => pd e.symm), upd_ne dr', upd_ne (fun e => pd e.symm)]; exact don3
        · refine ⟨?_, ?_, ?_⟩
          · show 1 + 2 * y.done.length ≤ N + 3000
            omega
          · intro v hv
            rw [List.mem_singleton.mp hv, hb]
            exact pk.g.lo b (by show b ∈ y.left; rw [hb]; simp)
          · have hz : y.readings = 0 ↔ y.left = [] := pk.g.z
            exact ⟨fun q => absurd (hz.mp q) h0, fun q => by cases q⟩
      refine did k (A' := { B with his := his, cur := ⟨B.cur.p, r', B.cur.d⟩ }) (y' := { y with left := [y.left.headD 0], closed := y.closed + Kqb6.sum ((Kqb6.halves y.left).map (Kqb6.harm y.table)), history := (curE y :: y.history).take 20 }) (an := .num (Kqb6.halves y.left).length) ?_ rfl p5 ?_ ?_ (same_new hD) ?_
      · show (if y.left = [] then _ else _) = _
        rw [if_neg h0]
        rfl
      · have c1 : ∀ b ∈ B.cur.fp, b ∈ B.fp := PkAt.cur_fp B
        have mp : B.cur.p ∈ B.fp := c1 _ (by simp [Tl.fp])
        have so4 : SameOff B.fp H H3 := (so1.mono (by simp [Adr.fp])).trans (SameOff.of (s2.trans s3))
        intro c o e n
        have hc := so4 c o e n
        have cp : c ≠ B.cur.p := fun q => n (by rw [q]; exact mp)
        rw [upd_ne cp, upd_ne (ne_of_none hc hr3), upd_ne cp]
        exact hc
      · intro c m
        rcases Adr.fp_mem.mp m with e | e | e | e | ⟨x, mx, mb⟩
        · exact .inl (Adr.fp_mem.mpr (.inl e))
        · exact .inl (Adr.fp_mem.mpr (.inr (.inl e)))
        · exact .inl (Adr.fp_mem.mpr (.inr (.inr (.inl e))))
        · simp only [Tl.fp, List.mem_cons, List.not_mem_nil, or_false] at e
          rcases e with e | e | e
          · exact .inl (Adr.fp_mem.mpr (.inr (.inr (.inr (.inl (by simp [Tl.fp, e]))))))
          · by_cases m2 : c = B.aS
            · exact .inl (Adr.fp_mem.mpr (.inr (.inl m2)))
            · exact .inr (so1.free (by simp; exact m2) (by rw [e]; exact r1n))
          · exact .inl (Adr.fp_mem.mpr (.inr (.inr (.inr (.inl (by simp [Tl.fp, e]))))))
        · exact fr1 x mx c mb
      · rw [upd_same, nums_len, ← halves_dif, List.length_reverse]
        rfl
end
end Sw
namespace Sw
open PySem PySem.Spec PyProof.Rows L2
abbrev sAnswer : Stmt := top 63
abbrev sAnswers : Stmt := top 64
theorem putS (b st : Bool) (lim : Nat) (t p aS : Addr) : putF "started" (V.bl b) [("started", V.bl st), ("limit", V.int (lim : Int)), ("table", V.ref t), ("tally", V.ref p), ("steps", V.ref aS)] = ([("started", V.bl b), ("limit", V.int (lim : Int)), ("table", V.ref t), ("tally", V.ref p), ("steps", V.ref aS)] : List (Str × V)) := by
  rw [putF_hit]
theorem putL (st : Bool) (lim l : Nat) (t p aS : Addr) : putF "limit" (V.int (l : Int)) [("started", V.bl st), ("limit", V.int (lim : Int)), ("table", V.ref t), ("tally", V.ref p), ("steps", V.ref aS)] = ([("started", V.bl st), ("limit", V.int (l : Int)), ("table", V.ref t), ("tally", V.ref p), ("steps", V.ref aS)] : List (Str × V)) := by
  rw [putF_miss _ _ _ (by decide +kernel), putF_hit]
theorem putT (st : Bool) (lim : Nat) (t u p aS : Addr) : putF "table" (V.ref u) [("started", V.bl st), ("limit", V.int (lim : Int)), ("table", V.ref t), ("tally", V.ref p), ("steps", V.ref aS)] = ([("started", V.bl st), ("limit", V.int (lim : Int)), ("table", V.ref u), ("tally", V.ref p), ("steps", V.ref aS)] : List (Str × V)) := by
  rw [putF_miss _ _ _ (by decide +kernel), putF_miss _ _ _ (by decide +kernel), putF_hit]
def begun (l : Nat) (f h : List Nat) : Kqb6.State := ⟨(f.zip h).map fun p => ⟨p.1, p.2⟩, l, [], [], 0, 0, []⟩
def spStart (CP C : Addr) (l : Nat) (f h : List Nat) : Sp := fun vs H Q _ => ∃ (q told dq t p aS : Addr) (ps : List Addr) (st : Bool) (lim : Nat), vs = [.ref q, .ref told] ∧ H told = some (.lst (iv [(l : Int)] ++ ps.map V.ref)) ∧ RowsP H ps [cast f, cast h] ∧ H q = some (packO CP dq st lim t p aS) ∧
  ((l = 0 ∨ 10000000 < l ∨ Kqb6.okTable f h = false) → ∀ (H' : Hp) (D : Addr), Same H H' → H' D = some (.lst [.int (-22)]) → Q (.ref D) H') ∧
  (¬ (l = 0 ∨ 10000000 < l ∨ Kqb6.okTable f h = false) → ∀ (H' : Hp) (A' : Adr) (D : Addr), A'.q = q → PkAt CP C H' 0 A' (begun l f h) → SameOff [q] H H' → (∀ b ∈ A'.fp, b = q ∨ H b = none) → H' D = some (.lst [.int 0]) → Q (.ref D) H')
/-- a pack, started or not -/
def StAt (CP C : Addr) (H : Hp) (N : Nat) (q : Addr) (F : List Addr) : Option Kqb6.State → Prop
  | none => (∃ dq t p aS, H q = some (packO CP dq false 0 t p aS)) ∧ F = [q]
  | some y => ∃ A, PkAt CP C H N A y ∧ A.q = q ∧ F = A.fp
def spAnswer (CP C : Addr) : Sp := fun vs H Q _ => ∃ (q told : Addr) (p : Int) (as : List Int) (xs : List (List Int)) (x : Kqb6.Call) (ps F : List Addr) (N : Nat) (s : Option Kqb6.State), vs = [.ref q, .int p, .ref told] ∧ CallIs p as xs x ∧
  H told = some (.lst (iv as ++ ps.map V.ref)) ∧ RowsP H ps xs ∧ (∀ b ∈ ps, b ∉ F) ∧ StAt CP C H N q F s ∧ N ≤ 600000 ∧
  ∀ (H' : Hp) (F' : List Addr) (D : Addr), StAt CP C H' (N + 3000) q F' (Kqb6.step s x).1 → SameOff F H H' → (∀ b ∈ F', b ∈ F ∨ H b = none) → H' D = some (.lst (iv (Kqb6Neutral.tell (Kqb6.step s x).2))) → Q (.ref D) H'
theorem StAt.q_mem {CP C q : Addr} {H : Hp} {N : Nat} {F : List Addr} {s : Option Kqb6.State} (h : StAt CP C H N q F s) : q ∈ F := by
  cases s with
  | none => rw [h.2]; simp
  | some y =>
    obtain ⟨A, _, e, e2⟩ := h
    rw [e2, ← e]; simp [Adr.fp]
theorem StAt.pack {CP C q : Addr} {H : Hp} {N : Nat} {F : List Addr} {s : Option Kqb6.State} (h : StAt CP C H N q F s) : ∃ dq t p aS st lim, H q = some (packO CP dq st lim t p aS) := by
  cases s with
  | none => obtain ⟨⟨dq, t, p, aS, e⟩, _⟩ := h; exact ⟨_, _, _, _, _, _, e⟩
  | some y =>
    obtain ⟨A, p, e, e2⟩ := h
    rw [← e]; exact ⟨_, _, _, _, _, _, p.ins⟩
theorem StAt.has {CP C q : Addr} {H : Hp} {N : Nat} {F : List Addr} {s : Option Kqb6.State} (h : StAt CP C H N q F s) : ∀ b ∈ F, ∃ o, H b = some o := by
  cases s with
  | none =>
    obtain ⟨⟨dq, t, p, aS, e⟩, e2⟩ := h
    intro b m
    rw [e2] at m
    rw [List.mem_singleton.mp m]
    exact ⟨_, e⟩
  | some y =>
    obtain ⟨A, p, e, e2⟩ := h
    rw [e2]; exact p.has
theorem StAt.off {CP C q : Addr} {H H' : Hp} {N M : Nat} {S F : List Addr} {s : Option Kqb6.State} (h : StAt CP C H N q F s) (so : SameOff S H H') (n : ∀ b ∈ S, b ∉ F) (nt : ∀ b ∈ S, ∀ ys, H b ≠ some (.tup ys)) (hN : N ≤ M) : StAt CP C H' M q F s := by
  cases s with
  | none =>
    obtain ⟨⟨dq, t, p, aS, e⟩, e2⟩ := h
    exact ⟨⟨dq, t, p, aS, so _ _ e fun m => n q m (by rw [e2]; simp)⟩, e2⟩
  | some y =>
    obtain ⟨A, p, e, rfl⟩ := h
    have nn : ∀ b ∈ A.fp, b ∉ S := fun b m m2 => n b m2 m
    have nx : ∀ x ∈ A.cur :: A.his, ∀ b ∈ x.fp, b ∉ S := fun x mx b mb => nn b (by
      rcases List.mem_cons.mp mx with rfl | mx
      · exact PkAt.cur_fp A b mb
      · exact PkAt.his_fp A mx b mb)
    exact ⟨A, ⟨so _ _ p.ins (nn _ (by simp [Adr.fp])), p.tab.off so (nn _ (by simp [Adr.fp])) nt, so _ _ p.stp (nn _ (by simp [Adr.fp])), TlAt.off p.cur so (nx _ (by simp)), Paired.impM p.his fun x mx e he => TlAt.off he so (nx x (by simp [mx])), p.sep, p.hl, p.g.mono hN, fun e m => (p.gh e m).mono hN⟩, e, rfl⟩
theorem call_split {p : Int} {as : List Int} {xs : List (List Int)} {x : Kqb6.Call} (h : CallIs p as xs x) : (∃ (l : Nat) (f g : List Nat), f.length ≤ 60 ∧ g.length ≤ 60 ∧ p = 0 ∧ as = [(l : Int)] ∧ xs = [cast f, cast g] ∧ x = .start l f g) ∨ (p ≠ 0 ∧ Kqb6.step none x = (none, .num (-11))) := by
  cases h with
  | start l f g hf hg => exact .inl ⟨l, f, g, hf, hg, rfl, rfl, rfl, rfl⟩
  | read x => exact .inr ⟨by decide, rfl⟩
  | reads l hl => exact .inr ⟨by decide, rfl⟩
  | left => exact .inr ⟨by decide, rfl⟩
  | done => exact .inr ⟨by decide, rfl⟩
  | halves => exact .inr ⟨by decide, rfl⟩
  | harm n => exact .inr ⟨by decide, rfl⟩
  | damage => exact .inr ⟨by decide, rfl⟩
  | life => exact .inr ⟨by decide, rfl⟩
  | would x => exact .inr ⟨by decide, rfl⟩
  | most n => exact .inr ⟨by decide, rfl⟩
  | count a b => exact .inr ⟨by decide, rfl⟩
  | greatest => exact .inr ⟨by decide, rfl⟩
  | again n => exact .inr ⟨by decide, rfl⟩
  | times => exact .inr ⟨by decide, rfl⟩
  | undo => exact .inr ⟨by decide, rfl⟩
  | clear => exact .inr ⟨by decide, rfl⟩
  | close => exact .inr ⟨by decide, rfl⟩
  | state => exact .inr ⟨by decide, rfl⟩
section
variable {P : Program} {w : World} {K : PySem.W.Frag} {mg : Str → Option Value} {base : Heap}
/-! ### start -/
theorem scStart : FnScope ["pack", "told", "limit", "froms", "harms"] ["pack", "told"] (defScope sStart) := ⟨rfl, rfl, rfl, by decide +kernel, rfl, by decide +kernel, by decide +kernel⟩
theorem ok_start {fa CP C : Addr} {fd : FuncData} (l : Nat) (f h : List Nat) (hf : f.length ≤ 60) (hh : h.length ≤ 60) (F : Fun K "start" "start" sStart fa fd) (T : PTxt K CP) (G : GTxt mg) (cI : Cal P w K mg base "is_table" 2 ["froms", "harms"] spIsTab) (cM : Cal P w K mg base "make_table" 1 ["froms", "harms"] spMkTab)
    (cF : Cal P w K mg base "forget" 3 ["pack"] (spForget CP C)) : FnOk P w K mg base CX0 6 fa fd ["pack", "told"] (spStart CP C l f h) := by
  refine F.ok scStart (fun vs H Q E h => ?_) (fun cdv A outer s H vs Q E hr hsp => ?_)
  · obtain ⟨q, told, dq, t, p, aS, ps, st, lim, rfl, _⟩ := h
    rfl
  · obtain ⟨q, told, dq, t, p, aS, ps, st, lim, rfl, ht, hp, hq, kno, kyes⟩ := hsp
    obtain ⟨a, b, rfl, ha, hb⟩ : ∃ a b, ps = [a, b] ∧ H a = some (.lst (iv (cast f))) ∧ H b = some (.lst (iv (cast h))) := by
      cases hp with
      | cons r t =>
        cases t with
        | cons r2 t2 => cases t2; exact ⟨_, _, rfl, r, r2⟩
    rw [iv_cast] at ha hb
    refine ⟨_, pss_cons (ps_set (i := 2) scStart.nd rfl (Or.inl rfl) (pe_ix ix_list (pv 1) pe_int (fun _ _ => rfl)))
      (pss_cons (ps_set (i := 3) scStart.nd rfl (Or.inl rfl) (pe_ix ix_list (pv 1) pe_int (fun _ _ => rfl)))
      (pss_cons (ps_set (i := 4) scStart.nd rfl (Or.inl rfl) (pe_ix ix_list (pv 1) pe_int (fun _ _ => rfl)))
      (pss_cons (ps_if (PW.pt (pw_or (pt_cmpR op_lt (pv 2) pe_int (nomark _)) (pw_or (pt_cmpR op_gt (pv 2) (pe_g G.limit rfl) (nomark _)) (pw_or1 (pt_not (pt_val (pe_callC cI (hr.mono (by decide)) rfl (pa_cons (pv 3) (pa_cons (pv 4) pa_nil)))))))))
        (pss_one (ps_ret (pe_lst (pa_cons (pe_g G.wrong rfl) pa_nil)))) pss_nil)
      (pss_cons (ps_fld (pv 0) pe_bl rfl) (pss_cons (ps_fld (pv 0) (pv 2) rfl) (pss_cons (ps_fld (pv 0) (pe_callC cM (hr.mono (by decide)) rfl (pa_cons (pv 3) (pa_cons (pv 4) pa_nil))) rfl)
      (pss_cons (ps_expr (pe_callC cF (hr.mono (by decide)) rfl (pa_cons (pv 0) pa_nil))) (pss_one (ps_ret (pe_lst (pa_cons pe_int pa_nil))))))))))), ?_⟩
    have hline := line_big
    refine ⟨_, rfl, told, _, _, _, rfl, rfl, SqL.of ht, at_of (j := 0) rfl rfl, _, rfl, told, _, _, _, rfl, rfl, SqL.of ht, at_of (j := 1) rfl rfl, _, rfl, told, _, _, _, rfl, rfl, SqL.of ht, at_of (j := 2) rfl rfl, ?_⟩
    refine ⟨_, rfl, _, _, rfl, rfl, _, rfl, ite2 (fun h1 => iteT ⟨one_le, fun D hD => kno (.inl ?_) _ D (same_new hD) upd_same⟩) (fun h1 => ?_)⟩
    · have := of_decide_eq_true h1; omega
    refine ⟨_, rfl, _, _, rfl, rfl, _, rfl, ite2 (fun h2 => iteT ⟨one_le, fun D hD => kno (.inr (.inl ?_)) _ D (same_new hD) upd_same⟩) (fun h2 => ?_)⟩
    · have := of_decide_eq_true h2; omega
    refine ⟨_, rfl, _, rfl, a, b, f, h, rfl, ha, hb, by omega, by omega, fun H1 s1 => ⟨_, rfl, ?_⟩⟩
    cases hok : Kqb6.okTable f h with
    | false => exact iteT ⟨one_le, fun D hD => kno (.inr (.inr hok)) _ D (s1.trans (same_new hD)) upd_same⟩
    | true =>
      have l1 : ¬ l = 0 := fun e => h1 (decide_eq_true (by omega))
      have l2 : ¬ 10000000 < l := fun e => h2 (decide_eq_true (by omega))
      have hyes : ¬ (l = 0 ∨ 10000000 < l ∨ Kqb6.okTable f h = false) := by
        rintro (e | e | e)
        · exact l1 e
        · exact l2 e
        · rw [hok] at e; cases e
      have hsz : ¬ (f.length < 1 ∨ 8 < f.length ∨ f.length ≠ h.length) := fun n => by rw [okTable_no f h n] at hok; cases hok
      have hfl : f.length = h.length := Classical.byContradiction fun e => hsz (.inr (.inr e))
      have hf0 : 0 < f.length := by omega
      have mq : q ∈ [q] ∨ H q = none := .inl (by simp)
      refine iteF ⟨_, rfl, q, CP, dq, _, rfl, s1 _ _ hq, T.cl, T.nS, (by show 5 < 1000; decide), ?_⟩
      rw [putS]
      refine ⟨_, rfl, _, rfl, q, CP, dq, _, rfl, upd_same, T.cl, T.nL, (by show 5 < 1000; decide), ?_⟩
      rw [upd_upd, putL]
      have qa : a ≠ q := ne_of ha hq (by intro z; cases z)
      have qb : b ≠ q := ne_of hb hq (by intro z; cases z)
      have so3 : SameOff [q] H (upd H1 q (packO CP dq true l t p aS)) := (SameOff.of s1).upd mq
      have q3 : upd H1 q (packO CP dq true l t p aS) q = some (packO CP dq true l t p aS) := upd_same
      rw [show (HO.ins CP dq [("started", V.bl true), ("limit", V.int (l : Int)), ("table", V.ref t), ("tally", V.ref p), ("steps", V.ref aS)]) = packO CP dq true l t p aS from rfl]
      generalize upd H1 q (packO CP dq true l t p aS) = H3 at *
      refine ⟨_, rfl, _, rfl, a, b, f, h, rfl, so3 _ _ ha (by simp; exact qa), so3 _ _ hb (by simp; exact qb), hfl, hf0, fun H4 u hu s4 tab4 => ?_⟩
      have q4 := s4 _ _ q3
      refine ⟨_, rfl, q, CP, dq, _, rfl, q4, T.cl, T.nT, (by show 5 < 1000; decide), ?_⟩
      rw [putT]
      have uq : u ≠ q := fun e => by rw [e, q3] at hu; cases hu
      have u0 : H u = none := so3.free (by simp; exact uq) hu
      have so5' : SameOff [q] H4 (upd H4 q (packO CP dq true l u p aS)) := (SameOff.refl _ _).upd (.inl (by simp))
      have so5 : SameOff [q] H (upd H4 q (packO CP dq true l u p aS)) := (so3.trans (SameOff.of s4)).upd mq
      have q5 : upd H4 q (packO CP dq true l u p aS) q = some (packO CP dq true l u p aS) := upd_same
      have tab5 : TabAt (upd H4 q (packO CP dq true l u p aS)) u ((f.zip h).map fun z => ⟨z.1, z.2⟩) := tab_new q4 tab4 so5'
      rw [show (HO.ins CP dq [("started", V.bl true), ("limit", V.int (l : Int)), ("table", V.ref u), ("tally", V.ref p), ("steps", V.ref aS)]) = packO CP dq true l u p aS from rfl]
      generalize upd H4 q (packO CP dq true l u p aS) = H5 at *
      obtain ⟨us, tab5a, tab5b⟩ := id tab5
      refine ⟨_, rfl, q, dq, u, p, aS, true, l, rfl, q5, fun H6 x aS' fr hS0 nS so6 q6 t6 a6 => ⟨one_le, fun D hD => ?_⟩⟩
      have tab6 := tab_new q5 tab5 so6
      have Su : aS' ≠ u := fun e => by rw [e, tab5a] at hS0; cases hS0
      have Sq : aS' ≠ q := fun e => by rw [e, q5] at hS0; cases hS0
      have xq : ∀ c ∈ x.fp, c ≠ q ∧ c ≠ u := fun c m => ⟨(fun e => by have := fr c m; rw [e, q5] at this; cases this), (fun e => by have := fr c m; rw [e, tab5a] at this; cases this)⟩
      have p6 : PkAt CP C H6 0 ⟨q, dq, u, aS', x, []⟩ (begun l f h) := PkAt.fresh (H0 := H) q6 tab6 a6 t6 Su nS xq
      refine kyes hyes _ ⟨q, dq, u, aS', x, []⟩ D rfl (p6.same (same_new hD)) ((so5.trans so6).trans (SameOff.of (same_new hD))) (fun c m => ?_) upd_same
      rcases Adr.fp_mem.mp m with e | e | e | e | ⟨z, mz, mb⟩
      · exact .inl e
      · exact .inr (by rw [e]; exact so5.free (by simp; exact Sq) hS0)
      · exact .inr (by rw [e]; exact u0)
      · exact .inr (so5.free (by simp; exact (xq c e).1) (fr c e))
      · cases mz
/-! ### answer_call -/
structure CTab (P : Program) (w : World) (K : PySem.W.Frag) (mg : Str → Option Value) (base : Heap) (CP C : Addr) : Prop where
  ex : ∃ (a : Addr) (f : Int → Option Value), IsG mg "CALLS" (.ref a) ∧ ModD K a f ∧
    (∀ (l : Nat) (g h : List Nat), g.length ≤ 60 → h.length ≤ 60 → ∃ fa fd, f 0 = some (.ref fa) ∧ PySem.W.keepIn K (.ref fa) = true ∧ Binds K fd ["pack", "told"] [] ∧ FnOk P w K mg base CX0 6 fa fd ["pack", "told"] (spStart CP C l g h)) ∧
    (∀ p as xs x, CallIs p as xs x → p ≠ 0 → ∃ fa fd, f p = some (.ref fa) ∧ PySem.W.keepIn K (.ref fa) = true ∧ Binds K fd ["pack", "told"] [] ∧ FnOk P w K mg base CX0 6 fa fd ["pack", "told"] (spFn CP C x as xs))
theorem scAnswer : FnScope ["pack", "number", "told", "call"] ["pack", "number", "told"] (defScope sAnswer) := ⟨rfl, rfl, rfl, by decide +kernel, rfl, by decide +kernel, by decide +kernel⟩
theorem ok_answer {fa CP C : Addr} {fd : FuncData} (F : Fun K "answer_call" "answer_call" sAnswer fa fd) (T : PTxt K CP) (G : GTxt mg) (cs : CTab P w K mg base CP C) : FnOk P w K mg base CX0 7 fa fd ["pack", "number", "told"] (spAnswer CP C) := by
  obtain ⟨ad, fn, hg, md, cs0, cs1⟩ := cs.ex
  refine F.ok scAnswer (fun vs H Q E h => ?_) (fun cdv A outer s H vs Q E hr hsp => ?_)
  · obtain ⟨q, told, p, as, xs, x, ps, F, N, s, rfl, _⟩ := h
    rfl
  · obtain ⟨q, told, p, as, xs, x, ps, FF, N, s, rfl, hc, ht, hp, hn, st, hN, k⟩ := hsp
    refine ⟨_, pss_cons (ps_if (PW.pt (pw_and (pt_cmpR op_ne (pv 1) (pe_g G.start rfl) (nomark _)) (pw_and1 (pt_not (pt_val (pe_fld (pv 0) rfl)))))) (pss_one (ps_ret (pe_lst (pa_cons (pe_g G.not rfl) pa_nil)))) pss_nil)
      (pss_cons (ps_set (i := 3) scAnswer.nd rfl (Or.inl rfl) (pe_mdget (pe_g hg rfl) (pv 1) (fun _ _ => rfl)))
      (pss_one (ps_ret (pe_callV (pv 3) (pa_cons (pv 0) (pa_cons (pv 2) pa_nil)))))), ?_⟩
    refine ⟨_, rfl, rfl, _, rfl, ?_⟩
    have d0 : decide (V.int p = V.int 0) = decide (p = 0) := by
      rw [Bool.eq_iff_iff, decide_eq_true_eq, decide_eq_true_eq]
      exact ⟨fun e => by injection e, fun e => by rw [e]⟩
    rw [d0]
    rcases call_split hc with ⟨l, f, g, hf, hgl, rfl, rfl, rfl, rfl⟩ | ⟨hp0, hst⟩
    · -- start
      refine iteF (iteF ?_)
      obtain ⟨fa', fd', e1, e2, e3, e4⟩ := cs0 l f g hf hgl
      refine ⟨_, rfl, ad, fn, 0, .ref fa', _, rfl, rfl, md, e1, rfl, ?_⟩
      obtain ⟨dq, t, p', aS, stt, lim, hq⟩ := st.pack
      refine ⟨_, rfl, fa', rfl, e2, _, rfl, _, rfl, 6, fd', _, _, e4, hr, e3, q, told, dq, t, p', aS, ps, stt, lim, rfl, ht, hp, hq, fun hno H' D sm hD => ?_, fun hyes H' A' D hq' pk so fr hD => ?_⟩
      · have e : Kqb6.step s (.start l f g) = (s, .num (-22)) := by
          show (if l = 0 ∨ 10000000 < l ∨ Kqb6.okTable f g = false then _ else _) = _
          rw [if_pos hno]
        refine k H' FF D ?_ (SameOff.of sm) (fun b m => .inl m) (by rw [e]; exact hD)
        rw [e]
        exact st.off (SameOff.of (S := []) sm) (by simp) (by simp) (by omega)
      · have e : Kqb6.step s (.start l f g) = (some (begun l f g), .num 0) := by
          show (if l = 0 ∨ 10000000 < l ∨ Kqb6.okTable f g = false then _ else _) = _
          rw [if_neg hyes]; rfl
        refine k H' A'.fp D ?_ (so.mono fun b m => by rw [List.mem_singleton.mp m]; exact st.q_mem) (fun b m => ?_) (by rw [e]; exact hD)
        · rw [e]; exact ⟨A', pk.mono (Nat.zero_le _), hq', rfl⟩
        · rcases fr b m with q' | q'
          · exact .inl (by rw [q']; exact st.q_mem)
          · exact .inr q'
    · rw [decide_eq_false hp0]
      cases s with
      | none =>
        obtain ⟨⟨dq, t, p', aS, hq⟩, hF⟩ := id st
        refine iteT ⟨_, rfl, q, CP, dq, _, _, rfl, hq, T.cl, T.nS, lk_hit _ _ _, _, rfl, iteT ⟨one_le, fun D hD => ?_⟩⟩
        refine k _ FF D ?_ (SameOff.of (same_new hD)) (fun b m => .inl m) (by rw [hst]; exact upd_same)
        rw [hst]
        exact st.off (SameOff.of (S := []) (same_new hD)) (by simp) (by simp) (by omega)
      | some y =>
        obtain ⟨A, pk, rfl, rfl⟩ := st
        refine iteT ⟨_, rfl, A.q, CP, A.dq, _, _, rfl, pk.ins, T.cl, T.nS, lk_hit _ _ _, _, rfl, iteF ?_⟩
        obtain ⟨fa', fd', e1, e2, e3, e4⟩ := cs1 p as xs x hc hp0
        refine ⟨_, rfl, ad, fn, p, .ref fa', _, rfl, rfl, md, e1, rfl, ?_⟩
        refine ⟨_, rfl, fa', rfl, e2, _, rfl, _, rfl, 6, fd', _, _, e4, hr, e3, told, ps, N, A, y, rfl, ht, hp, hn, pk, hN, fun H' A' y' D hq' pk' hs' so fr hD => ?_⟩
        exact k H' A'.fp D (by rw [hs']; exact ⟨A', pk', hq', rfl⟩) so fr hD
end
end Sw
namespace Sw
open PySem PySem.Spec PyProof.Rows L2
def spAns (K : PySem.W.Frag) : Sp := fun vs H Q _ => ∃ (a : Addr) (ns : List Int), vs = [.ref a] ∧ SqL K H a (ns.map V.int) ∧ PyKqb6.answers_asked ns = true ∧ ∀ (H' : Hp) (p : Addr), H' p = some (.lst ((PyKqb6.answers ns).map V.int)) → Q (.ref p) H'
theorem ite_small {c : Prop} [Decidable c] {a b n k : Nat} {r : Option (Nat × Nat)} (ha : a ≤ 1000 ∧ b ≤ 1000) (hr : r = some (n, k) → n ≤ 1000 ∧ k ≤ 1000) (h : (if c then some (a, b) else r) = some (n, k)) : n ≤ 1000 ∧ k ≤ 1000 := by
  by_cases hc : c
  · rw [if_pos hc] at h
    obtain ⟨rfl, rfl⟩ := Prod.mk.inj (Option.some.inj h)
    exact ha
  · rw [if_neg hc] at h
    exact hr h
theorem shape_small {p : Int} {n k : Nat} (h : PyKqb6.shape p = some (n, k)) : n ≤ 1000 ∧ k ≤ 1000 := by
  unfold PyKqb6.shape at h
  revert h
  iterate 19 refine ite_small ⟨by decide, by decide⟩ ?_
  intro h
  cases h
theorem rows_short : ∀ {k : Nat} {l : List Int} {xs : List (List Int)} {t : List Int}, PyFlat.rows k l = some (xs, t) → t.length ≤ l.length
  | 0, l, xs, t, h => by
    obtain ⟨_, e⟩ := Prod.mk.inj (Option.some.inj (show some (([] : List (List Int)), l) = some (xs, t) from h))
    rw [e]; exact Nat.le_refl _
  | k + 1, l, xs, t, h => by
    obtain ⟨m, x, zs, e0, e1, e2, e3, e4⟩ := rows_step (ns := l) (j := 0) (k := k) (ys := xs) (t := t) h
    have := rows_short e4
    rw [List.length_drop] at this
    omega
structure STab (K : PySem.W.Frag) (mg : Str → Option Value) : Prop where
  ex : ∃ (a : Addr) (f : Int → Option Value), IsG mg "SHAPES" (.ref a) ∧ ModD K a f ∧ ∀ (p : Int) (n k : Nat), PyKqb6.shape p = some (n, k) → ∃ sh, f p = some (.ref sh) ∧ ∀ H, SqT K H sh [.int (n : Int), .int (k : Int)]
section
variable {P : Program} {w : World} {K : PySem.W.Frag} {mg : Str → Option Value} {base : Heap}
theorem scAnswers : FnScope ["calls", "pack", "line", "given", "number", "told"] ["calls"] (defScope sAnswers) := ⟨rfl, rfl, rfl, by decide +kernel, rfl, by decide +kernel, by decide +kernel⟩
theorem ok_answers {fa CP C CL : Addr} {fd : FuncData} (F : Fun K "answers" "answers" sAnswers fa fd) (L : LTxt K CL) (S : STab K mg) (mP : MkCal P w K mg base "Pack" CP 3 ["self"] (spPInit CP C)) (mL : MkCal P w K mg base "Line" CL 1 ["self", "calls"] (spLInit CL))
    (mH : MCal P w K mg base CL "has_more" 1 ["self"] (spHas K CL)) (mN : MCal P w K mg base CL "take_number" 1 ["self"] (spNum K CL)) (cT : Cal P w K mg base "take_told" 3 ["line", "shape"] (spTold K CL))
    (cA : Cal P w K mg base "answer_call" 7 ["pack", "number", "told"] (spAnswer CP C)) (cC : Cal P w K mg base "counted" 1 ["numbers"] spCounted) : FnOk P w K mg base CX0 9 fa fd ["calls"] (spAns K) := by
  obtain ⟨ash, fsh, hgs, mds, shs⟩ := S.ex
  refine F.ok scAnswers (fun vs H Q E h => ?_) (fun cdv A outer s H vs Q E hr hsp => ?_)
  · obtain ⟨a, ns, rfl, _⟩ := h
    rfl
  · obtain ⟨a, ns, rfl, hs, hask, k⟩ := hsp
    obtain ⟨cs, hcs, hcl, has, hans, hal⟩ := asked_parts hask
    have hsi : SqL K H a (iv ns) := hs
    refine ⟨_, pss_cons (ps_set (i := 1) scAnswers.nd rfl (Or.inl rfl) (pe_makeC0 mP (hr.mono (by decide)) rfl))
      (pss_cons (ps_set (i := 2) scAnswers.nd rfl (Or.inl rfl) (pe_makeC mL (hr.mono (by decide)) rfl (pa_cons (pv 0) pa_nil)))
      (pss_cons (ps_set (i := 3) scAnswers.nd rfl (Or.inl rfl) (pe_lst pa_nil))
      (pss_cons (ps_while PassesOwn.never (pt_val (pe_methC0 (pv 2) L.cl mH (hr.mono (by decide))))
        (pss_cons (ps_set (i := 4) scAnswers.nd rfl (Or.inl rfl) (pe_methC0 (pv 2) L.cl mN (hr.mono (by decide))))
        (pss_cons (ps_set (i := 5) scAnswers.nd rfl (Or.inl rfl) (pe_callC cT (hr.mono (by decide)) rfl (pa_cons (pv 2) (pa_cons (pe_mdget (pe_g hgs rfl) (pv 4) (fun _ _ => rfl)) pa_nil))))
        (pss_one (ps_expr (pe_bm PySem.F.plainAttrs_list PySem.F.slot_list_extend PySem.F.type_list_extend mt_extend (pv 3) (pa_cons (pe_callC cC (hr.mono (by decide)) rfl (pa_cons (pe_callC cA (hr.mono (by decide)) rfl (pa_cons (pv 1) (pa_cons (pv 4) (pa_cons (pv 5) pa_nil)))) pa_nil)) pa_nil)))))))
      (pss_one (ps_ret (pv 3)))))), ?_⟩
    intro q dq nq ndq neq
    refine ⟨q, dq, rfl, upd_same, fun H1 t0 y0 aS0 so1 q1 => ⟨rfl, ?_⟩⟩
    have s1 : Same H H1 := Same.made nq ndq fun b o e n => so1 b o e (by simp; exact n)
    refine ⟨_, rfl, fun ln dl nln ndl nel => ⟨ln, dl, a, rfl, upd_same, rfl, ?_⟩⟩
    have s2 : Same H1 (upd (upd (upd H1 dl (.own ln)) ln (.ins CL dl [])) ln (lineO CL dl a 0)) := same_upd (same_upd (same_upd (Same.refl _) ndl) nln) nln
    have l2 : upd (upd (upd H1 dl (.own ln)) ln (.ins CL dl [])) ln (lineO CL dl a 0) ln = some (lineO CL dl a 0) := upd_same
    generalize upd (upd (upd H1 dl (.own ln)) ln (.ins CL dl [])) ln (lineO CL dl a 0) = H2 at *
    refine ⟨Nat.zero_le _, fun g hg => ?_⟩
    have s12 : Same H H2 := s1.trans s2
    have nl0 : H ln = none := s1.free nln
    have ng0 : H g = none := s12.free hg
    have lg : ln ≠ g := ne_of_none l2 hg
    have ql : q ≠ ln := fun e => by rw [← e, q1] at nln; cases nln
    have qg : q ≠ g := ne_of_none (s2 _ _ q1) hg
    refine ⟨fun m σ H' => ∃ (j i fuel : Nat) (F : List Addr) (st : Option Kqb6.State) (cs' : List (List (List Int))) (v4 v5 : Option V) (out : List Int), σ = [some (.ref a), some (.ref q), some (.ref ln), some (.ref g), v4, v5] ∧ m = ns.length - j ∧ j ≤ ns.length ∧
      PyFlat.calls PyKqb6.shape fuel (ns.drop j) = some cs' ∧ i + cs'.length ≤ 200 ∧ (∀ c ∈ cs', Kqb6Neutral.asked1 c = true) ∧ Same H H' ∧ H' ln = some (lineO CL dl a j) ∧ H' g = some (.lst (iv out)) ∧ out ++ PyFlat.told (PyFlat.played Kqb6Neutral.step st cs') = PyKqb6.answers ns ∧
      StAt CP C H' (3000 * i) q F st ∧ ∀ b ∈ F, H b = none ∧ b ≠ ln ∧ b ≠ g,
      ⟨_, 0, 0, ns.length, [q], none, cs, none, none, [], rfl, rfl, Nat.zero_le _, hcs, by omega, has, s12.trans (same_new hg), by rw [upd_ne lg]; exact l2, upd_same, hans.symm, ⟨⟨dq, t0, y0, aS0, by rw [upd_ne qg]; exact s2 _ _ q1⟩, rfl⟩, by intro b m; rw [List.mem_singleton.mp m]; exact ⟨nq, ql, qg⟩⟩, ?_⟩
    rintro m σ H' ⟨j, i, fuel, F, st, cs', v4, v5, out, rfl, rfl, hj, hcs', hlen, has', sm, hln, hgl, hout, hst, hF⟩
    have hs' : SqL K H' a (iv ns) := sm.seq hsi
    refine ⟨_, rfl, ln, dl, _, rfl, hln, (lk_miss _ _ (by decide +kernel)).trans (lk_miss _ _ (by decide +kernel)), ln, dl, a, ns, j, rfl, hln, hs', _, rfl, ?_⟩
    by_cases hjl : j < ns.length
    · rw [decide_eq_true hjl]
      obtain ⟨p, n, kk, f', xs, t, cs2, e1, e2, e3, e4, e5, e6⟩ := calls_step hjl hcs'
      subst e5
      have hlen2 : i + 1 + cs2.length ≤ 200 := by simp only [List.length_cons] at hlen; omega
      obtain ⟨x, hc, hco⟩ := call_kind (has' _ List.mem_cons_self)
      obtain ⟨hn1, hk1⟩ := shape_small e2
      obtain ⟨sh, hsh, hsq⟩ := shs p n kk e2
      have hstep := step_of hco st
      refine iteT ⟨fun σ' H'' => ∃ (j' i fuel : Nat) (F : List Addr) (st : Option Kqb6.State) (cs' : List (List (List Int))) (v4 v5 : Option V) (out : List Int), σ' = [some (.ref a), some (.ref q), some (.ref ln), some (.ref g), v4, v5] ∧ j < j' ∧ j' ≤ ns.length ∧
        PyFlat.calls PyKqb6.shape fuel (ns.drop j') = some cs' ∧ i + cs'.length ≤ 200 ∧ (∀ c ∈ cs', Kqb6Neutral.asked1 c = true) ∧ Same H H'' ∧ H'' ln = some (lineO CL dl a j') ∧ H'' g = some (.lst (iv out)) ∧ out ++ PyFlat.told (PyFlat.played Kqb6Neutral.step st cs') = PyKqb6.answers ns ∧
        StAt CP C H'' (3000 * i) q F st ∧ ∀ b ∈ F, H b = none ∧ b ≠ ln ∧ b ≠ g,
        fun σ' H'' ⟨j', i, fuel, F, st, cs', v4, v5, out, h1, h2, h3, h4⟩ => ⟨ns.length - j', by omega, j', i, fuel, F, st, cs', v4, v5, out, h1, rfl, h3, h4⟩, ?_⟩
      refine ⟨_, rfl, ln, dl, _, rfl, hln, (lk_miss _ _ (by decide +kernel)).trans (lk_miss _ _ (by decide +kernel)), ln, dl, a, ns, j, p, rfl, hln, hs', e1, ?_⟩
      have so1 : SameOff [ln] H' (upd H' ln (lineO CL dl a (j + 1))) := (SameOff.refl _ _).upd (.inl (by simp))
      have ln1 : upd H' ln (lineO CL dl a (j + 1)) ln = some (lineO CL dl a (j + 1)) := upd_same
      generalize upd H' ln (lineO CL dl a (j + 1)) = K1 at *
      refine ⟨_, rfl, _, rfl, ash, fsh, p, V.ref sh, _, rfl, rfl, mds, hsh, rfl, ln, dl, a, sh, ns, j + 1, n, kk, xs, t, rfl, ln1, SqL.off1 hln so1 hs', hsq _, hn1, hk1, e3, e4, fun K2 D ps j' hD so2 hj' hdrop ln2 rows2 fr2 hD2 => ?_⟩
      have so12 : SameOff [ln] H' K2 := so1.trans so2
      have lnF : ln ∉ F := fun m => (hF ln m).2.1 rfl
      have gF : g ∉ F := fun m => (hF g m).2.2 rfl
      have sm2 : Same H K2 := fun b o e => so12 b o (sm b o e) (by simp; exact ne_of_none e nl0)
      have g2 : K2 g = some (.lst (iv out)) := so12 _ _ hgl (by simp; exact fun e => lg e.symm)
      have st2 : StAt CP C K2 (3000 * i) q F st := hst.off so12 (by intro b m; rw [List.mem_singleton.mp m]; exact lnF) (by intro b m ys; rw [List.mem_singleton.mp m, hln]; intro z; cases z) (Nat.le_refl _)
      have psF : ∀ b ∈ ps, b ∉ F := fun b m m2 => by
        obtain ⟨o, e⟩ := hst.has b m2
        have := so1 b o e (by simp; exact (hF b m2).2.1)
        rw [fr2 b m] at this; cases this
      refine ⟨_, rfl, .inl ⟨rfl, _, SqL.of g2⟩, _, rfl, _, rfl, _, rfl, q, D, p, (ns.drop (j + 1)).take n, xs, x, ps, F, 3000 * i, st, rfl, hc, hD2, rows2, psF, st2, by omega, fun K3 F' D3 st3 so3 fr3 hD3 => ?_⟩
      have hout' : (out ++ (((Kqb6Neutral.tell (Kqb6.step st x).2).length : Int) :: Kqb6Neutral.tell (Kqb6.step st x).2)) ++ PyFlat.told (PyFlat.played Kqb6Neutral.step (Kqb6.step st x).1 cs2) = PyKqb6.answers ns := by
        rw [← hout]
        show _ = out ++ PyFlat.told ((Kqb6Neutral.step st ((p :: (ns.drop (j + 1)).take n) :: xs)).2 :: PyFlat.played Kqb6Neutral.step (Kqb6Neutral.step st ((p :: (ns.drop (j + 1)).take n) :: xs)).1 cs2)
        rw [hstep, List.append_assoc]
        rfl
      have hline : (2000000 : Nat) < sizeLine := by rw [sizeLine_eq]; decide
      have hlo : out.length + ((Kqb6Neutral.tell (Kqb6.step st x).2).length + 1) ≤ 1000200 := by
        have := congrArg List.length hout'
        simp only [List.length_append, List.length_cons] at this
        omega
      generalize hAn : Kqb6Neutral.tell (Kqb6.step st x).2 = an at *
      refine ⟨D3, _, rfl, hD3, by rw [iv_len]; omega, fun K4 D4 hD4 s4 hD4' => ?_⟩
      have g3 : K3 g = some (.lst (iv out)) := so3 _ _ g2 gF
      have ln3 : K3 ln = some (lineO CL dl a j') := so3 _ _ ln2 lnF
      have sm3 : Same H K3 := fun b o e => so3 b o (sm2 b o e) fun m => by rw [(hF b m).1] at e; cases e
      refine ⟨g, D4, _, _, rfl, rfl, s4 _ _ g3, hD4', by rw [List.length_cons, iv_len, iv_len]; omega, ?_⟩
      have fr4 : ∀ b ∈ F', H b = none ∧ b ≠ ln ∧ b ≠ g := fun b m => by
        rcases fr3 b m with e | e
        · exact hF b e
        · refine ⟨sm2.free e, fun q => ?_, fun q => ?_⟩
          · rw [q, ln2] at e; cases e
          · rw [q, g2] at e; cases e
      refine ⟨j', i + 1, f', F', (Kqb6.step st x).1, cs2, _, _, out ++ ((an.length : Int) :: an), rfl, ?_, hj', by rw [hdrop]; exact e6, hlen2, fun c m => has' c (List.mem_cons_of_mem _ m), same_upd (sm3.trans s4) ng0, by rw [upd_ne lg]; exact s4 _ _ ln3, ?_, hout', ?_, fr4⟩
      · -- the place has gone on
        rcases Nat.lt_or_ge j j' with h | h
        · exact h
        · exfalso
          have h1 := congrArg List.length hdrop
          rw [List.length_drop] at h1
          have h2 := rows_short e4
          rw [List.length_drop] at h2
          omega
      · rw [upd_same, iv_len]
        unfold iv
        rw [List.map_append]
        rfl
      · have so5 : SameOff [g] K3 (upd K4 g (.lst (iv out ++ (V.int ((iv an).length : Int) :: iv an)))) := (SameOff.of s4).upd (.inl (by simp))
        exact st3.off so5 (by intro b m; rw [List.mem_singleton.mp m]; exact fun m2 => (fr4 g m2).2.2 rfl) (by intro b m ys; rw [List.mem_singleton.mp m, g3]; intro z; cases z) (by omega)
    · rw [decide_eq_false hjl]
      refine iteF ⟨_, rfl, k H' g ?_⟩
      have e0 : ns.drop j = [] := List.drop_eq_nil_of_le (by omega)
      rw [e0] at hcs'
      rw [calls_end hcs'] at hout
      have e1 : PyFlat.told (PyFlat.played Kqb6Neutral.step st []) = [] := rfl
      rw [e1, List.append_nil] at hout
      rw [← hout]
      exact hgl
end
end Sw
/-! what the text's top has written, put together -/
namespace Sw
open PySem PySem.Spec PyProof.Rows L2
section
variable {K : PySem.W.Frag}
structure DefAt (K : PySem.W.Frag) (x : Str) (st : Stmt) (f : Addr) : Prop where
  ex : ∃ fd, Fun K x x st f fd
  ns : PySem.W.nsIn K mainGlobals x = some (some (.ref f))
theorem defAt_mk {x : Str} {st : Stmt} {f : Addr} {oc : Value} {od an : Option Addr} {osl : Array (Option Value)} {kV doc pm cdv ct : Value} (a : PySem.W.nsIn K mainGlobals x = some (some (.ref f)))
    (l : K.lookup f = some ⟨oc, od, .func (PySem.W.fnOf x x (defArgs st) (defBody st) (defScope st) .none kV doc pm an cdv ct), osl⟩) (c : PySem.W.codeIn K cdv x = true) (k : PySem.W.keepIn K (.ref f) = true) : DefAt K x st f := ⟨⟨_, fun_mk l c k⟩, a⟩
structure MethAt (K : PySem.W.Frag) (C : Addr) (m qual : Str) (st : Stmt) (f : Addr) : Prop where
  ex : ∃ fd, Fun K m qual st f fd
  at_ : PySem.W.findIn K (.ref C) m = some (some (.ref f))
  fn : PySem.W.isFn K (.ref f) = true
theorem methAt_mk {C : Addr} {m qual : Str} {st : Stmt} {f : Addr} {oc : Value} {od an : Option Addr} {osl : Array (Option Value)} {kV doc pm cdv ct : Value} (a : PySem.W.findIn K (.ref C) m = some (some (.ref f))) (i : PySem.W.isFn K (.ref f) = true)
    (l : K.lookup f = some ⟨oc, od, .func (PySem.W.fnOf m qual (defArgs st) (defBody st) (defScope st) .none kV doc pm an cdv ct), osl⟩) (c : PySem.W.codeIn K cdv qual = true) (k : PySem.W.keepIn K (.ref f) = true) : MethAt K C m qual st f := ⟨⟨_, fun_mk l c k⟩, a, i⟩
structure KlsAt (K : PySem.W.Frag) (x : Str) (C : Addr) : Prop where
  ns : PySem.W.nsIn K mainGlobals x = some (some (.ref C))
  cl : Cls K C
  mks : PySem.W.makesIn K C = true
  kp : PySem.W.keepIn K (.ref C) = true
theorem klsAt_mk {x : Str} {C : Addr} (a : PySem.W.nsIn K mainGlobals x = some (some (.ref C))) (pg : PySem.W.plainGet K C Str.empty = true) (hd : PySem.W.hasDictIn K C = true) (po : PySem.W.plainOver K C = true)
    (sa : PySem.W.findIn K (.ref C) "__setattr__" = some (some (.builtin "object.__setattr__"))) (mk : PySem.W.makesIn K C = true) (kc : PySem.W.keepIn K (.ref C) = true) : KlsAt K x C := ⟨a, ⟨pg, hd, po, sa⟩, mk, kc⟩
def ShAt (K : PySem.W.Frag) (sh : Addr) (n k : Nat) : Prop := ∀ H, SqT K H sh [.int (n : Int), .int (k : Int)]
theorem shAt_mk {sh : Addr} {n k : Nat} {z1 z2 : Int} {od : Option Addr} {t1 t2 : Tok} {m : Nat} {sl : Array (Option Value)} (l : K.lookup sh = some ⟨.type "tuple", od, .seq #[.int z1 t1, .int z2 t2] m, sl⟩) (e1 : z1 = (n : Int)) (e2 : z2 = (k : Int)) : ShAt K sh n k := fun H => by
  subst e1 e2
  exact .inr ⟨_, _, _, l, rfl, rfl, (by show 2 ≤ sizeLine; rw [sizeLine_eq]; decide), .cons ⟨_, rfl⟩ (.cons ⟨_, rfl⟩ .nil)⟩
structure IntAt (K : PySem.W.Frag) (x : Str) (z : Int) : Prop where
  ex : ∃ t, PySem.W.nsIn K mainGlobals x = some (some (.int z t))
theorem intAt_mk {x : Str} {z : Int} {t : Tok} (a : PySem.W.nsIn K mainGlobals x = some (some (.int z t))) : IntAt K x z := ⟨⟨t, a⟩⟩
/-- a dict of the text's top, its entries as they stand -/
def DicAt (K : PySem.W.Frag) (x : Str) (a : Addr) (es : List DictEntry) : Prop := PySem.W.nsIn K mainGlobals x = some (some (.ref a)) ∧ ∃ f, ModD K a f ∧ ∀ k, f k = (es.find? fun e => Value.isInt k e.key).map (·.val)
theorem dicAt_mk {x : Str} {a : Addr} {es : Array DictEntry} {ls : List DictEntry} {ep : Nat} {od : Option Addr} {sl : Array (Option Value)} (n : PySem.W.nsIn K mainGlobals x = some (some (.ref a))) (l : K.lookup a = some ⟨.type "dict", od, .dict es ep, sl⟩) (e : es.toList = ls)
    (hk : ∀ d ∈ ls, ∃ k t, d.key = Value.int k t ∧ d.hash = hashInt k) (ho : (⟨.type "dict", od, .dict es ep, sl⟩ : Obj).ExactDict) : DicAt K x a ls :=
  ⟨n, _, ⟨_, es, ep, l, ho, rfl, by rw [e]; exact hk, fun _ => rfl⟩, fun k => by rw [e]⟩
theorem hk_all (ls : List DictEntry) (h : (ls.all fun d => match d.key with | .int k _ => decide (d.hash = hashInt k) | _ => false) = true) : ∀ d ∈ ls, ∃ k t, d.key = Value.int k t ∧ d.hash = hashInt k := fun d m => by
  have := List.all_eq_true.mp h d m
  split at this
  · rename_i k t e
    exact ⟨k, t, e, of_decide_eq_true this⟩
  · cases this
variable {P : Program} {w : World} {mg : Str → Option Value} {base h : Heap}
theorem DefAt.cal {x : Str} {st : Stmt} {f : Addr} {k : Nat} {ps : List Str} {sp : Sp} (d : DefAt K x st f) (X : K.In h) (G : h.Ns mainGlobals mg) (hb : ∀ fd, Fun K x x st f fd → Binds K fd ps []) (ok : ∀ fd, Fun K x x st f fd → FnOk P w K mg base CX0 k f fd ps sp) : Cal P w K mg base x k ps sp := by
  obtain ⟨fd, F⟩ := d.ex
  exact Cal.mk' F (PySem.W.mg_of X G d.ns) (hb fd F) (ok fd F)
theorem MethAt.cal {C f : Addr} {m qual : Str} {st : Stmt} {k : Nat} {ps : List Str} {sp : Sp} (d : MethAt K C m qual st f) (hb : ∀ fd, Fun K m qual st f fd → Binds K fd ps []) (ok : ∀ fd, Fun K m qual st f fd → FnOk P w K mg base CX0 k f fd ps sp) : MCal P w K mg base C m k ps sp := by
  obtain ⟨fd, F⟩ := d.ex
  exact ⟨⟨f, fd, ⟨d.at_, d.fn, F.kp⟩, ok fd F, hb fd F⟩⟩
theorem MethAt.make {x : Str} {C f : Addr} {qual : Str} {st : Stmt} {k : Nat} {ps : List Str} {sp : Sp} (d : MethAt K C "__init__" qual st f) (c : KlsAt K x C) (X : K.In h) (G : h.Ns mainGlobals mg) (hb : ∀ fd, Fun K "__init__" qual st f fd → Binds K fd ps [])
    (ok : ∀ fd, Fun K "__init__" qual st f fd → FnOk P w K mg base CX0 k f fd ps sp) : MkCal P w K mg base x C k ps sp := by
  obtain ⟨fd, F⟩ := d.ex
  exact ⟨⟨f, fd, ⟨c.mks, d.at_, d.fn, c.kp⟩, ok fd F, PySem.W.mg_of X G c.ns, hb fd F⟩⟩
theorem IntAt.g {x : Str} {z : Int} (d : IntAt K x z) (X : K.In h) (G : h.Ns mainGlobals mg) : IsG mg x (.int z) := by
  obtain ⟨t, e⟩ := d.ex
  exact ⟨_, PySem.W.mg_of X G e, ⟨t, rfl⟩⟩
theorem DefAt.fn {x : Str} {st : Stmt} {f : Addr} {ps : List Str} {sp : Sp} (d : DefAt K x st f) (hb : ∀ fd, Fun K x x st f fd → Binds K fd ps []) (ok : ∀ fd, Fun K x x st f fd → FnOk P w K mg base CX0 6 f fd ps sp) {g : Int → Option Value} {p : Int} (e : g p = some (.ref f)) :
    ∃ fa fd, g p = some (.ref fa) ∧ PySem.W.keepIn K (.ref fa) = true ∧ Binds K fd ps [] ∧ FnOk P w K mg base CX0 6 fa fd ps sp := by
  obtain ⟨fd, F⟩ := d.ex
  exact ⟨f, fd, e, F.kp, hb fd F, ok fd F⟩
end
/-- the entries of CALLS and of SHAPES -/
def enC : List Addr → List Tok → Int → List DictEntry
  | f :: fs, t :: ts, i => ⟨i, .int i t, .ref f⟩ :: enC fs ts (i + 1)
  | _, _, _ => []
theorem all_mk {P : Program} {w : World} {K : PySem.W.Frag} {h : Heap} {mg : Str → Option Value} {fa fZ CT CP CL aC aS fBtw fPut fInn fOut fCome fHalf fRises fFalls fIsTab fMkTab fHarm fHarmAll fCopy fTake fDmgOf fDmgNow fForget fKeep fAsStep fRoom fBtwn fCounted fTold fAnswer fStart fRead fReads fLeft fDone fHalves fHarmC fDamage fLife fWould fMost fCount fGreatest fAgain fTimes fUndo fClear fClose fState fTI fPI fLI fLH fLN fLR h0 h1 h2 h3 h4 h5 h6 h7 h8 h9 h10 h11 h12 h13 h14 h15 h16 h17 h18 : Addr} {tc0 tc1 tc2 tc3 tc4 tc5 tc6 tc7 tc8 tc9 tc10 tc11 tc12 tc13 tc14 tc15 tc16 tc17 tc18 ts0 ts1 ts2 ts3 ts4 ts5 ts6 ts7 ts8 ts9 ts10 ts11 ts12 ts13 ts14 ts15 ts16 ts17 ts18 : Tok} {odZ anZ : Option Addr} {slZ : Array (Option Value)} {ocZ kVZ dcZ pmZ cdZ ctZ : Value}
    (X : K.In h) (G : h.Ns mainGlobals mg) (hfa : mg "answers" = some (.ref fa))
    (dBtw : DefAt K "lies_between" sBtw fBtw)
    (dPut : DefAt K "put" sPut fPut)
    (dInn : DefAt K "middle_is_inner" sInn fInn)
    (dOut : DefAt K "take_out_inner" sOut fOut)
    (dCome : DefAt K "come" sCome fCome)
    (dHalf : DefAt K "half_swings" sHalf fHalf)
    (dRises : DefAt K "rises" sRises fRises)
    (dFalls : DefAt K "never_falls" sFalls fFalls)
    (dIsTab : DefAt K "is_table" sIsTab fIsTab)
    (dMkTab : DefAt K "make_table" sMkTab fMkTab)
    (dHarm : DefAt K "harm_of" sHarm fHarm)
    (dHarmAll : DefAt K "harm_of_all" sHarmAll fHarmAll)
    (dCopy : DefAt K "copy_of" sCopy fCopy)
    (dTake : DefAt K "take_in" sTake fTake)
    (dDmgOf : DefAt K "damage_of" sDmgOf fDmgOf)
    (dDmgNow : DefAt K "damage_now" sDmgNow fDmgNow)
    (dForget : DefAt K "forget" sForget fForget)
    (dKeep : DefAt K "keep_step" sKeep fKeep)
    (dAsStep : DefAt K "come_as_step" sAsStep fAsStep)
    (dRoom : DefAt K "has_room" sRoom fRoom)
    (dBtwn : DefAt K "number_between" sBtwn fBtwn)
    (dCounted : DefAt K "counted" sCounted fCounted)
    (dTold : DefAt K "take_told" sTold fTold)
    (dAnswer : DefAt K "answer_call" sAnswer fAnswer)
    (dStart : DefAt K "start" sStart fStart)
    (dRead : DefAt K "read" sRead fRead)
    (dReads : DefAt K "reads" sReads fReads)
    (dLeft : DefAt K "left" sLeft fLeft)
    (dDone : DefAt K "done" sDone fDone)
    (dHalves : DefAt K "halves" sHalves fHalves)
    (dHarmC : DefAt K "harm" sHarmC fHarmC)
    (dDamage : DefAt K "damage" sDamage fDamage)
    (dLife : DefAt K "life" sLife fLife)
    (dWould : DefAt K "would" sWould fWould)
    (dMost : DefAt K "most" sMost fMost)
    (dCount : DefAt K "count" sCount fCount)
    (dGreatest : DefAt K "greatest" sGreatest fGreatest)
    (dAgain : DefAt K "again" sAgain fAgain)
    (dTimes : DefAt K "times" sTimes fTimes)
    (dUndo : DefAt K "undo" sUndo fUndo)
    (dClear : DefAt K "clear" sClear fClear)
    (dClose : DefAt K "close" sClose fClose)
    (dState : DefAt K "state" sState fState)
    (aZ : PySem.W.nsIn K mainGlobals "answers" = some (some (.ref fZ))) (lZ : K.lookup fZ = some ⟨ocZ, odZ, .func (PySem.W.fnOf "answers" "answers" (defArgs sAnswers) (defBody sAnswers) (defScope sAnswers) .none kVZ dcZ pmZ anZ cdZ ctZ), slZ⟩) (cZ : PySem.W.codeIn K cdZ "answers" = true) (kZ : PySem.W.keepIn K (.ref fZ) = true)
    (cT : KlsAt K "Tally" CT)
    (cP : KlsAt K "Pack" CP)
    (cL : KlsAt K "Line" CL)
    (mTI : MethAt K CT "__init__" "Tally.__init__" sTInit fTI)
    (mPI : MethAt K CP "__init__" "Pack.__init__" sPInit fPI)
    (mLI : MethAt K CL "__init__" "Line.__init__" sLInit fLI)
    (mLH : MethAt K CL "has_more" "Line.has_more" sHas fLH)
    (mLN : MethAt K CL "take_number" "Line.take_number" sNum fLN)
    (mLR : MethAt K CL "take_row" "Line.take_row" sRow fLR)
    (nCT0 : PySem.W.findIn K (.ref CT) "came" = some none)
    (nCT1 : PySem.W.findIn K (.ref CT) "row" = some none)
    (nCT2 : PySem.W.findIn K (.ref CT) "sizes_done" = some none)
    (nCT3 : PySem.W.findIn K (.ref CT) "harm_kept" = some none)
    (nCP0 : PySem.W.findIn K (.ref CP) "started" = some none)
    (nCP1 : PySem.W.findIn K (.ref CP) "limit" = some none)
    (nCP2 : PySem.W.findIn K (.ref CP) "table" = some none)
    (nCP3 : PySem.W.findIn K (.ref CP) "tally" = some none)
    (nCP4 : PySem.W.findIn K (.ref CP) "steps" = some none)
    (nCL0 : PySem.W.findIn K (.ref CL) "calls" = some none)
    (nCL1 : PySem.W.findIn K (.ref CL) "place" = some none)
    (o_min : PySem.W.nsIn K mainGlobals "min" = some none)
    (o_max : PySem.W.nsIn K mainGlobals "max" = some none)
    (o_len : PySem.W.nsIn K mainGlobals "len" = some none)
    (o_abs : PySem.W.nsIn K mainGlobals "abs" = some none)
    (o_sum : PySem.W.nsIn K mainGlobals "sum" = some none)
    (o_all : PySem.W.nsIn K mainGlobals "all" = some none)
    (o_range : PySem.W.nsIn K mainGlobals "range" = some none)
    (o_list : PySem.W.nsIn K mainGlobals "list" = some none)
    (o_zip : PySem.W.nsIn K mainGlobals "zip" = some none)
    (i0 : IntAt K "MOST_ROWS" (8))
    (i1 : IntAt K "TOP_SIZE" (1000))
    (i2 : IntAt K "TOP_HARM" (1000))
    (i3 : IntAt K "START" (0))
    (i4 : IntAt K "NOT_STARTED" (-11))
    (i5 : IntAt K "WRONG" (-22))
    (i6 : IntAt K "FULL" (-28))
    (i7 : IntAt K "NOTHING_THERE" (-6))
    (i8 : IntAt K "NOTHING_TO_TELL" (-33))
    (i9 : IntAt K "TOP_LIMIT" (10000000))
    (i10 : IntAt K "TOP_READING" (1000))
    (i11 : IntAt K "MOST_DONE" (3000))
    (i12 : IntAt K "MOST_TIMES" (20))
    (i13 : IntAt K "MOST_STEPS" (20))
    (s0 : ShAt K h0 1 2)
    (s1 : ShAt K h1 1 0)
    (s2 : ShAt K h2 0 1)
    (s3 : ShAt K h3 0 0)
    (s4 : ShAt K h4 0 0)
    (s5 : ShAt K h5 0 0)
    (s6 : ShAt K h6 1 0)
    (s7 : ShAt K h7 0 0)
    (s8 : ShAt K h8 0 0)
    (s9 : ShAt K h9 1 0)
    (s10 : ShAt K h10 1 0)
    (s11 : ShAt K h11 2 0)
    (s12 : ShAt K h12 0 0)
    (s13 : ShAt K h13 1 0)
    (s14 : ShAt K h14 0 0)
    (s15 : ShAt K h15 0 0)
    (s16 : ShAt K h16 0 0)
    (s17 : ShAt K h17 0 0)
    (s18 : ShAt K h18 0 0)
    (dC : DicAt K "CALLS" aC (enC [fStart, fRead, fReads, fLeft, fDone, fHalves, fHarmC, fDamage, fLife, fWould, fMost, fCount, fGreatest, fAgain, fTimes, fUndo, fClear, fClose, fState] [tc0, tc1, tc2, tc3, tc4, tc5, tc6, tc7, tc8, tc9, tc10, tc11, tc12, tc13, tc14, tc15, tc16, tc17, tc18] 0))
    (dS : DicAt K "SHAPES" aS (enC [h0, h1, h2, h3, h4, h5, h6, h7, h8, h9, h10, h11, h12, h13, h14, h15, h16, h17, h18] [ts0, ts1, ts2, ts3, ts4, ts5, ts6, ts7, ts8, ts9, ts10, ts11, ts12, ts13, ts14, ts15, ts16, ts17, ts18] 0))
    : ∃ fd : FuncData, (∀ (s : Shared) (us : List Value), us.length = (["calls"] : List Str).length → BindsTo s fd ⟨us, []⟩ ((["calls"] : List Str).zip us)) ∧ ∀ base : Heap, K.In base → base.Ns mainGlobals mg → FnOk P w K mg base CX0 9 fa fd ["calls"] (spAns K) := by
  have e := hfa.symm.trans (PySem.W.mg_of X G aZ)
  cases e
  have FZ := fun_mk (st := sAnswers) lZ cZ kZ
  refine ⟨PySem.W.fnOf "answers" "answers" (defArgs sAnswers) (defBody sAnswers) (defScope sAnswers) .none kVZ dcZ pmZ anZ cdZ ctZ, fun s us hu => match us, hu with | [_], _ => .of_eq rfl, fun base _ _ => ?_⟩
  have mn : ∀ {x : Str}, PySem.W.nsIn K mainGlobals x = some none → mg x = none := fun e => PySem.W.mg_none_of X G e
  have T : Txt mg := ⟨mn o_min, mn o_max, mn o_len, mn o_abs, mn o_sum, mn o_all, mn o_range, mn o_list, mn o_zip, i0.g X G, i1.g X G, i2.g X G⟩
  have GT : GTxt mg := ⟨i3.g X G, i4.g X G, i5.g X G, i6.g X G, i7.g X G, i8.g X G, i9.g X G, i10.g X G, i11.g X G, i12.g X G, i13.g X G⟩
  have TT : TTxt K CT := ⟨cT.cl, nCT0, nCT1, nCT2, nCT3⟩
  have PT : PTxt K CP := ⟨cP.cl, nCP0, nCP1, nCP2, nCP3, nCP4⟩
  have LT : LTxt K CL := ⟨cL.cl, nCL0, nCL1⟩
  have cBtw : Cal P w K mg base "lies_between" 1 ["before", "last", "new"] spBtw := dBtw.cal X G (fun fd F => F.binds fun _ _ _ _ _ _ us hl => match us, hl with | [_, _, _], _ => rfl) fun fd F => ok_btw F T
  have cPut : Cal P w K mg base "put" 2 ["row", "reading"] spPut := dPut.cal X G (fun fd F => F.binds fun _ _ _ _ _ _ us hl => match us, hl with | [_, _], _ => rfl) fun fd F => ok_put F T cBtw
  have cInn : Cal P w K mg base "middle_is_inner" 1 ["row"] spInn := dInn.cal X G (fun fd F => F.binds fun _ _ _ _ _ _ us hl => match us, hl with | [_], _ => rfl) fun fd F => ok_inn F T
  have cOut : Cal P w K mg base "take_out_inner" 2 ["row"] spOut := dOut.cal X G (fun fd F => F.binds fun _ _ _ _ _ _ us hl => match us, hl with | [_], _ => rfl) fun fd F => ok_out F T cInn
  have cCome : Cal P w K mg base "come" 3 ["row", "reading"] spCome := dCome.cal X G (fun fd F => F.binds fun _ _ _ _ _ _ us hl => match us, hl with | [_, _], _ => rfl) fun fd F => ok_come F cPut cOut
  have cHalf : Cal P w K mg base "half_swings" 1 ["row"] spHalf := dHalf.cal X G (fun fd F => F.binds fun _ _ _ _ _ _ us hl => match us, hl with | [_], _ => rfl) fun fd F => ok_half F T
  have cRises : Cal P w K mg base "rises" 1 ["sizes"] spRises := dRises.cal X G (fun fd F => F.binds fun _ _ _ _ _ _ us hl => match us, hl with | [_], _ => rfl) fun fd F => ok_rises F T
  have cFalls : Cal P w K mg base "never_falls" 1 ["harms"] spFalls := dFalls.cal X G (fun fd F => F.binds fun _ _ _ _ _ _ us hl => match us, hl with | [_], _ => rfl) fun fd F => ok_falls F T
  have cIsTab : Cal P w K mg base "is_table" 2 ["froms", "harms"] spIsTab := dIsTab.cal X G (fun fd F => F.binds fun _ _ _ _ _ _ us hl => match us, hl with | [_, _], _ => rfl) fun fd F => ok_isTab F T cRises cFalls
  have cMkTab : Cal P w K mg base "make_table" 1 ["froms", "harms"] spMkTab := dMkTab.cal X G (fun fd F => F.binds fun _ _ _ _ _ _ us hl => match us, hl with | [_, _], _ => rfl) fun fd F => ok_mkTab F T
  have cHarm : Cal P w K mg base "harm_of" 1 ["table", "size"] spHarm := dHarm.cal X G (fun fd F => F.binds fun _ _ _ _ _ _ us hl => match us, hl with | [_, _], _ => rfl) fun fd F => ok_harm F T
  have cHarmAll : Cal P w K mg base "harm_of_all" 2 ["table", "sizes"] spHarmAll := dHarmAll.cal X G (fun fd F => F.binds fun _ _ _ _ _ _ us hl => match us, hl with | [_, _], _ => rfl) fun fd F => ok_harmAll F T cHarm
  have mkT : MkCal P w K mg base "Tally" CT 1 ["self"] (spTInit CT) := mTI.make cT X G (fun fd F => F.binds fun _ _ _ _ _ _ us hl => match us, hl with | [_], _ => rfl) fun fd F => ok_tinit F TT
  have cCopy : Cal P w K mg base "copy_of" 3 ["tally"] (spCopy CT) := dCopy.cal X G (fun fd F => F.binds fun _ _ _ _ _ _ us hl => match us, hl with | [_], _ => rfl) fun fd F => ok_copy F TT T mkT
  have cTake : Cal P w K mg base "take_in" 4 ["tally", "table", "readings"] (spTake CT) := dTake.cal X G (fun fd F => F.binds fun _ _ _ _ _ _ us hl => match us, hl with | [_, _, _], _ => rfl) fun fd F => ok_take F TT T cCome cHarmAll
  have cDmgOf : Cal P w K mg base "damage_of" 3 ["tally", "table"] (spDmgOf CT) := dDmgOf.cal X G (fun fd F => F.binds fun _ _ _ _ _ _ us hl => match us, hl with | [_, _], _ => rfl) fun fd F => ok_dmgOf F TT cHalf cHarmAll
  have cDmgNow : Cal P w K mg base "damage_now" 4 ["pack"] (spDmgNow CP CT) := dDmgNow.cal X G (fun fd F => F.binds fun _ _ _ _ _ _ us hl => match us, hl with | [_], _ => rfl) fun fd F => ok_dmgNow F PT cDmgOf
  have cForget : Cal P w K mg base "forget" 3 ["pack"] (spForget CP CT) := dForget.cal X G (fun fd F => F.binds fun _ _ _ _ _ _ us hl => match us, hl with | [_], _ => rfl) fun fd F => ok_forget F PT mkT
  have cKeep : Cal P w K mg base "keep_step" 4 ["pack"] (spKeep CP CT) := dKeep.cal X G (fun fd F => F.binds fun _ _ _ _ _ _ us hl => match us, hl with | [_], _ => rfl) fun fd F => ok_keep F PT T GT cCopy
  have cAsStep : Cal P w K mg base "come_as_step" 5 ["pack", "readings"] (spAsStep CP CT) := dAsStep.cal X G (fun fd F => F.binds fun _ _ _ _ _ _ us hl => match us, hl with | [_, _], _ => rfl) fun fd F => ok_asStep F PT cKeep cTake
  have cRoom : Cal P w K mg base "has_room" 1 ["pack", "number"] (spRoom CP CT) := dRoom.cal X G (fun fd F => F.binds fun _ _ _ _ _ _ us hl => match us, hl with | [_, _], _ => rfl) fun fd F => ok_room F PT TT T GT
  have cBtwn : Cal P w K mg base "number_between" 1 ["sizes", "least", "top"] spBtwn := dBtwn.cal X G (fun fd F => F.binds fun _ _ _ _ _ _ us hl => match us, hl with | [_, _, _], _ => rfl) fun fd F => ok_btwn F T
  have cCounted : Cal P w K mg base "counted" 1 ["numbers"] spCounted := dCounted.cal X G (fun fd F => F.binds fun _ _ _ _ _ _ us hl => match us, hl with | [_], _ => rfl) fun fd F => ok_counted F T
  have mkP : MkCal P w K mg base "Pack" CP 3 ["self"] (spPInit CP CT) := mPI.make cP X G (fun fd F => F.binds fun _ _ _ _ _ _ us hl => match us, hl with | [_], _ => rfl) fun fd F => ok_pinit F PT mkT
  have mkL : MkCal P w K mg base "Line" CL 1 ["self", "calls"] (spLInit CL) := mLI.make cL X G (fun fd F => F.binds fun _ _ _ _ _ _ us hl => match us, hl with | [_, _], _ => rfl) fun fd F => ok_linit F LT
  have mH : MCal P w K mg base CL "has_more" 1 ["self"] (spHas K CL) := mLH.cal (fun fd F => F.binds fun _ _ _ _ _ _ us hl => match us, hl with | [_], _ => rfl) fun fd F => ok_has F LT T
  have mN : MCal P w K mg base CL "take_number" 1 ["self"] (spNum K CL) := mLN.cal (fun fd F => F.binds fun _ _ _ _ _ _ us hl => match us, hl with | [_], _ => rfl) fun fd F => ok_num F LT
  have mR : MCal P w K mg base CL "take_row" 2 ["self"] (spRow K CL) := mLR.cal (fun fd F => F.binds fun _ _ _ _ _ _ us hl => match us, hl with | [_], _ => rfl) fun fd F => ok_row F LT mN
  have cTold : Cal P w K mg base "take_told" 3 ["line", "shape"] (spTold K CL) := dTold.cal X G (fun fd F => F.binds fun _ _ _ _ _ _ us hl => match us, hl with | [_, _], _ => rfl) fun fd F => ok_told F T LT mN mR
  obtain ⟨nC, fC, mdC, hfC⟩ := dC
  obtain ⟨nS, fS, mdS, hfS⟩ := dS
  have cs : CTab P w K mg base CP CT := by
    refine ⟨⟨aC, fC, ⟨_, PySem.W.mg_of X G nC, rfl⟩, mdC, fun l g h hg hh => dStart.fn (fun fd F => F.binds fun _ _ _ _ _ _ us hl => match us, hl with | [_, _], _ => rfl) (fun fd F => ok_start l g h hg hh F PT GT cIsTab cMkTab cForget) ((hfC 0).trans rfl), fun p as xs x hc hp => ?_⟩⟩
    cases hc with
    | start l f g hf hg => exact absurd rfl hp
    | read n => exact dRead.fn (fun fd F => F.binds fun _ _ _ _ _ _ us hl => match us, hl with | [_, _], _ => rfl) (fun fd F => ok_read n F GT cRoom cAsStep) ((hfC 1).trans rfl)
    | reads l hl => exact dReads.fn (fun fd F => F.binds fun _ _ _ _ _ _ us hl => match us, hl with | [_, _], _ => rfl) (fun fd F => ok_reads l hl F T GT cRoom cAsStep) ((hfC 2).trans rfl)
    | left => exact dLeft.fn (fun fd F => F.binds fun _ _ _ _ _ _ us hl => match us, hl with | [_, _], _ => rfl) (fun fd F => ok_left F PT TT cCounted) ((hfC 3).trans rfl)
    | done => exact dDone.fn (fun fd F => F.binds fun _ _ _ _ _ _ us hl => match us, hl with | [_, _], _ => rfl) (fun fd F => ok_done F PT TT cCounted) ((hfC 4).trans rfl)
    | halves => exact dHalves.fn (fun fd F => F.binds fun _ _ _ _ _ _ us hl => match us, hl with | [_, _], _ => rfl) (fun fd F => ok_halves F PT TT cCounted cHalf) ((hfC 5).trans rfl)
    | harm n => exact dHarmC.fn (fun fd F => F.binds fun _ _ _ _ _ _ us hl => match us, hl with | [_, _], _ => rfl) (fun fd F => ok_harmC n F PT T GT cHarm) ((hfC 6).trans rfl)
    | damage => exact dDamage.fn (fun fd F => F.binds fun _ _ _ _ _ _ us hl => match us, hl with | [_, _], _ => rfl) (fun fd F => ok_damage F cDmgNow) ((hfC 7).trans rfl)
    | life => exact dLife.fn (fun fd F => F.binds fun _ _ _ _ _ _ us hl => match us, hl with | [_, _], _ => rfl) (fun fd F => ok_life F PT cDmgNow) ((hfC 8).trans rfl)
    | would n => exact dWould.fn (fun fd F => F.binds fun _ _ _ _ _ _ us hl => match us, hl with | [_, _], _ => rfl) (fun fd F => ok_would n F PT GT cCopy cTake cDmgOf) ((hfC 9).trans rfl)
    | most n => exact dMost.fn (fun fd F => F.binds fun _ _ _ _ _ _ us hl => match us, hl with | [_, _], _ => rfl) (fun fd F => ok_most n F PT TT T) ((hfC 10).trans rfl)
    | count n m => exact dCount.fn (fun fd F => F.binds fun _ _ _ _ _ _ us hl => match us, hl with | [_, _], _ => rfl) (fun fd F => ok_count n m F PT TT GT cBtwn cHalf) ((hfC 11).trans rfl)
    | greatest => exact dGreatest.fn (fun fd F => F.binds fun _ _ _ _ _ _ us hl => match us, hl with | [_, _], _ => rfl) (fun fd F => ok_greatest F PT TT T GT cHalf) ((hfC 12).trans rfl)
    | again n => exact dAgain.fn (fun fd F => F.binds fun _ _ _ _ _ _ us hl => match us, hl with | [_, _], _ => rfl) (fun fd F => ok_again n F PT TT T GT cRoom cAsStep) ((hfC 13).trans rfl)
    | times => exact dTimes.fn (fun fd F => F.binds fun _ _ _ _ _ _ us hl => match us, hl with | [_, _], _ => rfl) (fun fd F => ok_times F PT TT T GT cCopy cTake cDmgOf) ((hfC 14).trans rfl)
    | undo => exact dUndo.fn (fun fd F => F.binds fun _ _ _ _ _ _ us hl => match us, hl with | [_, _], _ => rfl) (fun fd F => ok_undo F PT T GT) ((hfC 15).trans rfl)
    | clear => exact dClear.fn (fun fd F => F.binds fun _ _ _ _ _ _ us hl => match us, hl with | [_, _], _ => rfl) (fun fd F => ok_clear F PT TT T cForget) ((hfC 16).trans rfl)
    | close => exact dClose.fn (fun fd F => F.binds fun _ _ _ _ _ _ us hl => match us, hl with | [_, _], _ => rfl) (fun fd F => ok_close F PT TT T GT cKeep cHalf cHarmAll) ((hfC 17).trans rfl)
    | state => exact dState.fn (fun fd F => F.binds fun _ _ _ _ _ _ us hl => match us, hl with | [_, _], _ => rfl) (fun fd F => ok_state F PT TT T) ((hfC 18).trans rfl)
  have cAnswer : Cal P w K mg base "answer_call" 7 ["pack", "number", "told"] (spAnswer CP CT) := dAnswer.cal X G (fun fd F => F.binds fun _ _ _ _ _ _ us hl => match us, hl with | [_, _, _], _ => rfl) fun fd F => ok_answer F PT GT cs
  have hS : ∀ (p : Int) (n k : Nat), PyKqb6.shape p = some (n, k) → ∃ sh, fS p = some (.ref sh) ∧ ∀ H, SqT K H sh [.int (n : Int), .int (k : Int)] := by
    intro p n k e
    unfold PyKqb6.shape at e
    by_cases p0 : p = 0
    · rw [if_pos p0] at e
      obtain ⟨rfl, rfl⟩ := Prod.mk.inj (Option.some.inj e)
      subst p0
      exact ⟨h0, (hfS 0).trans rfl, s0⟩
    rw [if_neg p0] at e
    by_cases p1 : p = 1
    · rw [if_pos p1] at e
      obtain ⟨rfl, rfl⟩ := Prod.mk.inj (Option.some.inj e)
      subst p1
      exact ⟨h1, (hfS 1).trans rfl, s1⟩
    rw [if_neg p1] at e
    by_cases p2 : p = 2
    · rw [if_pos p2] at e
      obtain ⟨rfl, rfl⟩ := Prod.mk.inj (Option.some.inj e)
      subst p2
      exact ⟨h2, (hfS 2).trans rfl, s2⟩
    rw [if_neg p2] at e
    by_cases p3 : p = 3
    · rw [if_pos p3] at e
      obtain ⟨rfl, rfl⟩ := Prod.mk.inj (Option.some.inj e)
      subst p3
      exact ⟨h3, (hfS 3).trans rfl, s3⟩
    rw [if_neg p3] at e
    by_cases p4 : p = 4
    · rw [if_pos p4] at e
      obtain ⟨rfl, rfl⟩ := Prod.mk.inj (Option.some.inj e)
      subst p4
      exact ⟨h4, (hfS 4).trans rfl, s4⟩
    rw [if_neg p4] at e
    by_cases p5 : p = 5
    · rw [if_pos p5] at e
      obtain ⟨rfl, rfl⟩ := Prod.mk.inj (Option.some.inj e)
      subst p5
      exact ⟨h5, (hfS 5).trans rfl, s5⟩
    rw [if_neg p5] at e
    by_cases p6 : p = 6
    · rw [if_pos p6] at e
      obtain ⟨rfl, rfl⟩ := Prod.mk.inj (Option.some.inj e)
      subst p6
      exact ⟨h6, (hfS 6).trans rfl, s6⟩
    rw [if_neg p6] at e
    by_cases p7 : p = 7
    · rw [if_pos p7] at e
      obtain ⟨rfl, rfl⟩ := Prod.mk.inj (Option.some.inj e)
      subst p7
      exact ⟨h7, (hfS 7).trans rfl, s7⟩
    rw [if_neg p7] at e
    by_cases p8 : p = 8
    · rw [if_pos p8] at e
      obtain ⟨rfl, rfl⟩ := Prod.mk.inj (Option.some.inj e)
      subst p8
      exact ⟨h8, (hfS 8).trans rfl, s8⟩
    rw [if_neg p8] at e
    by_cases p9 : p = 9
    · rw [if_pos p9] at e
      obtain ⟨rfl, rfl⟩ := Prod.mk.inj (Option.some.inj e)
      subst p9
      exact ⟨h9, (hfS 9).trans rfl, s9⟩
    rw [if_neg p9] at e
    by_cases p10 : p = 10
    · rw [if_pos p10] at e
      obtain ⟨rfl, rfl⟩ := Prod.mk.inj (Option.some.inj e)
      subst p10
      exact ⟨h10, (hfS 10).trans rfl, s10⟩
    rw [if_neg p10] at e
    by_cases p11 : p = 11
    · rw [if_pos p11] at e
      obtain ⟨rfl, rfl⟩ := Prod.mk.inj (Option.some.inj e)
      subst p11
      exact ⟨h11, (hfS 11).trans rfl, s11⟩
    rw [if_neg p11] at e
    by_cases p12 : p = 12
    · rw [if_pos p12] at e
      obtain ⟨rfl, rfl⟩ := Prod.mk.inj (Option.some.inj e)
      subst p12
      exact ⟨h12, (hfS 12).trans rfl, s12⟩
    rw [if_neg p12] at e
    by_cases p13 : p = 13
    · rw [if_pos p13] at e
      obtain ⟨rfl, rfl⟩ := Prod.mk.inj (Option.some.inj e)
      subst p13
      exact ⟨h13, (hfS 13).trans rfl, s13⟩
    rw [if_neg p13] at e
    by_cases p14 : p = 14
    · rw [if_pos p14] at e
      obtain ⟨rfl, rfl⟩ := Prod.mk.inj (Option.some.inj e)
      subst p14
      exact ⟨h14, (hfS 14).trans rfl, s14⟩
    rw [if_neg p14] at e
    by_cases p15 : p = 15
    · rw [if_pos p15] at e
      obtain ⟨rfl, rfl⟩ := Prod.mk.inj (Option.some.inj e)
      subst p15
      exact ⟨h15, (hfS 15).trans rfl, s15⟩
    rw [if_neg p15] at e
    by_cases p16 : p = 16
    · rw [if_pos p16] at e
      obtain ⟨rfl, rfl⟩ := Prod.mk.inj (Option.some.inj e)
      subst p16
      exact ⟨h16, (hfS 16).trans rfl, s16⟩
    rw [if_neg p16] at e
    by_cases p17 : p = 17
    · rw [if_pos p17] at e
      obtain ⟨rfl, rfl⟩ := Prod.mk.inj (Option.some.inj e)
      subst p17
      exact ⟨h17, (hfS 17).trans rfl, s17⟩
    rw [if_neg p17] at e
    by_cases p18 : p = 18
    · rw [if_pos p18] at e
      obtain ⟨rfl, rfl⟩ := Prod.mk.inj (Option.some.inj e)
      subst p18
      exact ⟨h18, (hfS 18).trans rfl, s18⟩
    rw [if_neg p18] at e
    cases e
  exact ok_answers FZ LT ⟨⟨aS, fS, ⟨_, PySem.W.mg_of X G nS, rfl⟩, mdS, hS⟩⟩ mkP mkL mH mN cTold cAnswer cCounted
end Sw
open PySem PySem.W PyProof.Rows
def PySem.W.Fast.tw14988211710476090628 : Nat := 0
def PySem.W.Fast.tw2062027535691291537 : Nat := 0
def PySem.W.Fast.tw6974219132929978839 : Nat := 0
def PySem.W.Fast.tw16440993477685425676 : Nat := 0
def PySem.W.Fast.tw13318891084715684188 : Nat := 0
def PySem.W.Fast.tw1499076712832195778 : Nat := 0
def PySem.W.Fast.tw13997908656658320685 : Nat := 0
def PySem.W.Fast.tw8140569951210802770 : Nat := 0
set_option maxRecDepth 100000 in
set_option maxHeartbeats 0 in
theorem PySem.Challenge.cw_swingcounts_s01_answers_holds : PySem.Challenge.rw_swingcounts_s01_answers.Holds := by
  w_on; k_headS; (case hw => exact ⟨[.list [.int 3]], by decide +kernel, by decide +kernel⟩)
  k_fillS
  refine L2.walk_specK (r := PySem.Challenge.rw_swingcounts_s01_answers) (k := 9) (CX := L2.CX0) (ps := ["calls"]) (sp := Sw.spAns) (by decide +kernel) rfl rfl ⟨rfl, by decide, by decide⟩ (fun w h Y => PySem.W.kIn_of Y) ?F ?S (fun _ _ _ _ z => z)
  case F =>
    intro w mg fa h Y KX G hmg
    refine' Sw.all_mk KX G hmg ?dBtw ?dPut ?dInn ?dOut ?dCome ?dHalf ?dRises ?dFalls ?dIsTab ?dMkTab ?dHarm ?dHarmAll ?dCopy ?dTake ?dDmgOf ?dDmgNow ?dForget ?dKeep ?dAsStep ?dRoom ?dBtwn ?dCounted ?dTold ?dAnswer ?dStart ?dRead ?dReads ?dLeft ?dDone ?dHalves ?dHarmC ?dDamage ?dLife ?dWould ?dMost ?dCount ?dGreatest ?dAgain ?dTimes ?dUndo ?dClear ?dClose ?dState ?aZ ?lZ ?cZ ?kZ ?cT ?cP ?cL ?mTI ?mPI ?mLI ?mLH ?mLN ?mLR ?nCT0 ?nCT1 ?nCT2 ?nCT3 ?nCP0 ?nCP1 ?nCP2 ?nCP3 ?nCP4 ?nCL0 ?nCL1 ?o_min ?o_max ?o_len ?o_abs ?o_sum ?o_all ?o_range ?o_list ?o_zip ?i0 ?i1 ?i2 ?i3 ?i4 ?i5 ?i6 ?i7 ?i8 ?i9 ?i10 ?i11 ?i12 ?i13 ?s0 ?s1 ?s2 ?s3 ?s4 ?s5 ?s6 ?s7 ?s8 ?s9 ?s10 ?s11 ?s12 ?s13 ?s14 ?s15 ?s16 ?s17 ?s18 ?dC ?dS
    (case dBtw => refine' Sw.defAt_mk ?a ?l ?c ?k; (case a => k_is); (case l => k_is); (case c => k_is); (case k => k_is))
    (case dPut => refine' Sw.defAt_mk ?a ?l ?c ?k; (case a => k_is); (case l => k_is); (case c => k_is); (case k => k_is))
    (case dInn => refine' Sw.defAt_mk ?a ?l ?c ?k; (case a => k_is); (case l => k_is); (case c => k_is); (case k => k_is))
    (case dOut => refine' Sw.defAt_mk ?a ?l ?c ?k; (case a => k_is); (case l => k_is); (case c => k_is); (case k => k_is))
    (case dCome => refine' Sw.defAt_mk ?a ?l ?c ?k; (case a => k_is); (case l => k_is); (case c => k_is); (case k => k_is))
    (case dHalf => refine' Sw.defAt_mk ?a ?l ?c ?k; (case a => k_is); (case l => k_is); (case c => k_is); (case k => k_is))
    (case dRises => refine' Sw.defAt_mk ?a ?l ?c ?k; (case a => k_is); (case l => k_is); (case c => k_is); (case k => k_is))
    (case dFalls => refine' Sw.defAt_mk ?a ?l ?c ?k; (case a => k_is); (case l => k_is); (case c => k_is); (case k => k_is))
    (case dIsTab => refine' Sw.defAt_mk ?a ?l ?c ?k; (case a => k_is); (case l => k_is); (case c => k_is); (case k => k_is))
    (case dMkTab => refine' Sw.defAt_mk ?a ?l ?c ?k; (case a => k_is); (case l => k_is); (case c => k_is); (case k => k_is))
    (case dHarm => refine' Sw.defAt_mk ?a ?l ?c ?k; (case a => k_is); (case l => k_is); (case c => k_is); (case k => k_is))
    (case dHarmAll => refine' Sw.defAt_mk ?a ?l ?c ?k; (case a => k_is); (case l => k_is); (case c => k_is); (case k => k_is))
    (case dCopy => refine' Sw.defAt_mk ?a ?l ?c ?k; (case a => k_is); (case l => k_is); (case c => k_is); (case k => k_is))
    (case dTake => refine' Sw.defAt_mk ?a ?l ?c ?k; (case a => k_is); (case l => k_is); (case c => k_is); (case k => k_is))
    (case dDmgOf => refine' Sw.defAt_mk ?a ?l ?c ?k; (case a => k_is); (case l => k_is); (case c => k_is); (case k => k_is))
    (case dDmgNow => refine' Sw.defAt_mk ?a ?l ?c ?k; (case a => k_is); (case l => k_is); (case c => k_is); (case k => k_is))
    (case dForget => refine' Sw.defAt_mk ?a ?l ?c ?k; (case a => k_is); (case l => k_is); (case c => k_is); (case k => k_is))
    (case dKeep => refine' Sw.defAt_mk ?a ?l ?c ?k; (case a => k_is); (case l => k_is); (case c => k_is); (case k => k_is))
    (case dAsStep => refine' Sw.defAt_mk ?a ?l ?c ?k; (case a => k_is); (case l => k_is); (case c => k_is); (case k => k_is))
    (case dRoom => refine' Sw.defAt_mk ?a ?l ?c ?k; (case a => k_is); (case l => k_is); (case c => k_is); (case k => k_is))
    (case dBtwn => refine' Sw.defAt_mk ?a ?l ?c ?k; (case a => k_is); (case l => k_is); (case c => k_is); (case k => k_is))
    (case dCounted => refine' Sw.defAt_mk ?a ?l ?c ?k; (case a => k_is); (case l => k_is); (case c => k_is); (case k => k_is))
    (case dTold => refine' Sw.defAt_mk ?a ?l ?c ?k; (case a => k_is); (case l => k_is); (case c => k_is); (case k => k_is))
    (case dAnswer => refine' Sw.defAt_mk ?a ?l ?c ?k; (case a => k_is); (case l => k_is); (case c => k_is); (case k => k_is))
    (case dStart => refine' Sw.defAt_mk ?a ?l ?c ?k; (case a => k_is); (case l => k_is); (case c => k_is); (case k => k_is))
    (case dRead => refine' Sw.defAt_mk ?a ?l ?c ?k; (case a => k_is); (case l => k_is); (case c => k_is); (case k => k_is))
    (case dReads => refine' Sw.defAt_mk ?a ?l ?c ?k; (case a => k_is); (case l => k_is); (case c => k_is); (case k => k_is))
    (case dLeft => refine' Sw.defAt_mk ?a ?l ?c ?k; (case a => k_is); (case l => k_is); (case c => k_is); (case k => k_is))
    (case dDone => refine' Sw.defAt_mk ?a ?l ?c ?k; (case a => k_is); (case l => k_is); (case c => k_is); (case k => k_is))
    (case dHalves => refine' Sw.defAt_mk ?a ?l ?c ?k; (case a => k_is); (case l => k_is); (case c => k_is); (case k => k_is))
    (case dHarmC => refine' Sw.defAt_mk ?a ?l ?c ?k; (case a => k_is); (case l => k_is); (case c => k_is); (case k => k_is))
    (case dDamage => refine' Sw.defAt_mk ?a ?l ?c ?k; (case a => k_is); (case l => k_is); (case c => k_is); (case k => k_is))
    (case dLife => refine' Sw.defAt_mk ?a ?l ?c ?k; (case a => k_is); (case l => k_is); (case c => k_is); (case k => k_is))
    (case dWould => refine' Sw.defAt_mk ?a ?l ?c ?k; (case a => k_is); (case l => k_is); (case c => k_is); (case k => k_is))
    (case dMost => refine' Sw.defAt_mk ?a ?l ?c ?k; (case a => k_is); (case l => k_is); (case c => k_is); (case k => k_is))
    (case dCount => refine' Sw.defAt_mk ?a ?l ?c ?k; (case a => k_is); (case l => k_is); (case c => k_is); (case k => k_is))
    (case dGreatest => refine' Sw.defAt_mk ?a ?l ?c ?k; (case a => k_is); (case l => k_is); (case c => k_is); (case k => k_is))
    (case dAgain => refine' Sw.defAt_mk ?a ?l ?c ?k; (case a => k_is); (case l => k_is); (case c => k_is); (case k => k_is))
    (case dTimes => refine' Sw.defAt_mk ?a ?l ?c ?k; (case a => k_is); (case l => k_is); (case c => k_is); (case k => k_is))
    (case dUndo => refine' Sw.defAt_mk ?a ?l ?c ?k; (case a => k_is); (case l => k_is); (case c => k_is); (case k => k_is))
    (case dClear => refine' Sw.defAt_mk ?a ?l ?c ?k; (case a => k_is); (case l => k_is); (case c => k_is); (case k => k_is))
    (case dClose => refine' Sw.defAt_mk ?a ?l ?c ?k; (case a => k_is); (case l => k_is); (case c => k_is); (case k => k_is))
    (case dState => refine' Sw.defAt_mk ?a ?l ?c ?k; (case a => k_is); (case l => k_is); (case c => k_is); (case k => k_is))
    (case aZ => k_is)
    (case lZ => k_is)
    (case cZ => k_is)
    (case kZ => k_is)
    (case cT => refine' Sw.klsAt_mk ?a ?pg ?hd ?po ?sa ?mk ?kc; (case a => k_is); (case pg => k_is); (case hd => k_is); (case po => k_is); (case sa => k_is); (case mk => k_is); (case kc => k_is))
    (case cP => refine' Sw.klsAt_mk ?a ?pg ?hd ?po ?sa ?mk ?kc; (case a => k_is); (case pg => k_is); (case hd => k_is); (case po => k_is); (case sa => k_is); (case mk => k_is); (case kc => k_is))
    (case cL => refine' Sw.klsAt_mk ?a ?pg ?hd ?po ?sa ?mk ?kc; (case a => k_is); (case pg => k_is); (case hd => k_is); (case po => k_is); (case sa => k_is); (case mk => k_is); (case kc => k_is))
    (case mTI => refine' Sw.methAt_mk ?a ?i ?l ?c ?k; (case a => k_is); (case i => k_is); (case l => k_is); (case c => k_is); (case k => k_is))
    (case mPI => refine' Sw.methAt_mk ?a ?i ?l ?c ?k; (case a => k_is); (case i => k_is); (case l => k_is); (case c => k_is); (case k => k_is))
    (case mLI => refine' Sw.methAt_mk ?a ?i ?l ?c ?k; (case a => k_is); (case i => k_is); (case l => k_is); (case c => k_is); (case k => k_is))
    (case mLH => refine' Sw.methAt_mk ?a ?i ?l ?c ?k; (case a => k_is); (case i => k_is); (case l => k_is); (case c => k_is); (case k => k_is))
    (case mLN => refine' Sw.methAt_mk ?a ?i ?l ?c ?k; (case a => k_is); (case i => k_is); (case l => k_is); (case c => k_is); (case k => k_is))
    (case mLR => refine' Sw.methAt_mk ?a ?i ?l ?c ?k; (case a => k_is); (case i => k_is); (case l => k_is); (case c => k_is); (case k => k_is))
    (case nCT0 => k_is)
    (case nCT1 => k_is)
    (case nCT2 => k_is)
    (case nCT3 => k_is)
    (case nCP0 => k_is)
    (case nCP1 => k_is)
    (case nCP2 => k_is)
    (case nCP3 => k_is)
    (case nCP4 => k_is)
    (case nCL0 => k_is)
    (case nCL1 => k_is)
    (case o_min => k_is)
    (case o_max => k_is)
    (case o_len => k_is)
    (case o_abs => k_is)
    (case o_sum => k_is)
    (case o_all => k_is)
    (case o_range => k_is)
    (case o_list => k_is)
    (case o_zip => k_is)
    (case i0 => refine' Sw.intAt_mk ?a; (case a => k_is))
    (case i1 => refine' Sw.intAt_mk ?a; (case a => k_is))
    (case i2 => refine' Sw.intAt_mk ?a; (case a => k_is))
    (case i3 => refine' Sw.intAt_mk ?a; (case a => k_is))
    (case i4 => refine' Sw.intAt_mk ?a; (case a => k_is))
    (case i5 => refine' Sw.intAt_mk ?a; (case a => k_is))
    (case i6 => refine' Sw.intAt_mk ?a; (case a => k_is))
    (case i7 => refine' Sw.intAt_mk ?a; (case a => k_is))
    (case i8 => refine' Sw.intAt_mk ?a; (case a => k_is))
    (case i9 => refine' Sw.intAt_mk ?a; (case a => k_is))
    (case i10 => refine' Sw.intAt_mk ?a; (case a => k_is))
    (case i11 => refine' Sw.intAt_mk ?a; (case a => k_is))
    (case i12 => refine' Sw.intAt_mk ?a; (case a => k_is))
    (case i13 => refine' Sw.intAt_mk ?a; (case a => k_is))
    (case dC => refine' Sw.dicAt_mk ?n ?l ?e ?hk ?ho; (case n => k_is); (case l => k_is); (case e => rfl); (case hk => exact Sw.hk_all _ (by decide +kernel)); (case ho => exact ⟨rfl, rfl, rfl⟩))
    (case dS => refine' Sw.dicAt_mk ?n ?l ?e ?hk ?ho; (case n => k_is); (case l => k_is); (case e => rfl); (case hk => exact Sw.hk_all _ (by decide +kernel)); (case ho => exact ⟨rfl, rfl, rfl⟩))
    (case s0 => refine' Sw.shAt_mk ?l ?e1 ?e2; (case l => k_is); (case e1 => rfl); (case e2 => rfl))
    (case s1 => refine' Sw.shAt_mk ?l ?e1 ?e2; (case l => k_is); (case e1 => rfl); (case e2 => rfl))
    (case s2 => refine' Sw.shAt_mk ?l ?e1 ?e2; (case l => k_is); (case e1 => rfl); (case e2 => rfl))
    (case s3 => refine' Sw.shAt_mk ?l ?e1 ?e2; (case l => k_is); (case e1 => rfl); (case e2 => rfl))
    (case s4 => refine' Sw.shAt_mk ?l ?e1 ?e2; (case l => k_is); (case e1 => rfl); (case e2 => rfl))
    (case s5 => refine' Sw.shAt_mk ?l ?e1 ?e2; (case l => k_is); (case e1 => rfl); (case e2 => rfl))
    (case s6 => refine' Sw.shAt_mk ?l ?e1 ?e2; (case l => k_is); (case e1 => rfl); (case e2 => rfl))
    (case s7 => refine' Sw.shAt_mk ?l ?e1 ?e2; (case l => k_is); (case e1 => rfl); (case e2 => rfl))
    (case s8 => refine' Sw.shAt_mk ?l ?e1 ?e2; (case l => k_is); (case e1 => rfl); (case e2 => rfl))
    (case s9 => refine' Sw.shAt_mk ?l ?e1 ?e2; (case l => k_is); (case e1 => rfl); (case e2 => rfl))
    (case s10 => refine' Sw.shAt_mk ?l ?e1 ?e2; (case l => k_is); (case e1 => rfl); (case e2 => rfl))
    (case s11 => refine' Sw.shAt_mk ?l ?e1 ?e2; (case l => k_is); (case e1 => rfl); (case e2 => rfl))
    (case s12 => refine' Sw.shAt_mk ?l ?e1 ?e2; (case l => k_is); (case e1 => rfl); (case e2 => rfl))
    (case s13 => refine' Sw.shAt_mk ?l ?e1 ?e2; (case l => k_is); (case e1 => rfl); (case e2 => rfl))
    (case s14 => refine' Sw.shAt_mk ?l ?e1 ?e2; (case l => k_is); (case e1 => rfl); (case e2 => rfl))
    (case s15 => refine' Sw.shAt_mk ?l ?e1 ?e2; (case l => k_is); (case e1 => rfl); (case e2 => rfl))
    (case s16 => refine' Sw.shAt_mk ?l ?e1 ?e2; (case l => k_is); (case e1 => rfl); (case e2 => rfl))
    (case s17 => refine' Sw.shAt_mk ?l ?e1 ?e2; (case l => k_is); (case e1 => rfl); (case e2 => rfl))
    (case s18 => refine' Sw.shAt_mk ?l ?e1 ?e2; (case l => k_is); (case e1 => rfl); (case e2 => rfl))
  case S =>
    intro K H xs a hO hwi hask hx
    cases hx with
    | cons h1 h2 =>
      cases h2
      cases h1 with
      | lst hs ha =>
        have e := L2.ints_dw a.1 _ ha
        subst e
        exact ⟨_, a.1, rfl, hs, hask, fun H' p hp => .lst (L2.SqL.of hp) (L2.dw_ints _)⟩

