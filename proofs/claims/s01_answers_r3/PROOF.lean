import PyProof.Rows.All
import Wide.All
import OpenK.AllK
import Wide.FinOn
import PyProof.EqAt
import PyProof.EqKinds
import PyProof.TupleCall
import KE.BitLaws
import Open.SpecLaws
import KE.OsHead
import KE.OsGo
import PyFlatLaws
import PySem.Challenge.RW_shipstores_s01_answers
section
set_option Elab.async false
set_option linter.all false
set_option maxRecDepth 100000
namespace L2
open PySem PySem.Spec PyProof.Rows
/-- a key: an int or a str -/
abbrev Key := Sum Int Str
def keyIs : Key → Value → Bool
  | .inl k, v => Value.isInt k v
  | .inr x, v => Value.isStrOf x v
def keyH (w : World) : Key → Int
  | .inl k => hashInt k
  | .inr x => hashStr w x
theorem keyIs_shape : ∀ {k : Key} {v : Value}, keyIs k v = true → (∃ i t, k = Sum.inl i ∧ v = Value.int i t) ∨ (∃ x t, k = Sum.inr x ∧ v = Value.str x t)
  | .inl i, v, h => by
    obtain ⟨t, e⟩ := Value.isInt_shape (k := i) (v := v) h
    exact .inl ⟨i, t, rfl, e⟩
  | .inr x, v, h => by
    obtain ⟨t, e⟩ := Value.isStrOf_shape (x := x) (v := v) h
    exact .inr ⟨x, t, rfl, e⟩
theorem key_ll (a b : Int) : decide ((Sum.inl a : Key) = Sum.inl b) = (a == b) := by
  by_cases e : a = b
  · subst e; simp
  · have h : ¬ (Sum.inl a : Key) = Sum.inl b := fun q => e (Sum.inl.inj q)
    rw [decide_eq_false h]
    exact (beq_eq_false_iff_ne.mpr e).symm
theorem key_rr (a b : Str) : decide ((Sum.inr a : Key) = Sum.inr b) = decide (a = b) := by
  by_cases e : a = b
  · subst e; simp
  · have h : ¬ (Sum.inr a : Key) = Sum.inr b := fun q => e (Sum.inr.inj q)
    rw [decide_eq_false h, decide_eq_false e]
theorem key_lr (a : Int) (b : Str) : decide ((Sum.inl a : Key) = Sum.inr b) = false := decide_eq_false (fun q => nomatch q)
theorem key_rl (a : Str) (b : Int) : decide ((Sum.inr a : Key) = Sum.inl b) = false := decide_eq_false (fun q => nomatch q)
def mixKind (prog : Program) (w : World) : PySem.KeyKind prog w Key where
  is := keyIs
  hash := keyH w
  inj := fun v a b ha hb => by
    rcases keyIs_shape ha with ⟨i, t, rfl, rfl⟩ | ⟨x, t, rfl, rfl⟩
    · rcases keyIs_shape hb with ⟨j, u, rfl, e⟩ | ⟨y, u, rfl, e⟩
      · injection e with e1 _; rw [e1]
      · exact nomatch e
    · rcases keyIs_shape hb with ⟨j, u, rfl, e⟩ | ⟨y, u, rfl, e⟩
      · exact nomatch e
      · injection e with e1 _; rw [e1]
  byValue := fun k v h => by
    rcases keyIs_shape h with ⟨i, t, rfl, rfl⟩ | ⟨x, t, rfl, rfl⟩ <;> rfl
  pyHash := fun hv h => by
    rcases keyIs_shape hv with ⟨i, t, rfl, rfl⟩ | ⟨x, t, rfl, rfl⟩
    · exact wpAny_pyHash_int h
    · exact wpAny_pyHash_str h
  eqBool := fun hu hv h => by
    rcases keyIs_shape hu with ⟨i, t, rfl, rfl⟩ | ⟨x, t, rfl, rfl⟩
    · rcases keyIs_shape hv with ⟨j, u, rfl, rfl⟩ | ⟨y, u, rfl, rfl⟩
      · rw [key_ll] at h; exact wpAny_eqBool_int h
      · rw [key_lr] at h; exact SeqAt.EqAt.int_str i t y u _ _ _ _ h
    · rcases keyIs_shape hv with ⟨j, u, rfl, rfl⟩ | ⟨y, u, rfl, rfl⟩
      · rw [key_rl] at h; exact SeqAt.EqAt.str_int x t j u _ _ _ _ h
      · rw [key_rr] at h; exact wpAny_eqBool_str h
  «strs» := fun k x t v h => by
    rcases keyIs_shape h with ⟨i, u, rfl, e⟩ | ⟨y, u, rfl, e⟩
    · exact nomatch e
    · injection e with e1 _
      subst e1
      cases v <;> rfl
end L2
namespace L2
open PySem PySem.Spec PyProof.Rows
/-- a value, without the heap -/
inductive V where
  | non | bl (b : Bool) | int (i : Int) | str (x : Str) | byt (b : Array UInt8) | flt (b : UInt64) | ref (a : Addr) | ty (n : String)
  deriving DecidableEq
def RelV : V → Value → Prop
  | .non, u => u = Value.none
  | .bl b, u => u = Value.bool b
  | .int i, u => ∃ t, u = Value.int i t
  | .str x, u => ∃ t, u = Value.str x t
  | .byt b, u => ∃ t, u = Value.bytes b t
  | .flt b, u => ∃ t, u = Value.float b t
  | .ref a, u => u = Value.ref a
  | .ty n, u => u = Value.type n
abbrev Vals : List V → List Value → Prop := Paired RelV
theorem Vals.length {xs : List V} {us : List Value} (r : Vals xs us) : xs.length = us.length := Paired.length r
theorem Vals.get : ∀ {xs : List V} {us : List Value} {i : Nat} {x : V}, Vals xs us → xs[i]? = some x → ∃ u, us[i]? = some u ∧ RelV x u
  | _, _, _, _, .nil, e => by simp at e
  | _, _, 0, _, .cons r _, e => by simp at e; subst e; exact ⟨_, rfl, r⟩
  | _, _, i + 1, x, .cons _ t, e => by
    obtain ⟨u, h1, h2⟩ := Vals.get (i := i) (x := x) t (by simpa using e)
    exact ⟨u, by simpa using h1, h2⟩
theorem Vals.set {x : V} {u : Value} (r : RelV x u) : ∀ {xs : List V} {us : List Value} (i : Nat), Vals xs us → Vals (xs.set i x) (us.set i u)
  | _, _, _, .nil => .nil
  | _, _, 0, .cons _ t => .cons r t
  | _, _, i + 1, .cons q t => .cons q (Vals.set r i t)
theorem Vals.append : ∀ {xs ys : List V} {us ws : List Value}, Vals xs us → Vals ys ws → Vals (xs ++ ys) (us ++ ws)
  | _, _, _, _, .nil, s => s
  | _, _, _, _, .cons r t, s => .cons r (Vals.append t s)
theorem Vals.take : ∀ {xs : List V} {us : List Value} (n : Nat), Vals xs us → Vals (xs.take n) (us.take n)
  | _, _, 0, _ => .nil
  | _, _, _ + 1, .nil => .nil
  | _, _, n + 1, .cons r t => .cons r (Vals.take n t)
theorem Vals.drop : ∀ {xs : List V} {us : List Value} (n : Nat), Vals xs us → Vals (xs.drop n) (us.drop n)
  | _, _, 0, r => r
  | _, _, _ + 1, .nil => .nil
  | _, _, n + 1, .cons _ t => Vals.drop n t
def RelO : Option V → Option Value → Prop
  | some v, some u => RelV v u
  | none, none => True
  | _, _ => False
def KV {κ : Type} : List (κ × V) → List (κ × Value) → Prop := Paired fun (p : κ × V) (q : κ × Value) => p.1 = q.1 ∧ RelV p.2 q.2
/-- a key of a dict (00_mix): an int or a text -/
def kV : Key → V
  | .inl i => .int i
  | .inr x => .str x
/-- what stands at a tracked address -/
inductive HO where
  /-- a list -/
  | lst (xs : List V)
  /-- a tuple (never changes) -/
  | tup (xs : List V)
  /-- a dict whose keys are ints and texts; one whose keys are tuples of ints and texts (the empty one is both) -/
  | dK (kvs : List (Key × V)) | dT (kvs : List (List Key × V))
  /-- a set of ints: its members, its size -/
  | set (S : Int → Bool) (n : Nat)
  /-- an instance of the class at C, its dict at dx, its attributes -/
  | ins (C dx : Addr) (fs : List (Str × V))
  /-- the dict of the instance at x -/
  | own (x : Addr)
  /-- the dict of an exception -/
  | xd (fs : List (Str × V))
  /-- a bound method, f of x -/
  | met (f x : Addr)
  /-- a range object lo, lo + 1, .. below hi -/
  | rng (lo hi : Int)
  /-- a thing that is known to the object (the script; a dict while a loop walks it): read, never written while it is so -/
  | frz (o : Obj) (u : HO)
  /-- a code object's table -/
  | tbl (ps : Array Value)
  /-- any other thing, by what is true of its one object (a def of one's own: SetO a S n := HO.ext fun h => ..) -/
  | ext (φ : Heap → Prop)
abbrev Hp := Addr → Option HO
def upd (H : Hp) (a : Addr) (o : HO) : Hp := fun b => if b = a then some o else H b
theorem upd_same {H : Hp} {a : Addr} {o : HO} : upd H a o a = some o := by unfold upd; rw [if_pos rfl]
theorem upd_ne {H : Hp} {a b : Addr} {o : HO} (h : b ≠ a) : upd H a o b = H b := by unfold upd; rw [if_neg h]
/-- two objects of different content stand apart -/
theorem ne_of {H : Hp} {a b : Addr} {o u : HO} (h : H a = some o) (h' : H b = some u) (d : o ≠ u) : a ≠ b := by
  intro e; subst e; rw [h] at h'; exact d (Option.some.inj h')
theorem ne_of_none {H : Hp} {a b : Addr} {o : HO} (h : H a = some o) (h' : H b = none) : a ≠ b := by
  intro e; subst e; rw [h] at h'; cases h'
section
variable (P : Program) (w : World)
def ObjOk (H : Hp) (h : Heap) (a : Addr) : HO → Prop
  | .lst xs => xs.length ≤ sizeLine ∧ ∃ (its : List Value) (n : Nat), Vals xs its ∧ h.get? a = some { cls := .type "list", data := .seq its.toArray n }
  | .tup xs => xs.length ≤ sizeLine ∧ ∃ its : List Value, Vals xs its ∧ IsTup h a its.toArray
  | .dK kvs => kvs.length ≤ sizeLine ∧ (a == sysModules) = false ∧ ∃ vs, KV kvs vs ∧ h.DictOf (mixKind P w) a vs
  | .dT kvs => kvs.length ≤ sizeLine ∧ (a == sysModules) = false ∧ ∃ xs : List (List Key × Addr × Value),
      Paired (fun (p : List Key × V) (q : List Key × Addr × Value) => p.1 = q.1 ∧ H q.2.1 = some (.tup (p.1.map kV)) ∧ RelV p.2 q.2.2) kvs xs ∧
      ∃ o es ep, h.get? a = some o ∧ o.ExactDict ∧ o.data = .dict es ep ∧ es.toList = xs.map (entryOfKey (tupleKind (mixKind P w))) ∧ (xs.map (·.1)).Nodup
  | .set S n => h.SetOf (intKind P w) a S n
  | .ins C dx fs => H dx = some (.own a) ∧ fs.length ≤ 1000 ∧ dx ≠ a ∧ h.get? a = some (PySem.W.instObj C dx) ∧
      ∃ mA, h.Ns1 dx mA ∧ (∀ f, RelO (fs.lookup f) (mA f)) ∧ PySem.Within mA (fs.map (·.1))
  | .own _ => ∃ o, h.get? a = some o
  | .xd fs => ∃ mA, h.Ns1 a mA ∧ ∀ f, RelO (fs.lookup f) (mA f)
  | .rng lo hi => ∃ t u v, h.get? a = some { cls := .type "range", data := .fields #[.int lo t, .int hi u, .int 1 v] }
  | .frz o u => h.get? a = some o ∧ ObjOk H h a u
  | .tbl ps => h.get? a = some { cls := .none, data := .fields ps }
  | .met f x => h.get? a = some (PySem.W.methodObj (.ref f) (.ref x))
  | .ext φ => φ h ∧ (∃ o, h.get? a = some o) ∧ ∀ h1 h2 : Heap, φ h1 → (∀ o, h1.get? a = some o → h2.get? a = some o) → φ h2
/-- the abstract heap is held -/
def HOk (H : Hp) (h : Heap) : Prop := ∀ a o, H a = some o → ObjOk P w H h a o
end
section
variable {P : Program} {w : World} {H H' : Hp} {h h' : Heap} {a : Addr} {o : HO}
theorem ObjOk.lt (x : ObjOk P w H h a o) : a < h.objs.size := by
  cases o with
  | lst xs => obtain ⟨_, _, _, _, e⟩ := x; exact Heap.lt_size e
  | tup xs => obtain ⟨_, _, _, p⟩ := x; exact p.lt
  | dK kvs => obtain ⟨_, _, _, _, o, _, _, e, _⟩ := x; exact Heap.lt_size e
  | dT kvs => obtain ⟨_, _, _, _, o, _, _, e, _⟩ := x; exact Heap.lt_size e
  | set S n => obtain ⟨o, _, _, _, e, _⟩ := x; exact Heap.lt_size e
  | ins C dx fs => obtain ⟨_, _, _, e, _⟩ := x; exact Heap.lt_size e
  | own y => obtain ⟨_, e⟩ := x; exact Heap.lt_size e
  | xd fs => obtain ⟨_, ⟨_, _, _, e, _⟩, _⟩ := x; exact Heap.lt_size e
  | rng lo hi => obtain ⟨_, _, _, e⟩ := x; exact Heap.lt_size e
  | frz ob u => obtain ⟨e, _⟩ := x; exact Heap.lt_size e
  | tbl ps => exact Heap.lt_size (show h.get? a = some _ from x)
  | met f y => exact Heap.lt_size (show h.get? a = some _ from x)
  | ext φ => obtain ⟨_, ⟨_, e⟩, _⟩ := x; exact Heap.lt_size e
theorem Paired.mapP {α β : Type} {F G : α → β → Prop} : ∀ {l₁ : List α} {l₂ : List β}, Paired F l₁ l₂ → (∀ a b, F a b → G a b) → Paired G l₁ l₂
  | _, _, .nil, _ => .nil
  | _, _, .cons r t, f => .cons (f _ _ r) (Paired.mapP t f)
/-- what an object's description leans on: its own object, its own dict, the tuples -/
theorem ObjOk.stay (x : ObjOk P w H h a o) (k : ∀ b u, (b = a ∨ H b = some (.own a)) → h.get? b = some u → h'.get? b = some u)
    (ho : ∀ b, H b = some (.own a) → H' b = some (.own a)) (ht : ∀ b xs, H b = some (.tup xs) → H' b = some (.tup xs)) : ObjOk P w H' h' a o := by
  induction o with
  | lst xs => obtain ⟨z, its, n, r, e⟩ := x; exact ⟨z, its, n, r, k _ _ (.inl rfl) e⟩
  | tup xs => obtain ⟨z, its, r, ob, e, c⟩ := x; exact ⟨z, its, r, ob, k _ _ (.inl rfl) e, c⟩
  | dK kvs => obtain ⟨z, y, vs, r, ob, es, ep, e, c⟩ := x; exact ⟨z, y, vs, r, ob, es, ep, k _ _ (.inl rfl) e, c⟩
  | dT kvs =>
    obtain ⟨z, y, xs, r, ob, es, ep, e, c⟩ := x
    exact ⟨z, y, xs, Paired.mapP r fun p q z => ⟨z.1, ht _ _ z.2.1, z.2.2⟩, ob, es, ep, k _ _ (.inl rfl) e, c⟩
  | set S n => obtain ⟨ob, es, ep, t, e, c⟩ := x; exact ⟨ob, es, ep, t, k _ _ (.inl rfl) e, c⟩
  | ins C dx fs =>
    obtain ⟨d, z, ne, e, mA, ⟨od, es, ep, e2, c⟩, r⟩ := x
    exact ⟨ho _ d, z, ne, k _ _ (.inl rfl) e, mA, ⟨od, es, ep, k _ _ (.inr d) e2, c⟩, r⟩
  | own y => obtain ⟨ob, e⟩ := x; exact ⟨ob, k _ _ (.inl rfl) e⟩
  | xd fs => obtain ⟨mA, ⟨od, es, ep, e, c⟩, r⟩ := x; exact ⟨mA, ⟨od, es, ep, k _ _ (.inl rfl) e, c⟩, r⟩
  | rng lo hi => obtain ⟨t, u, v, e⟩ := x; exact ⟨t, u, v, k _ _ (.inl rfl) e⟩
  | frz ob u ih => obtain ⟨e, q⟩ := x; exact ⟨k _ _ (.inl rfl) e, ih q⟩
  | tbl ps =>
    have e : h.get? a = some { cls := .none, data := .fields ps } := x
    show h'.get? a = some { cls := .none, data := .fields ps }
    exact k a _ (.inl rfl) e
  | met f y =>
    have e : h.get? a = some (PySem.W.methodObj (.ref f) (.ref y)) := x
    show h'.get? a = some (PySem.W.methodObj (.ref f) (.ref y))
    exact k a _ (.inl rfl) e
  | ext φ => obtain ⟨p, ⟨o, e⟩, st⟩ := x; exact ⟨st _ _ p fun o q => k _ _ (.inl rfl) q, ⟨o, k _ _ (.inl rfl) e⟩, st⟩
theorem HOk.lt (x : HOk P w H h) (e : H a = some o) : a < h.objs.size := (x a o e).lt
theorem HOk.fresh (x : HOk P w H h) (e : h.objs.size ≤ a) : H a = none := by
  cases q : H a with
  | none => rfl
  | some u => exact absurd (Nat.lt_of_lt_of_le (x.lt q) e) (Nat.lt_irrefl _)
/-- every object of the heap is kept -/
theorem HOk.kept (x : HOk P w H h) (k : ∀ b u, h.get? b = some u → h'.get? b = some u) : HOk P w H h' := fun a o e =>
  (x a o e).stay (fun b u _ q => k b u q) (fun _ q => q) fun _ _ q => q
/-- a new object is laid and tracked -/
theorem HOk.laid (x : HOk P w H h) (k : ∀ b u, h.get? b = some u → h'.get? b = some u) (hp : h.objs.size ≤ a) (new : ObjOk P w (upd H a o) h' a o) : HOk P w (upd H a o) h' := fun b u e => by
  have hn := x.fresh hp
  by_cases hb : b = a
  · subst hb; rw [upd_same] at e; cases e; exact new
  · rw [upd_ne hb] at e
    exact (x b u e).stay (fun c v _ q => k c v q) (fun c q => by rw [upd_ne (ne_of_none q hn)]; exact q) fun c xs q => by rw [upd_ne (ne_of_none q hn)]; exact q
end
/-- what may be read as u: it is u, or a known u -/
def Rd (H : Hp) (a : Addr) (u : HO) : Prop := H a = some u ∨ ∃ o, H a = some (.frz o u)
theorem Rd.ok {P : Program} {w : World} {H : Hp} {h : Heap} {a : Addr} {u : HO} (r : Rd H a u) (x : HOk P w H h) : ObjOk P w H h a u := by
  rcases r with r | ⟨o, r⟩
  · exact x a u r
  · obtain ⟨_, q⟩ := x a _ r
    exact q
/-- what may be written -/
def Mut : Option HO → Prop
  | some (.lst _) => True
  | some (.dK _) => True
  | some (.dT _) => True
  | some (.set _ _) => True
  | some (.ins _ _ _) => True
  | some (.ext _) => True
  | _ => False
section
variable {P : Program} {w : World} {H : Hp} {h h' : Heap} {x e : Addr} {o' : HO}
/-- the object at e is changed: x itself, or the dict of the instance x -/
theorem HOk.write (ok : HOk P w H h) (mu : Mut (H x)) (he : e = x ∨ H e = some (.own x)) (k : ∀ b u, b ≠ e → h.get? b = some u → h'.get? b = some u) (heo : ∃ u, h'.get? e = some u)
    (new : ObjOk P w (upd H x o') h' x o') : HOk P w (upd H x o') h' := fun b u q => by
  have nown : ∀ c y, H c = some (.own y) → c ≠ x := fun c y r z => by subst z; rw [r] at mu; exact mu
  have ntup : ∀ c xs, H c = some (.tup xs) → c ≠ x := fun c xs r z => by subst z; rw [r] at mu; exact mu
  by_cases hb : b = x
  · subst hb; rw [upd_same] at q; cases q; exact new
  · rw [upd_ne hb] at q
    by_cases hbe : b = e
    · have q' : H b = some (.own x) := by
        rcases he with z | z
        · exact absurd (hbe.trans z) hb
        · rw [hbe]; exact z
      rw [q] at q'; cases q'
      obtain ⟨v, hv⟩ := heo
      exact ⟨v, by rw [hbe]; exact hv⟩
    · refine (ok b u q).stay (fun c v hc r => k c v ?_ r) (fun c r => by rw [upd_ne (nown c b r)]; exact r) fun c xs r => by rw [upd_ne (ntup c xs r)]; exact r
      rcases hc with rfl | hc
      · exact hbe
      · rintro rfl
        rcases he with z | z
        · exact nown c b hc z
        · rw [hc] at z; cases z; exact hb rfl
end
structure Un (fs ex : List Addr) (H H' : Hp) (h h' : Heap) : Prop where
  keep : ∀ b o, h.get? b = some o → H b = none → b ∉ fs → b ∉ ex → h'.get? b = some o
  slot : ∀ b o, h.get? b = some o → H b = none → b ∈ fs → b ∉ ex → ∃ sl, h'.get? b = some { o with slots := sl }
  free : ∀ b o, h.get? b = some o → H b = none → b ∉ ex → H' b = none
  there : ∀ b o, h.get? b = some o → b ∉ ex → ∃ o', h'.get? b = some o'
  tups : ∀ b xs, H b = some (.tup xs) → H' b = some (.tup xs)
  frzs : ∀ b o u, H b = some (.frz o u) → H' b = some (.frz o u)
  tbls : ∀ b ps, H b = some (.tbl ps) → ∃ more, H' b = some (.tbl (ps ++ more))
section
variable {fs fs' ex ex' : List Addr} {H H1 H2 : Hp} {h h1 h2 h' : Heap} {a x e : Addr} {o : HO}
theorem Un.any (u : Un fs ex H H1 h h1) {b : Addr} {ob : Obj} (q : h.get? b = some ob) (n : H b = none) (hx : b ∉ ex) : ∃ sl, h1.get? b = some { ob with slots := sl } := by
  by_cases hb : b ∈ fs
  · exact u.slot b ob q n hb hx
  · exact ⟨ob.slots, u.keep b ob q n hb hx⟩
theorem Un.kept (k : ∀ b u, h.get? b = some u → h'.get? b = some u) : Un fs ex H H h h' :=
  ⟨fun b ob q _ _ _ => k b ob q, fun b ob q _ _ _ => ⟨ob.slots, k b ob q⟩, fun _ _ _ n _ => n, fun b ob q _ => ⟨ob, k b ob q⟩, fun _ _ q => q, fun _ _ _ q => q, fun _ ps q => ⟨#[], by rw [q]; simp⟩⟩
theorem Un.refl : Un fs ex H H h h := Un.kept fun _ _ q => q
theorem Un.laid (k : ∀ b u, h.get? b = some u → h'.get? b = some u) (hp : h.objs.size ≤ a) (hn : H a = none) : Un fs ex H (upd H a o) h h' where
  keep := fun b u q _ _ _ => k b u q
  slot := fun b u q _ _ _ => ⟨u.slots, k b u q⟩
  free := fun b u q n _ => by rw [upd_ne (Nat.ne_of_lt (Nat.lt_of_lt_of_le (Heap.lt_size q) hp))]; exact n
  there := fun b u q _ => ⟨u, k b u q⟩
  tups := fun b xs q => by rw [upd_ne (ne_of_none q hn)]; exact q
  frzs := fun b u xs q => by rw [upd_ne (ne_of_none q hn)]; exact q
  tbls := fun b ps q => ⟨#[], by rw [upd_ne (ne_of_none q hn), q]; simp⟩
theorem Un.write (mu : Mut (H x)) (he : e = x ∨ H e = some (.own x)) (k : ∀ b u, b ≠ e → h.get? b = some u → h'.get? b = some u) (heo : ∃ u, h'.get? e = some u) : Un fs ex H (upd H x o) h h' := by
  have hx : ∀ b, H b = none → b ≠ x := fun b n z => by subst z; rw [n] at mu; exact mu
  have hb : ∀ b, H b = none → b ≠ e := fun b n z => by
    subst z
    rcases he with r | r
    · exact hx b n r
    · rw [n] at r; cases r
  have hm : ∀ b u, H b = some u → ¬ Mut (some u) → b ≠ x := fun b u q nm z => by subst z; rw [q] at mu; exact nm mu
  refine ⟨fun b u q n _ _ => k b u (hb b n) q, fun b u q n _ _ => ⟨u.slots, k b u (hb b n) q⟩, fun b u q n _ => by rw [upd_ne (hx b n)]; exact n, fun b u q _ => ?_,
    fun b xs q => by rw [upd_ne (hm b _ q fun z => z)]; exact q, fun b u xs q => by rw [upd_ne (hm b _ q fun z => z)]; exact q, fun b ps q => ⟨#[], by rw [upd_ne (hm b _ q fun z => z), q]; simp⟩⟩
  by_cases hbe : b = e
  · subst hbe; exact heo
  · exact ⟨u, k b u hbe q⟩
end
def trk (h : Heap) (H : Hp) : List Addr := (List.range h.objs.size).filter fun a => (H a).isSome
def hidT (h : Heap) (H : Hp) : Heap := PySem.W.hideAll h (trk h H)
theorem hidT_size (h : Heap) (H : Hp) : (hidT h H).objs.size = h.objs.size := PySem.W.hideAll_size _ _
theorem hidT_get {h : Heap} {H : Hp} {b : Addr} {o : Obj} (e : h.get? b = some o) (n : H b = none) : (hidT h H).get? b = some o :=
  PySem.W.hideAll_get _ e fun hm => by
    have q : (H b).isSome = true := (List.mem_filter.mp hm).2
    rw [n] at q; simp at q
theorem of_hidT {h : Heap} {H : Hp} {b : Addr} {o : Obj} (e : (hidT h H).get? b = some o) : h.get? b = some o ∧ H b = none := by
  have e' : h.get? b = some o := PySem.W.of_hideAll (trk h H) e
  refine ⟨e', ?_⟩
  cases q : H b with
  | none => rfl
  | some x =>
    have hm : b ∈ trk h H := List.mem_filter.mpr ⟨List.mem_range.mpr (Heap.lt_size e'), by simp [q]⟩
    have z : (hidT h H).get? b = none := PySem.W.hideAll_none (trk h H) hm
    rw [z] at e; cases e
end L2
namespace L2
open PySem PySem.Spec PyProof.Rows
/-- the module's facts, over the base: the heap at the law's entry without what is tracked there -/
structure Mod (K : PySem.W.Frag) (mg : Str → Option Value) (base : Heap) : Prop where
  kin : K.In base
  glob : base.Ns mainGlobals mg
  blt : ∃ mb, base.Ns builtinsNs mb ∧ ∀ x : Str, x ≠ "__name__" → mb x = bootBuiltins x
  nolimit : base.NoLimit
/-- the context: a def's body (or a comprehension's block) running. base: fixed through the whole law; s₀, H₀: the entry; outer: the frames whose slots others may change (a def's callers); stack: all frames that run;
   ex: iterators that were made ahead of the entry and are walked here (a comprehension's); fn: the names whose cells were made at the entry (a def: all; a comprehension's block: its own); calm: not within an except suite; pn: pins that every state bears; xe: what is wanted of an exception that leaves the code -/
structure Cx where
  prog : Program
  w : World
  K : PySem.W.Frag
  mg : Str → Option Value
  base : Heap
  A : Around
  N : List Str
  s_0 : Shared
  H_0 : Hp
  env : Env
  outer : List Env
  stack : List Env
  ex : List Addr
  fn : Str → Bool
  calm : Bool
  pn : List (Addr × Obj)
  xe : Value → Shared → Prop
/-- the callers' frames -/
def frs (l : List Env) : List Addr := l.filterMap (·.frame)
abbrev Cx.fs (X : Cx) : List Addr := frs X.outer
def Vis (sc : Scope) (x : Str) : Prop := sc.names.lookup x = some .local ∨ sc.names.lookup x = some .cell ∨ sc.names.lookup x = some .free
def Loc (sc : Scope) (x : Str) : Prop := sc.names.lookup x = some .local ∨ sc.names.lookup x = some .cell
def Look (env : Env) (h : Heap) (m : Str → Option Value) (x : Str) (u : Value) : Prop :=
  (env.kindOf x = some .local ∧ m x = some u) ∨ ((env.kindOf x = some .cell ∨ env.kindOf x = some .free) ∧ ∃ c, env.cells.lookup x = some c ∧ h.IsCell c (some u))
structure Cx.Ok (X : Cx) : Prop where
  mod : Mod X.K X.mg X.base
  kind : X.env.scope.kind = .function
  glob : X.env.globals = mainGlobals
  blt : X.env.builtins = builtinsNs
  above : X.s_0.heap.objs.size ≤ X.env.locals
  inj : ∀ x y c, X.env.cells.lookup x = some c → X.env.cells.lookup y = some c → x = y
  has : ∀ x, (X.env.kindOf x = some .cell ∨ X.env.kindOf x = some .free) → ∃ c, X.env.cells.lookup x = some c
  cab : ∀ x c, X.fn x = true → X.env.cells.lookup x = some c → X.s_0.heap.objs.size ≤ c
  hd : X.calm = true → X.A.handled = none
  frames : X.A.frames = some X.stack
  stk : X.stack = X.outer ∨ (X.stack = X.env :: X.outer ∧ X.env.frame = some X.env.locals)
  exf : ∀ b ∈ X.ex, b ≠ X.env.locals ∧ ∀ x c, X.env.cells.lookup x = some c → c ≠ b
  bs : ∀ b o, X.base.get? b = some o → X.s_0.heap.get? b = some o ∧ X.H_0 b = none
  bsz : X.base.objs.size ≤ X.s_0.heap.objs.size
  noex : ∀ b o, X.base.get? b = some o → b ∉ X.ex
  exfs : ∀ b ∈ X.ex, b ∉ X.fs
  funs : X.s_0.heap.FunFrames X.base X.outer
  frf : ∀ b ∈ X.fs, X.H_0 b = none
structure Inv (X : Cx) (pins : List (Addr × Obj)) (σ : List (Option V)) (H : Hp) (s : Shared) : Prop where
  ok : X.Ok
  os : s.os = X.s_0.os
  bare : AllBare s.gens
  base : Un X.fs X.ex X.H_0 H X.s_0.heap s.heap
  loc : ∃ m, s.heap.Ns X.env.locals m ∧ ∀ (i : Nat) (x : Str) (v : V), X.N[i]? = some x → σ[i]? = some (some v) → Vis X.env.scope x → ∃ u, RelV v u ∧ Look X.env s.heap m x u
  cell : ∀ x c, X.env.cells.lookup x = some c → ∃ v, s.heap.IsCell c v
  free : H X.env.locals = none
  freeC : ∀ x c, X.env.cells.lookup x = some c → H c = none
  pin : ∀ p ∈ X.pn ++ pins, s.heap.get? p.1 = some p.2 ∧ H p.1 = none ∧ p.1 ≠ X.env.locals ∧ p.1 ∉ X.fs ∧ ∀ v, p.2.data ≠ .cell v
  hok : HOk X.prog X.w H s.heap
  len : σ.length = X.N.length
section
variable {X : Cx} {pins : List (Addr × Obj)} {σ : List (Option V)} {H H' : Hp} {s : Shared} {h' : Heap}
theorem Cx.Ok.nofr (ok : X.Ok) {b : Addr} {o : Obj} (e : X.base.get? b = some o) : b ∉ X.fs := fun hb => by
  have := (ok.funs.mem hb).1
  rw [e] at this; cases this
theorem Inv.bs (I : Inv X pins σ H s) : ∀ b o, X.base.get? b = some o → s.heap.get? b = some o ∧ H b = none := fun b o e =>
  ⟨I.base.keep b o (I.ok.bs b o e).1 (I.ok.bs b o e).2 (I.ok.nofr e) (I.ok.noex b o e), I.base.free b o (I.ok.bs b o e).1 (I.ok.bs b o e).2 (I.ok.noex b o e)⟩
theorem Inv.bk (I : Inv X pins σ H s) : ∀ b o, X.base.get? b = some o → s.heap.get? b = some o := fun b o e => (I.bs b o e).1
theorem Inv.mod (I : Inv X pins σ H s) : Mod X.K X.mg X.base := I.ok.mod
theorem Inv.kIn (I : Inv X pins σ H s) : X.K.In s.heap := I.ok.mod.kin.keeps I.bk
theorem Inv.lt (I : Inv X pins σ H s) : X.env.locals < s.heap.objs.size := let ⟨_, hn, _⟩ := I.loc; hn.lt
theorem Inv.sz (I : Inv X pins σ H s) : X.s_0.heap.objs.size ≤ s.heap.objs.size := Nat.le_trans I.ok.above (Nat.le_of_lt I.lt)
theorem Inv.nofs (I : Inv X pins σ H s) {a : Addr} (h : s.heap.objs.size ≤ a) : a ∉ X.fs := fun hb => by
  obtain ⟨_, o, ho, _⟩ := I.ok.funs.mem hb
  exact absurd (Nat.lt_of_lt_of_le (Heap.lt_size ho) (Nat.le_trans I.sz h)) (Nat.lt_irrefl _)
theorem Inv.cne (I : Inv X pins σ H s) : ∀ x c, X.env.cells.lookup x = some c → c ≠ X.env.locals := fun x c e z => by
  obtain ⟨v, o, ho, hd⟩ := I.cell x c e
  obtain ⟨m, ⟨o', es, ep, ho', hd', _⟩, _⟩ := I.loc
  rw [z, ho'] at ho; cases ho; rw [hd'] at hd; cases hd
theorem Inv.funs (I : Inv X pins σ H s) : s.heap.FunFrames X.base X.outer := by
  have all : ∀ (l : List Env), (∀ b ∈ frs l, b ∈ X.fs) → X.s_0.heap.FunFrames X.base l → s.heap.FunFrames X.base l := by
    intro l
    induction l with
    | nil => intro _ _; trivial
    | cons env r ih =>
      intro hs hl
      obtain ⟨hk, ⟨L, o, hf, hn, ho, hd⟩, hr⟩ := hl
      have hL : L ∈ X.fs := hs L (by unfold frs; rw [List.filterMap_cons, hf]; exact List.mem_cons_self)
      obtain ⟨sl, e⟩ := I.base.slot L o ho (I.ok.frf L hL) hL fun z => I.ok.exfs L z hL
      exact ⟨hk, ⟨L, _, hf, hn, e, hd⟩, ih (fun b hb => hs b (by unfold frs; rw [List.filterMap_cons, hf]; exact List.mem_cons_of_mem _ hb)) hr⟩
  exact all X.outer (fun _ hb => hb) I.ok.funs
/-- the frames that run, for a call -/
theorem Inv.stack (I : Inv X pins σ H s) : s.heap.FunFrames X.base X.stack := by
  rcases I.ok.stk with e | ⟨e, hf⟩
  · rw [e]; exact I.funs
  · rw [e]
    obtain ⟨m, hn, _⟩ := I.loc
    refine .cons (by rw [I.ok.kind]; decide) hf hn ?_ I.funs
    exact Heap.get?_none_of_le (Nat.le_trans I.ok.bsz I.ok.above)
theorem Inv.stkSub (I : Inv X pins σ H s) : ∀ b ∈ frs X.stack, b ∈ X.env.locals :: X.fs := fun b hb => by
  rcases I.ok.stk with e | ⟨e, hf⟩
  · rw [e] at hb; exact List.mem_cons_of_mem _ hb
  · rw [e] at hb
    unfold frs at hb
    rw [List.filterMap_cons, hf] at hb
    exact hb
theorem Inv.stkFree (I : Inv X pins σ H s) : ∀ b ∈ frs X.stack, H b = none := fun b hb => by
  rcases List.mem_cons.mp (I.stkSub b hb) with e | hb
  · rw [e]; exact I.free
  · obtain ⟨_, o, ho, _⟩ := I.ok.funs.mem hb
    exact I.base.free b o ho (I.ok.frf b hb) fun z => I.ok.exfs b z hb
/-- THE STEP: the untracked objects but the frame and the records at ch are kept (the callers' frames up to slots), the frame's map is kept, the new abstract heap is held -/
theorem Inv.step {g' : Array GenState} {t' : Nat} {d' : Drawn} {ch : List Addr} (I : Inv X pins σ H s)
    (hch : ∀ b ∈ ch, (b ∈ X.ex ∨ X.s_0.heap.objs.size ≤ b) ∧ b ≠ X.env.locals ∧ (∀ x c, X.env.cells.lookup x = some c → c ≠ b) ∧ ∀ p ∈ X.pn ++ pins, p.1 ≠ b)
    (keep : ∀ b o, b ≠ X.env.locals → b ∉ X.fs → b ∉ ch → s.heap.get? b = some o → H b = none → h'.get? b = some o)
    (slot : ∀ b o, b ≠ X.env.locals → b ∈ X.fs → b ∉ ch → s.heap.get? b = some o → H b = none → ∃ sl, h'.get? b = some { o with slots := sl }) (free : ∀ b o, b ∉ ch → s.heap.get? b = some o → H b = none → H' b = none)
    (there : ∀ b o, b ∉ ch → s.heap.get? b = some o → ∃ o', h'.get? b = some o')
    (tups : ∀ b xs, H b = some (.tup xs) → H' b = some (.tup xs)) (frzs : ∀ b o u, H b = some (.frz o u) → H' b = some (.frz o u)) (tbls : ∀ b ps, H b = some (.tbl ps) → ∃ more, H' b = some (.tbl (ps ++ more)))
    (ns : ∀ m, s.heap.Ns X.env.locals m → h'.Ns X.env.locals m) (hok : HOk X.prog X.w H' h') (hg : AllBare g') :
    Inv X pins σ H' { s with heap := h', gens := g', drawn := d', toks := t' } := by
  have neL : ∀ b o, X.s_0.heap.get? b = some o → b ≠ X.env.locals := fun b o e => Nat.ne_of_lt (Nat.lt_of_lt_of_le (Heap.lt_size e) I.ok.above)
  have neC : ∀ b o, X.s_0.heap.get? b = some o → b ∉ X.ex → b ∉ ch := fun b o e hx hb => by
    rcases (hch b hb).1 with z | z
    · exact hx z
    · exact absurd (Nat.lt_of_lt_of_le (Heap.lt_size e) z) (Nat.lt_irrefl _)
  have cellK : ∀ x c, X.env.cells.lookup x = some c → ∀ v, s.heap.IsCell c v → h'.IsCell c v := fun x c e v ⟨o, ho, hd⟩ => by
    have nch : c ∉ ch := fun z => (hch c z).2.2.1 x c e rfl
    by_cases hc : c ∈ X.fs
    · obtain ⟨sl, q⟩ := slot c o (I.cne x c e) hc nch ho (I.freeC x c e)
      exact ⟨_, q, hd⟩
    · exact ⟨o, keep c o (I.cne x c e) hc nch ho (I.freeC x c e), hd⟩
  refine ⟨I.ok, I.os, hg, ⟨fun b o e n hb hx => ?_, fun b o e n hb hx => ?_, fun b o e n hx => ?_, fun b o e hx => ?_, fun b xs e => tups b xs (I.base.tups b xs e), fun b o xs e => frzs b o xs (I.base.frzs b o xs e), fun b ps e => ?_⟩, ?_, fun x c e => ?_, ?_, fun x c e => ?_, fun p hp => ?_, hok, I.len⟩
  · exact keep b o (neL b o e) hb (neC b o e hx) (I.base.keep b o e n hb hx) (I.base.free b o e n hx)
  · obtain ⟨sl, e1⟩ := I.base.slot b o e n hb hx
    obtain ⟨sl', e2⟩ := slot b _ (neL b o e) hb (neC b o e hx) e1 (I.base.free b o e n hx)
    exact ⟨sl', e2⟩
  · obtain ⟨o', e1⟩ := I.base.there b o e hx
    exact free b o' (neC b o e hx) e1 (I.base.free b o e n hx)
  · obtain ⟨o', e1⟩ := I.base.there b o e hx
    exact there b o' (neC b o e hx) e1
  · obtain ⟨m1, e1⟩ := I.base.tbls b ps e
    obtain ⟨m2, e2⟩ := tbls b _ e1
    exact ⟨m1 ++ m2, by rw [e2, Array.append_assoc]⟩
  · obtain ⟨m, hn, hl⟩ := I.loc
    refine ⟨m, ns m hn, fun i x v e1 e2 e3 => ?_⟩
    obtain ⟨u, r, l⟩ := hl i x v e1 e2 e3
    refine ⟨u, r, ?_⟩
    rcases l with l | ⟨k, c, e, z⟩
    · exact .inl l
    · exact .inr ⟨k, c, e, cellK x c e _ z⟩
  · obtain ⟨v, z⟩ := I.cell x c e
    exact ⟨v, cellK x c e v z⟩
  · obtain ⟨m, ⟨o, _, _, ho, _⟩, _⟩ := I.loc
    exact free _ o (fun z => (hch _ z).2.1 rfl) ho I.free
  · obtain ⟨v, o, ho, hd⟩ := I.cell x c e
    exact free c o (fun z => (hch c z).2.2.1 x c e rfl) ho (I.freeC x c e)
  · obtain ⟨e, n, ne, nf, d⟩ := I.pin p hp
    have nch : p.1 ∉ ch := fun z => (hch p.1 z).2.2.2 p hp rfl
    exact ⟨keep p.1 p.2 ne nf nch e n, free p.1 p.2 nch e n, ne, nf, d⟩
/-- .. where the frame's own object is kept too -/
theorem Inv.un {t' : Nat} (I : Inv X pins σ H s) (u : Un X.fs [] H H' s.heap h') (hok : HOk X.prog X.w H' h') : Inv X pins σ H' { s with heap := h', toks := t' } := by
  obtain ⟨m, ⟨o, es, ep, ho, r⟩, _⟩ := id I.loc
  obtain ⟨sl, hL⟩ := u.any ho I.free (by simp)
  exact I.step (g' := s.gens) (d' := s.drawn) (ch := []) (fun _ z => nomatch z) (fun b o _ hb _ e n => u.keep b o e n hb (by simp)) (fun b o _ hb _ e n => u.slot b o e n hb (by simp)) (fun b o _ e n => u.free b o e n (by simp)) (fun b o _ e => u.there b o e (by simp)) u.tups u.frzs u.tbls (fun m' hm => by
    obtain ⟨o', es', ep', ho', r'⟩ := hm
    rw [ho] at ho'; cases ho'
    exact ⟨_, es', ep', hL, r'⟩) hok I.bare
/-- behind a call (or a comprehension's block): the slots of this frame may have changed too, the records at ch may have turned -/
theorem Inv.call {g' : Array GenState} {t' : Nat} {d' : Drawn} {ch : List Addr} (I : Inv X pins σ H s) (u : Un (frs X.stack) ch H H' s.heap h') (hok : HOk X.prog X.w H' h') (hg : AllBare g')
    (hch : ∀ b ∈ ch, (b ∈ X.ex ∨ X.s_0.heap.objs.size ≤ b) ∧ b ≠ X.env.locals ∧ (∀ x c, X.env.cells.lookup x = some c → c ≠ b) ∧ ∀ p ∈ X.pn ++ pins, p.1 ≠ b) :
    Inv X pins σ H' { s with heap := h', gens := g', drawn := d', toks := t' } := by
  obtain ⟨m, ⟨o, es, ep, ho, r⟩, _⟩ := id I.loc
  obtain ⟨sl, hL⟩ := u.any ho I.free fun z => (hch _ z).2.1 rfl
  exact I.step (ch := ch) hch (fun b o hL hb hc e n => u.keep b o e n (fun z => (List.mem_cons.mp (I.stkSub b z)).elim hL hb) hc) (fun b o _ _ hc e n => u.any e n hc) (fun b o hc e n => u.free b o e n hc) (fun b o hc e => u.there b o e hc) u.tups u.frzs u.tbls (fun m' hm => by
    obtain ⟨o', es', ep', ho', r'⟩ := hm
    rw [ho] at ho'; cases ho'
    exact ⟨_, es', ep', hL, r'⟩) hok hg
/-- an untracked record of ours (an iterator) has turned -/
theorem Inv.turned {t' : Nat} {it : Addr} (I : Inv X pins σ H s) (k : ∀ b o, b ≠ it → s.heap.get? b = some o → h'.get? b = some o) (hn : H it = none) (hL : it ≠ X.env.locals)
    (h1 : it ∈ X.ex ∨ X.s_0.heap.objs.size ≤ it) (h2 : ∀ x c, X.env.cells.lookup x = some c → c ≠ it) (h3 : ∀ p ∈ X.pn ++ pins, p.1 ≠ it) : Inv X pins σ H { s with heap := h', toks := t' } := by
  have nit : ∀ b u, H b = some u → b ≠ it := fun b u e z => by rw [z, hn] at e; cases e
  refine I.step (g' := s.gens) (d' := s.drawn) (ch := [it]) (fun b hb => ?_) (fun b o _ _ hc e _ => k b o (fun z => hc (by simp [z])) e) (fun b o _ _ hc e _ => ⟨o.slots, k b o (fun z => hc (by simp [z])) e⟩) (fun _ _ _ _ n => n)
    (fun b o hc e => ⟨o, k b o (fun z => hc (by simp [z])) e⟩) (fun _ _ e => e) (fun _ _ _ e => e) (fun b ps e => ⟨#[], by rw [e]; simp⟩) (fun m hm => ?_) (fun b u e => ?_) I.bare
  · have e : b = it := by simpa using hb
    subst e
    exact ⟨h1, hL, h2, h3⟩
  · obtain ⟨o, es, ep, ho, r⟩ := hm
    exact ⟨o, es, ep, k _ o (Ne.symm hL) ho, r⟩
  · refine (I.hok b u e).stay (fun c v hc q => k c v ?_ q) (fun _ q => q) fun _ _ q => q
    rcases hc with z | z
    · rw [z]; exact nit b u e
    · exact nit c _ z
theorem Inv.tok (I : Inv X pins σ H s) (t : Nat) : Inv X pins σ H { s with toks := t } := I.un (h' := s.heap) (t' := t) Un.refl I.hok
/-- all objects kept -/
theorem Inv.kept {t' : Nat} (I : Inv X pins σ H s) (k : ∀ b u, s.heap.get? b = some u → h'.get? b = some u) : Inv X pins σ H { s with heap := h', toks := t' } := I.un (Un.kept k) (I.hok.kept k)
/-- a new object laid and tracked -/
theorem Inv.laid {a : Addr} {o : HO} {t' : Nat} (I : Inv X pins σ H s) (k : ∀ b u, s.heap.get? b = some u → h'.get? b = some u) (hp : s.heap.objs.size ≤ a) (new : ObjOk X.prog X.w (upd H a o) h' a o) :
    Inv X pins σ (upd H a o) { s with heap := h', toks := t' } := I.un (Un.laid k hp (I.hok.fresh hp)) (I.hok.laid k hp new)
/-- an object written -/
theorem Inv.write {x e : Addr} {o : HO} {t' : Nat} (I : Inv X pins σ H s) (mu : Mut (H x)) (he : e = x ∨ H e = some (.own x)) (k : ∀ b u, b ≠ e → s.heap.get? b = some u → h'.get? b = some u) (heo : ∃ u, h'.get? e = some u)
    (new : ObjOk X.prog X.w (upd H x o) h' x o) : Inv X pins σ (upd H x o) { s with heap := h', toks := t' } := I.un (Un.write mu he k heo) (I.hok.write mu he k heo new)
/-- forgetting slots, pins -/
theorem Inv.weak {σ' : List (Option V)} (I : Inv X pins σ H s) (hl : σ'.length = σ.length) (w : ∀ (i : Nat) v, σ'[i]? = some (some v) → σ[i]? = some (some v)) : Inv X pins σ' H s :=
  ⟨I.ok, I.os, I.bare, I.base, let ⟨m, hn, hl'⟩ := I.loc; ⟨m, hn, fun i x v e1 e2 e3 => hl' i x v e1 (w i v e2) e3⟩, I.cell, I.free, I.freeC, I.pin, I.hok, hl.trans I.len⟩
theorem Inv.pins_of {pins' : List (Addr × Obj)} (I : Inv X pins σ H s) (h : ∀ p ∈ pins', s.heap.get? p.1 = some p.2 ∧ H p.1 = none ∧ p.1 ≠ X.env.locals ∧ p.1 ∉ X.fs ∧ ∀ v, p.2.data ≠ .cell v) : Inv X pins' σ H s :=
  ⟨I.ok, I.os, I.bare, I.base, I.loc, I.cell, I.free, I.freeC, fun p hp => (List.mem_append.mp hp).elim (fun z => I.pin p (List.mem_append_left _ z)) (h p), I.hok, I.len⟩
theorem nodup_ix {N : List Str} (hN : N.Nodup) {i j : Nat} {x : Str} (a : N[i]? = some x) (b : N[j]? = some x) : i = j := by
  obtain ⟨h1, e1⟩ := List.getElem?_eq_some_iff.mp a
  obtain ⟨h2, e2⟩ := List.getElem?_eq_some_iff.mp b
  exact (List.getElem_inj hN).mp (e1.trans e2.symm)
/-- a name is stored; what changed -/
theorem store_ok2 {M : Model} {A : Around} {E : Value → Shared → Prop} {i : Nat} {x : Str} {v : V} {u : Value} {Q : Unit → Shared → Prop} (I : Inv X pins σ H s) (hN : X.N.Nodup) (hi : X.N[i]? = some x) (hx : Loc X.env.scope x) (r : RelV v u)
    (h : ∀ s', Inv X pins (σ.set i (some v)) H s' → (∃ a, Heap.SameBut a s.heap s'.heap ∧ (a = X.env.locals ∨ X.env.cells.lookup x = some a)) → Q () s') (hf : X.fn x = true ∨ X.env.scope.names.lookup x = some .local := by first | exact .inl rfl | exact .inr rfl | assumption) : wpAny M A (storeName X.env x u) Q E s := by
  obtain ⟨m, hn, hl⟩ := id I.loc
  have hcls : (X.env.scope.kind == .class || (X.env.scope.kind == .module && X.env.locals != X.env.globals)) = false := by rw [I.ok.kind]; rfl
  have hiσ : i < σ.length := by rw [I.len]; exact (List.getElem?_eq_some_iff.mp hi).1
  have cne := I.cne
  have tracked : ∀ {a : Addr} {h' : Heap}, (∃ o, s.heap.get? a = some o ∧ H a = none) → Heap.SameBut a s.heap h' → HOk X.prog X.w H h' := fun {a h'} ha hs b ob e => by
    obtain ⟨_, _, hfree⟩ := ha
    refine (I.hok b ob e).stay (fun c w' hc q => (hs.2 c ?_).trans q) (fun _ q => q) fun _ _ q => q
    rintro rfl
    rcases hc with rfl | hc
    · rw [hfree] at e; cases e
    · rw [hfree] at hc; cases hc
  rcases hx with hk | hk
  · refine wpAny_storeName_local hk hn (fun h' hn' hs => ?_) hcls
    obtain ⟨oL, _, _, hoL, _⟩ := id hn
    refine h _ ⟨I.ok, I.os, I.bare, ⟨fun b o e n hb hx => ?_, fun b o e n hb hx => ?_, I.base.free, fun b o e hx => ?_, I.base.tups, I.base.frzs, I.base.tbls⟩, ⟨_, hn', fun j y v' e1 e2 e3 => ?_⟩, fun y c e => ?_, I.free, I.freeC, fun p hp => ?_, tracked ⟨oL, hoL, I.free⟩ hs, by simpa using I.len⟩ ⟨_, hs, .inl rfl⟩
    · exact (hs.2 b (Nat.ne_of_lt (Nat.lt_of_lt_of_le (Heap.lt_size e) I.ok.above))).trans (I.base.keep b o e n hb hx)
    · obtain ⟨sl, e1⟩ := I.base.slot b o e n hb hx
      exact ⟨sl, (hs.2 b (Nat.ne_of_lt (Nat.lt_of_lt_of_le (Heap.lt_size e) I.ok.above))).trans e1⟩
    · obtain ⟨o', e1⟩ := I.base.there b o e hx
      exact ⟨o', (hs.2 b (Nat.ne_of_lt (Nat.lt_of_lt_of_le (Heap.lt_size e) I.ok.above))).trans e1⟩
    · by_cases hj : j = i
      · subst hj
        rw [hi] at e1; cases e1
        rw [List.getElem?_set_self hiσ] at e2
        cases e2
        exact ⟨u, r, .inl ⟨hk, by simp⟩⟩
      · rw [List.getElem?_set_ne (Ne.symm hj)] at e2
        obtain ⟨u', r', q⟩ := hl j y v' e1 e2 e3
        refine ⟨u', r', ?_⟩
        rcases q with ⟨k, e⟩ | ⟨k, c, e, z⟩
        · refine .inl ⟨k, ?_⟩
          have : y ≠ x := fun e => hj (nodup_ix hN e1 (e ▸ hi))
          simp [this, e]
        · exact .inr ⟨k, c, e, z.sameBut hs (cne y c e)⟩
    · obtain ⟨w', z⟩ := I.cell y c e
      exact ⟨w', z.sameBut hs (cne y c e)⟩
    · obtain ⟨e, n, ne, nf, d⟩ := I.pin p hp
      exact ⟨(hs.2 p.1 ne).trans e, n, ne, nf, d⟩
  · have hfn : X.fn x = true := by
      rcases hf with z | z
      · exact z
      · rw [z] at hk; cases hk
    obtain ⟨c, hc⟩ := I.ok.has x (.inl hk)
    obtain ⟨w', z⟩ := I.cell x c hc
    refine wpAny_storeName_cell I.ok.kind hk hc z (fun h' hc' hs => ?_)
    obtain ⟨oc, hoc, hocd⟩ := id z
    refine h { s with heap := h' } ⟨I.ok, I.os, I.bare, ⟨fun b o e n hb hx => ?_, fun b o e n hb hx => ?_, I.base.free, fun b o e hx => ?_, I.base.tups, I.base.frzs, I.base.tbls⟩, ⟨m, hn.sameBut hs (Ne.symm (cne x c hc)), fun j y v' e1 e2 e3 => ?_⟩, fun y c' e => ?_, I.free, I.freeC, fun p hp => ?_, tracked ⟨oc, hoc, I.freeC x c hc⟩ hs, by simpa using I.len⟩ ⟨c, hs, .inr hc⟩
    · exact (hs.2 b (Nat.ne_of_lt (Nat.lt_of_lt_of_le (Heap.lt_size e) (I.ok.cab x c hfn hc)))).trans (I.base.keep b o e n hb hx)
    · obtain ⟨sl, e1⟩ := I.base.slot b o e n hb hx
      exact ⟨sl, (hs.2 b (Nat.ne_of_lt (Nat.lt_of_lt_of_le (Heap.lt_size e) (I.ok.cab x c hfn hc)))).trans e1⟩
    · obtain ⟨o', e1⟩ := I.base.there b o e hx
      exact ⟨o', (hs.2 b (Nat.ne_of_lt (Nat.lt_of_lt_of_le (Heap.lt_size e) (I.ok.cab x c hfn hc)))).trans e1⟩
    · by_cases hj : j = i
      · subst hj
        rw [hi] at e1; cases e1
        rw [List.getElem?_set_self hiσ] at e2
        cases e2
        exact ⟨u, r, .inr ⟨.inl hk, c, hc, hc'⟩⟩
      · rw [List.getElem?_set_ne (Ne.symm hj)] at e2
        obtain ⟨u', r', q⟩ := hl j y v' e1 e2 e3
        refine ⟨u', r', ?_⟩
        rcases q with q | ⟨k, c', e, z'⟩
        · exact .inl q
        · refine .inr ⟨k, c', e, z'.sameBut hs ?_⟩
          rintro rfl
          exact hj (nodup_ix hN e1 (I.ok.inj _ _ _ e hc ▸ hi))
    · by_cases hcc : c' = c
      · subst hcc; exact ⟨_, hc'⟩
      · obtain ⟨w2, z2⟩ := I.cell y c' e
        exact ⟨w2, z2.sameBut hs hcc⟩
    · obtain ⟨e, n, ne, nf, d⟩ := I.pin p hp
      refine ⟨(hs.2 p.1 ?_).trans e, n, ne, nf, d⟩
      intro q
      rw [q, hoc] at e
      have q' : oc = p.2 := Option.some.inj e
      exact d w' (by rw [← q']; exact hocd)
theorem store_ok {M : Model} {A : Around} {E : Value → Shared → Prop} {i : Nat} {x : Str} {v : V} {u : Value} {Q : Unit → Shared → Prop} (I : Inv X pins σ H s) (hN : X.N.Nodup) (hi : X.N[i]? = some x) (hx : Loc X.env.scope x) (r : RelV v u)
    (h : ∀ s', Inv X pins (σ.set i (some v)) H s' → Q () s') (hf : X.fn x = true ∨ X.env.scope.names.lookup x = some .local := by first | exact .inl rfl | exact .inr rfl | assumption) : wpAny M A (storeName X.env x u) Q E s :=
  store_ok2 I hN hi hx r (fun s' I' _ => h s' I') hf
/-- behind a call or a block, the state as it is -/
theorem Inv.call' {s' : Shared} {ch : List Addr} (I : Inv X pins σ H s) (ho : s'.os = s.os) (u : Un (frs X.stack) ch H H' s.heap s'.heap) (hok : HOk X.prog X.w H' s'.heap) (hg : AllBare s'.gens)
    (hch : ∀ b ∈ ch, (b ∈ X.ex ∨ X.s_0.heap.objs.size ≤ b) ∧ b ≠ X.env.locals ∧ (∀ x c, X.env.cells.lookup x = some c → c ≠ b) ∧ ∀ p ∈ X.pn ++ pins, p.1 ≠ b) : Inv X pins σ H' s' := by
  obtain ⟨h', g', d', t', o'⟩ := s'
  have e : o' = s.os := ho
  subst e
  exact I.call (g' := g') (t' := t') (d' := d') u hok hg hch
end
/-- an exception: its class, its own dict's address (where it has one), the abstract heap behind it -/
abbrev XK := Value → Option Addr → Hp → Prop
abbrev St := List (Option V)
abbrev VK := V → Hp → Prop
/-- an expression's reading; a test's; an argument list's -/
abbrev TE := St → Hp → VK → Prop
abbrev TT := St → Hp → (Bool → Hp → Prop) → Prop
abbrev TA := St → Hp → (List V → Hp → Prop) → Prop
/-- what is wanted behind a statement -/
structure Ends where
  nx : St → Hp → Prop
  rt : VK
  bk : St → Hp → Prop := fun _ _ => False
  ct : St → Hp → Prop := fun _ _ => False
abbrev TS := Ends → St → Hp → Prop
def EP (X : Cx) (pins : List (Addr × Obj)) (σ : St) (Q : VK) (u : Value) (s' : Shared) : Prop := ∃ v H', Inv X pins σ H' s' ∧ RelV v u ∧ Q v H'
def TP (X : Cx) (pins : List (Addr × Obj)) (σ : St) (Q : Bool → Hp → Prop) (b : Bool) (s' : Shared) : Prop := ∃ H', Inv X pins σ H' s' ∧ Q b H'
def AP (X : Cx) (pins : List (Addr × Obj)) (σ : St) (Q : List V → Hp → Prop) (us : List Value) (s' : Shared) : Prop := ∃ vs H', Inv X pins σ H' s' ∧ Vals vs us ∧ Q vs H'
def SP (X : Cx) (pins : List (Addr × Obj)) (D : Ends) (f : Flow) (s' : Shared) : Prop :=
  match f with
  | .next => ∃ σ' H', Inv X pins σ' H' s' ∧ D.nx σ' H'
  | .brk => ∃ σ' H', Inv X pins σ' H' s' ∧ D.bk σ' H'
  | .cont => ∃ σ' H', Inv X pins σ' H' s' ∧ D.ct σ' H'
  | .ret u => ∃ v σ' H', Inv X pins σ' H' s' ∧ RelV v u ∧ D.rt v H'
def PE (X : Cx) (e : Expr) (t : TE) : Prop :=
  ∀ (pins : List (Addr × Obj)) (s : Shared) (σ : St) (H : Hp) (Q : VK), Inv X pins σ H s → t σ H Q → wpAny (model X.prog X.w) X.A (eval e X.env) (EP X pins σ Q) X.xe s
def PT (X : Cx) (e : Expr) (t : TT) : Prop :=
  ∀ (pins : List (Addr × Obj)) (s : Shared) (σ : St) (H : Hp) (Q : Bool → Hp → Prop), Inv X pins σ H s → t σ H Q → wpAny (model X.prog X.w) X.A (isTrue e X.env (eval e X.env)) (TP X pins σ Q) X.xe s
/-- a test whatever its 'whole' is (and, or) -/
def PW (X : Cx) (e : Expr) (t : TT) : Prop :=
  ∀ (whole : Sem Value) (pins : List (Addr × Obj)) (s : Shared) (σ : St) (H : Hp) (Q : Bool → Hp → Prop), Inv X pins σ H s → t σ H Q → wpAny (model X.prog X.w) X.A (isTrue e X.env whole) (TP X pins σ Q) X.xe s
theorem PW.pt {X : Cx} {e : Expr} {t : TT} (h : PW X e t) : PT X e t := h _
/-- an argument list (no star), from the left -/
def PA (X : Cx) (es : List Expr) (t : TA) : Prop :=
  ∀ (pos : Pos) (pins : List (Addr × Obj)) (s : Shared) (σ : St) (H : Hp) (Q : List V → Hp → Prop), Inv X pins σ H s → t σ H Q → wpAny (model X.prog X.w) X.A (spliced (backTo pos (starEach es X.env))) (AP X pins σ Q) X.xe s
def PS (X : Cx) (st : Stmt) (t : TS) : Prop :=
  ∀ (pins : List (Addr × Obj)) (s : Shared) (σ : St) (H : Hp) (D : Ends), Inv X pins σ H s → t D σ H → wpAny (model X.prog X.w) X.A (exec st X.env) (SP X pins D) X.xe s
def PSs (X : Cx) (st : List Stmt) (t : TS) : Prop :=
  ∀ (pins : List (Addr × Obj)) (s : Shared) (σ : St) (H : Hp) (D : Ends), Inv X pins σ H s → t D σ H → wpAny (model X.prog X.w) X.A (execs st X.env) (SP X pins D) X.xe s
/-- weaken the end -/
theorem thn {α : Type} {t : Sem α} {Q Q' : α → Shared → Prop} {M : Model} {A : Around} {E : Value → Shared → Prop} {s : Shared} (h : wpAny M A t Q E s) (hQ : ∀ a s, Q a s → Q' a s) : wpAny M A t Q' E s := wpAny_mono h hQ fun _ _ x => x
end L2
namespace L2
open PySem PySem.Spec PyProof.Rows
section
variable {X : Cx}
def tVar (i : Nat) : TE := fun σ H Q => ∃ v, σ[i]? = some (some v) ∧ Q v H
def tC (v : V) : TE := fun _ H Q => Q v H
theorem pe_var {i : Nat} {x : Str} {pos : Pos} (hN : X.N[i]? = some x) (hv : Vis X.env.scope x) (hd : (x == ("__debug__" : Str)) = false := by decide) (hcd : (x == ("__classdict__" : Str)) = false := by decide) : PE X (.Name x pos) (tVar i) := by
  intro pins s σ H Q I h
  obtain ⟨v, e, h⟩ := h
  obtain ⟨m, hn, hl⟩ := I.loc
  obtain ⟨u, r, l⟩ := hl i x v hN e hv
  have fin : EP X pins σ Q u s := ⟨v, H, I, r, h⟩
  rcases l with ⟨hk, hm⟩ | ⟨hk, c, hc, hcell⟩
  · exact wpAny_Name (wpAny_loadName_local I.ok.kind hk hn hm fin) hd
  · rcases hk with hk | hk
    · exact wpAny_Name (wpAny_loadName_cell I.ok.kind hk hc hcell fin) hd
    · exact wpAny_Name (wpAny_loadName_free I.ok.kind hk hc hcell fin hcd) hd
theorem pe_int {i j pos} : PE X (.Constant (.int i) j pos) (tC (.int i)) := fun _ _ _ H _ I h => wpAny_Constant_int ⟨.int i, H, I.tok _, ⟨_, rfl⟩, h⟩
theorem pe_bl {b j pos} : PE X (.Constant (.bool b) j pos) (tC (.bl b)) := fun _ _ _ H _ I h => Constant_bool ⟨.bl b, H, I, rfl, h⟩
theorem pe_non {j pos} : PE X (.Constant .none j pos) (tC .non) := fun _ _ _ H _ I h => Constant_none ⟨.non, H, I, rfl, h⟩
/-- a global name of the def -/
def Gl (X : Cx) (x : Str) : Prop := X.env.kindOf x = some .globalImplicit
theorem ld_glob {E : Value → Shared → Prop} {pins : List (Addr × Obj)} {s : Shared} {σ : St} {H : Hp} {x : Str} {u : Value} {pos : Pos} {Q : Value → Shared → Prop} (I : Inv X pins σ H s) (hg : Gl X x) (hm : X.mg x = some u) (h : Q u s)
    (hd : (x == ("__debug__" : Str)) = false := by decide) : wpAny (model X.prog X.w) X.A (eval (.Name x pos) X.env) Q E s :=
  Calls.Name_function_global I.ok.kind hg (Calls.loadGlobal_global (by rw [I.ok.glob]; exact I.mod.glob.keeps I.bk) hm h) hd
theorem ld_blt {E : Value → Shared → Prop} {pins : List (Addr × Obj)} {s : Shared} {σ : St} {H : Hp} {x : Str} {u : Value} {pos : Pos} {Q : Value → Shared → Prop} (I : Inv X pins σ H s) (hg : Gl X x) (hm : X.mg x = none) (hv : bootBuiltins x = some u) (h : Q u s)
    (hn : x ≠ "__name__" := by decide) (hd : (x == ("__debug__" : Str)) = false := by decide) : wpAny (model X.prog X.w) X.A (eval (.Name x pos) X.env) Q E s := by
  obtain ⟨mb, h1, h2⟩ := I.mod.blt
  exact Calls.Name_function_global I.ok.kind hg (Calls.loadGlobal_builtin (by rw [I.ok.glob]; exact I.mod.glob.keeps I.bk) hm (by rw [I.ok.blt]; exact h1.keeps I.bk) ((h2 x hn).trans hv) h) hd
/-- a module's constant, a class, a function, as a value -/
theorem pe_glob {x : Str} {v : V} {u : Value} {pos : Pos} (hg : Gl X x) (hm : X.mg x = some u) (r : RelV v u) (hd : (x == ("__debug__" : Str)) = false := by decide) : PE X (.Name x pos) (tC v) :=
  fun _ _ _ H _ I h => ld_glob I hg hm ⟨v, H, I, r, h⟩ hd
variable {a b : Expr} {ta tb : TE} {pos : Pos}
/-- a comparison as a value, as a test -/
def tB (t : TE) : TT := fun σ H Q => t σ H fun x H1 => ∃ c, x = .bl c ∧ Q c H1
/-- an expression whose value is a bool, as a test -/
theorem pt_val {e : Expr} {t : TE} (h : PE X e t) (he : ∀ whole, isTrue e X.env whole = (do let v ← whole; standAt e.pos; holding [v] (truthy v)) := by intro _; rfl) : PT X e (tB t) := by
  intro pins s σ H Q I hw
  refine isTrue_plain (thn (h pins s σ H _ I hw) fun v s1 ⟨x, H1, I1, r1, q1⟩ => ?_) (he _)
  obtain ⟨d, rfl, q⟩ := q1
  cases r1
  exact wpAny_truthy_bool ⟨H1, I1, q⟩
variable {tA tB' : TT} {rest : List Expr}
def tAnd (t u : TT) : TT := fun σ H Q => t σ H fun c H1 => if c = true then u σ H1 Q else Q false H1
def tOr (t u : TT) : TT := fun σ H Q => t σ H fun c H1 => if c = true then Q true H1 else u σ H1 Q
def tNot (t : TT) : TT := fun σ H Q => t σ H fun c H1 => Q (!c) H1
theorem pw_and1 (ha : PT X a tA) : PW X (.BoolOp .And [a] pos) tA := by
  intro wh pins s σ H Q I h
  refine isTrue_and (thn (ha pins s σ H Q I h) fun c s1 e => ?_)
  cases c with
  | true => exact isTrue_and_nil e
  | false => exact e
theorem pw_or1 (ha : PT X a tA) : PW X (.BoolOp .Or [a] pos) tA := by
  intro wh pins s σ H Q I h
  refine isTrue_or (thn (ha pins s σ H Q I h) fun c s1 e => ?_)
  cases c with
  | false => exact isTrue_or_nil e
  | true => exact e
theorem pw_and (ha : PT X a tA) (hb : PW X (.BoolOp .And (b :: rest) pos) tB') : PW X (.BoolOp .And (a :: b :: rest) pos) (tAnd tA tB') := by
  intro wh pins s σ H Q I h
  refine isTrue_and (thn (ha pins s σ H _ I h) fun c s1 ⟨H1, I1, q1⟩ => ?_)
  cases c with
  | true => exact hb wh pins s1 σ H1 Q I1 q1
  | false => exact ⟨H1, I1, q1⟩
theorem pw_or (ha : PT X a tA) (hb : PW X (.BoolOp .Or (b :: rest) pos) tB') : PW X (.BoolOp .Or (a :: b :: rest) pos) (tOr tA tB') := by
  intro wh pins s σ H Q I h
  refine isTrue_or (thn (ha pins s σ H _ I h) fun c s1 ⟨H1, I1, q1⟩ => ?_)
  cases c with
  | true => exact ⟨H1, I1, q1⟩
  | false => exact hb wh pins s1 σ H1 Q I1 q1
theorem pt_not (ha : PT X a tA) : PT X (.UnaryOp .Not a pos) (tNot tA) := by
  intro pins s σ H Q I h
  exact isTrue_not (ha pins s σ H (fun c H1 => Q (!c) H1) I h)
end
end L2
namespace L2
open PySem PySem.Spec PyProof.Rows
def SqL (K : PySem.W.Frag) (H : Hp) (a : Addr) (xs : List V) : Prop :=
  Rd H a (.lst xs) ∨
    ∃ (o : Obj) (its : Array Value) (n : Nat), K.lookup a = some o ∧ o.cls = .type "list" ∧ o.dict = none ∧ o.data = .seq its n ∧ its.size ≤ sizeLine ∧ Vals xs its.toList
def SqT (K : PySem.W.Frag) (H : Hp) (a : Addr) (xs : List V) : Prop :=
  Rd H a (.tup xs) ∨
    ∃ (o : Obj) (its : Array Value) (n : Nat), K.lookup a = some o ∧ o.cls = .type "tuple" ∧ o.data = .seq its n ∧ its.size ≤ sizeLine ∧ Vals xs its.toList
def absV : Value → Option V
  | .none => some .non
  | .bool b => some (.bl b)
  | .int i _ => some (.int i)
  | .str x _ => some (.str x)
  | .bytes b _ => some (.byt b)
  | .float b _ => some (.flt b)
  | .ref a => some (.ref a)
  | .type n => some (.ty n)
  | _ => none
theorem RelV.abs {x : V} {u : Value} (r : RelV x u) : absV u = some x := by
  cases x with
  | non => cases r; rfl
  | bl _ => cases r; rfl
  | int _ => obtain ⟨t, rfl⟩ := r; rfl
  | str _ => obtain ⟨t, rfl⟩ := r; rfl
  | byt _ => obtain ⟨t, rfl⟩ := r; rfl
  | flt _ => obtain ⟨t, rfl⟩ := r; rfl
  | ref _ => cases r; rfl
  | ty _ => cases r; rfl
theorem RelV.inj {x y : V} {u : Value} (r : RelV x u) (q : RelV y u) : x = y := Option.some.inj (r.abs.symm.trans q.abs)
theorem Vals.inj : ∀ {xs ys : List V} {us : List Value}, Vals xs us → Vals ys us → xs = ys
  | _, _, _, .nil, .nil => rfl
  | _, _, _, .cons r t, .cons r' t' => by rw [r.inj r', Vals.inj t t']
section
variable {X : Cx} {pins : List (Addr × Obj)} {σ : St} {H : Hp} {s : Shared} {a : Addr} {xs ys : List V}
theorem SqL.of {K : PySem.W.Frag} (h : H a = some (.lst xs)) : SqL K H a xs := .inl (.inl h)
theorem SqT.of {K : PySem.W.Frag} (h : H a = some (.tup xs)) : SqT K H a xs := .inl (.inl h)
theorem Inv.list (I : Inv X pins σ H s) (h : SqL X.K H a xs) : ∃ its : List Value, Vals xs its ∧ PlainL s.heap a its.toArray ∧ xs.length ≤ sizeLine := by
  rcases h with h | ⟨o, its, n, hk, hc, hd, hs, hz, r⟩
  · obtain ⟨z, its, n, r, e⟩ := h.ok I.hok
    exact ⟨its, r, ⟨_, n, e, rfl, rfl, rfl⟩, z⟩
  · refine ⟨its.toList, r, ⟨o, n, I.kIn a o hk, hc, hd, by simpa using hs⟩, ?_⟩
    have e := r.length
    simp only [Array.length_toList] at e
    omega
theorem Inv.tuple (I : Inv X pins σ H s) (h : SqT X.K H a xs) : ∃ its : List Value, Vals xs its ∧ IsTup s.heap a its.toArray ∧ xs.length ≤ sizeLine := by
  rcases h with h | ⟨o, its, n, hk, hc, hs, hz, r⟩
  · obtain ⟨z, its, r, p⟩ := h.ok I.hok
    exact ⟨its, r, p, z⟩
  · refine ⟨its.toList, r, ⟨o, I.kIn a o hk, hc, n, by simpa using hs⟩, ?_⟩
    have e := r.length
    simp only [Array.length_toList] at e
    omega
theorem Inv.list_inj (I : Inv X pins σ H s) (h : SqL X.K H a xs) (h' : SqL X.K H a ys) : xs = ys := by
  obtain ⟨its, r, ⟨o, n, e, _, _, d⟩, _⟩ := I.list h
  obtain ⟨its', r', ⟨o', n', e', _, _, d'⟩, _⟩ := I.list h'
  rw [e] at e'; cases e'
  rw [d] at d'
  injection d' with d1 _
  have : its = its' := by simpa using congrArg Array.toList d1
  subst this
  exact r.inj r'
end
abbrev Cx.wish (X : Cx) (E : Value → Shared → Prop) : Cx := { X with xe := E }
/-- no exception leaves -/
abbrev Cx.nox (X : Cx) : Cx := X.wish fun _ _ => False
theorem Cx.Ok.wish {X : Cx} (ok : X.Ok) (E : Value → Shared → Prop) : (X.wish E).Ok :=
  ⟨ok.mod, ok.kind, ok.glob, ok.blt, ok.above, ok.inj, ok.has, ok.cab, ok.hd, ok.frames, ok.stk, ok.exf, ok.bs, ok.bsz, ok.noex, ok.exfs, ok.funs, ok.frf⟩
theorem Cx.Ok.unwish {X : Cx} {E : Value → Shared → Prop} (ok : (X.wish E).Ok) : X.Ok :=
  ⟨ok.mod, ok.kind, ok.glob, ok.blt, ok.above, ok.inj, ok.has, ok.cab, ok.hd, ok.frames, ok.stk, ok.exf, ok.bs, ok.bsz, ok.noex, ok.exfs, ok.funs, ok.frf⟩
section
variable {X : Cx} {pins : List (Addr × Obj)} {σ : St} {H : Hp} {s : Shared} {E : Value → Shared → Prop}
theorem Inv.wish (I : Inv X pins σ H s) (E : Value → Shared → Prop) : Inv (X.wish E) pins σ H s := ⟨I.ok.wish E, I.os, I.bare, I.base, I.loc, I.cell, I.free, I.freeC, I.pin, I.hok, I.len⟩
theorem Inv.unwish (I : Inv (X.wish E) pins σ H s) : Inv X pins σ H s := ⟨I.ok.unwish, I.os, I.bare, I.base, I.loc, I.cell, I.free, I.freeC, I.pin, I.hok, I.len⟩
theorem SP.unwish {D : Ends} {f : Flow} {s' : Shared} (h : SP (X.wish E) pins D f s') : SP X pins D f s' := by
  cases f with
  | next => obtain ⟨σ', H', I, q⟩ := h; exact ⟨σ', H', I.unwish, q⟩
  | brk => obtain ⟨σ', H', I, q⟩ := h; exact ⟨σ', H', I.unwish, q⟩
  | cont => obtain ⟨σ', H', I, q⟩ := h; exact ⟨σ', H', I.unwish, q⟩
  | ret u => obtain ⟨v, σ', H', I, r, q⟩ := h; exact ⟨v, σ', H', I.unwish, r, q⟩
theorem PSs.nox {st : List Stmt} {t : TS} (h : PSs X.nox st t) : PSs X st t := fun pins s σ H D I hw =>
  wpAny_mono (h pins s σ H D (I.wish _) hw) (fun _ _ q => q.unwish) fun _ _ z => False.elim z
end
section
variable {X : Cx} {st : Stmt} {rest : List Stmt} {t u : TS} {e : Expr} {te : TE} {pos : Pos}
def tNext : TS := fun D σ H => D.nx σ H
def tSeq (t u : TS) : TS := fun D σ H => t { D with nx := u D } σ H
theorem pss_nil : PSs X [] tNext := fun _ _ σ H _ I h => wpAny_execs_nil ⟨σ, H, I, h⟩
theorem pss_cons (h1 : PS X st t) (h2 : PSs X rest u) : PSs X (st :: rest) (tSeq t u) := by
  intro pins s σ H D I h
  refine wpAny_execs_cons (thn (h1 pins s σ H { D with nx := u D } I h) fun f s1 q => ?_)
  cases f with
  | next =>
    obtain ⟨σ', H', I', q⟩ := q
    exact h2 pins s1 σ' H' D I' q
  | ret v => exact q
  | brk => exact q
  | cont => exact q
theorem pss_one (h1 : PS X st t) : PSs X [st] t := by
  intro pins s σ H D I h
  refine wpAny_execs_cons (thn (h1 pins s σ H D I h) fun f s1 q => ?_)
  cases f with
  | next => exact wpAny_execs_nil q
  | ret v => exact q
  | brk => exact q
  | cont => exact q
/-- in a def's body nothing is shown -/
theorem Inv.quiet {pins : List (Addr × Obj)} {σ : St} {H : Hp} {s : Shared} (I : Inv X pins σ H s) : interactive X.env = false := by simp [interactive, I.ok.kind]
/-- an expression whose value is dropped -/
def tDrop (te : TE) : TS := fun D σ H => te σ H fun _ H1 => D.nx σ H1
theorem ps_expr (he : PE X e te) (hs : swapsWith e none pos.line X.env = pure false := by rfl) : PS X (.Expr e pos) (tDrop te) := by
  intro pins s σ H D I h
  exact wpAny_Expr_any (thn (he pins s σ H _ I h) fun v s1 ⟨x, H1, I1, r1, q1⟩ => ⟨σ, H1, I1, q1⟩) I.quiet hs
def tRet (te : TE) : TS := fun D σ H => te σ H D.rt
theorem ps_ret (he : PE X e te) : PS X (.Return (some e) pos) (tRet te) := by
  intro pins s σ H D I h
  exact wpAny_Return_some (thn (he pins s σ H _ I h) fun v s1 ⟨x, H1, I1, r1, q1⟩ => ⟨x, σ, H1, I1, r1, q1⟩)
def tIfS (c : TT) (t u : TS) : TS := fun D σ H => c σ H fun b H1 => if b = true then t D σ H1 else u D σ H1
theorem ps_if {c : Expr} {a b : List Stmt} {tc : TT} (hc : PT X c tc) (ha : PSs X a t) (hb : PSs X b u) : PS X (.If c a b pos) (tIfS tc t u) := by
  intro pins s σ H D I h
  refine wpAny_If (thn (hc pins s σ H _ I h) fun d s1 ⟨H1, I1, q1⟩ => ?_)
  cases d with
  | true => exact ha pins s1 σ H1 D I1 q1
  | false => exact hb pins s1 σ H1 D I1 q1
end
abbrev TG := V → St → Hp → (St → Hp → Prop) → Prop
abbrev TGs := List V → St → Hp → (St → Hp → Prop) → Prop
def PG (X : Cx) (target : Expr) (t : TG) : Prop :=
  ∀ (pins : List (Addr × Obj)) (s : Shared) (σ : St) (H : Hp) (v : V) (u : Value) (Q : St → Hp → Prop), Inv X pins σ H s → RelV v u → t v σ H Q →
    wpAny (model X.prog X.w) X.A (assign target X.env u) (fun _ s' => ∃ σ' H', Inv X pins σ' H' s' ∧ Q σ' H') X.xe s
/-- several targets, one after another -/
def PGs (X : Cx) (ts : List Expr) (t : TGs) : Prop :=
  ∀ (pins : List (Addr × Obj)) (s : Shared) (σ : St) (H : Hp) (vs : List V) (us : List Value) (Q : St → Hp → Prop), Inv X pins σ H s → Vals vs us → t vs σ H Q →
    wpAny (model X.prog X.w) X.A (assignInOrder ((assignEach ts X.env).map (·.2)) us) (fun _ s' => ∃ σ' H', Inv X pins σ' H' s' ∧ Q σ' H') X.xe s
/-- o[i] = v, by values -/
abbrev TSet := V → V → V → Hp → (Hp → Prop) → Prop
def PSet (X : Cx) (t : TSet) : Prop :=
  ∀ (pins : List (Addr × Obj)) (s : Shared) (σ : St) (H : Hp) (o i v : V) (ov iv u : Value) (Q : Hp → Prop), Inv X pins σ H s → RelV o ov → RelV i iv → RelV v u → t o i v H Q →
    wpAny (model X.prog X.w) X.A (setItem ov iv u) (fun _ s' => ∃ H', Inv X pins σ H' s' ∧ Q H') X.xe s
/-- a op= b, by values -/
abbrev TIp := V → V → Hp → VK → Prop
def PIp (X : Cx) (op : Operator) (t : TIp) : Prop :=
  ∀ (pins : List (Addr × Obj)) (s : Shared) (σ : St) (H : Hp) (x y : V) (v u : Value) (Q : VK), Inv X pins σ H s → RelV x v → RelV y u → t x y H Q →
    wpAny (model X.prog X.w) X.A (inplaceOp op v u) (EP X pins σ Q) X.xe s
section
variable {X : Cx} {pos : Pos}
def gName (i : Nat) : TG := fun v σ H Q => Q (σ.set i (some v)) H
theorem pg_name {i : Nat} {x : Str} (hN : X.N.Nodup) (hi : X.N[i]? = some x) (hx : Loc X.env.scope x) (hf : X.fn x = true ∨ X.env.scope.names.lookup x = some .local := by first | exact .inl rfl | exact .inr rfl | assumption) : PG X (.Name x pos) (gName i) := by
  intro pins s σ H v u Q I r h
  exact wpAny_assign_Name (store_ok I hN hi hx r (fun s' I' => ⟨_, H, I', h⟩) hf)
def gNil : TGs := fun vs σ H Q => vs = [] ∧ Q σ H
def gCons (t : TG) (u : TGs) : TGs := fun vs σ H Q => ∃ v r, vs = v :: r ∧ t v σ H fun σ' H' => u r σ' H' Q
theorem pgs_nil : PGs X [] gNil := by
  intro pins s σ H vs us Q I r h
  obtain ⟨e, h⟩ := h
  subst e
  cases r
  exact assignInOrder_nil ⟨σ, H, I, h⟩
theorem pgs_cons {e : Expr} {es : List Expr} {t : TG} {u : TGs} (h1 : PG X e t) (h2 : PGs X es u)
    (hs : (assignEach (e :: es) X.env).map (·.2) = assign e X.env :: (assignEach es X.env).map (·.2) := by rfl) : PGs X (e :: es) (gCons t u) := by
  intro pins s σ H vs us Q I r h
  obtain ⟨v, vr, e1, h⟩ := h
  subst e1
  cases r with
  | cons r rr =>
    rw [hs]
    refine assignInOrder_cons (thn (h1 pins s σ H _ _ _ I r h) fun _ s1 ⟨σ1, H1, I1, q1⟩ => ?_)
    exact h2 pins s1 σ1 H1 _ _ Q I1 rr q1
/-- (a, b, ..) = a tuple of that length -/
def gTup (K : PySem.W.Frag) (n : Nat) (t : TGs) : TG := fun v σ H Q => ∃ a xs, v = .ref a ∧ SqT K H a xs ∧ xs.length = n ∧ t xs σ H Q
theorem pg_tup {es : List Expr} {k : Nat} {t : TGs} {n : Nat} (hc : X.calm = true) (h : PGs X es t)
    (hn : (assignEach es X.env).length = n := by rfl) (hst : (assignEach es X.env).findIdx? (·.1) = none := by rfl) : PG X (.Tuple es k pos) (gTup X.K n t) := by
  intro pins s σ H v u Q I r hw
  obtain ⟨a, xs, e1, hq, hl, hw⟩ := hw
  subst e1
  cases r
  obtain ⟨its, rv, ht, hz⟩ := I.tuple hq
  refine assign_Tuple_tuple (I.ok.hd hc) ht (by simp [hn, ← hl, rv.length]) hst fun h' hx => ?_
  have I1 : Inv X pins σ H { s with heap := h' } := I.kept (t' := s.toks) fun b o e => hx b o (Nat.ne_of_lt (Heap.lt_size e)) e
  exact h pins _ σ H xs _ Q I1 (by simpa using rv) hw
/-- o[i] = .. -/
def gSub (to ti : TE) (t : TSet) : TG := fun v σ H Q => to σ H fun o H1 => ti σ H1 fun i H2 => t o i v H2 fun H3 => Q σ H3
theorem pg_sub {o i : Expr} {to ti : TE} {t : TSet} (ho : PE X o to) (hi : PE X i ti) (hs : PSet X t)
    (ha : ∀ v, assign (.Subscript o i pos) X.env v = (do
      let ov ← holding [v] (eval o X.env)
      let iv ← holding [v, ov] (eval i X.env)
      standAt pos
      holding [v, ov, iv] (setItem ov iv v)
      release [v, ov, iv] []) := by intro _; rfl) : PG X (.Subscript o i pos) (gSub to ti t) := by
  intro pins s σ H v u Q I r h
  rw [ha]
  refine wpAny_bind (wpAny_holding (thn (ho pins s σ H _ I h) fun ov s1 ⟨x, H1, I1, r1, q1⟩ => ?_))
  refine wpAny_bind (wpAny_holding (thn (hi pins s1 σ H1 _ I1 q1) fun iv s2 ⟨y, H2, I2, r2, q2⟩ => ?_))
  refine wpAny_bind (wpAny_standAt (wpAny_bind (wpAny_holding (thn (hs pins s2 σ H2 x y v ov iv u _ I2 r1 r2 r q2) fun _ s3 ⟨H3, I3, q3⟩ => ?_))))
  exact wpAny_release ⟨σ, H3, I3, q3⟩
/-- target = value -/
def tAsg (te : TE) (g : TG) : TS := fun D σ H => te σ H fun x H1 => g x σ H1 D.nx
theorem ps_asg {tg e : Expr} {te : TE} {g : TG} (he : PE X e te) (hg : PG X tg g) (hs : swapsWithSole [tg] e pos.line X.env = pure false := by rfl) (hw : swappedStores [tg] e X.env = pure none := by rfl)
    (h1 : (assignEach [tg] X.env).map (·.2) = [assign tg X.env] := by rfl) : PS X (.Assign [tg] e pos) (tAsg te g) := by
  intro pins s σ H D I h
  refine wpAny_Assign_stores (thn (he pins s σ H _ I h) fun v s1 ⟨x, H1, I1, r1, q1⟩ => ?_) hs hw
  rw [h1]
  exact thn (hg pins s1 σ H1 x v _ I1 r1 q1) fun _ s2 q => q
/-- name = value -/
theorem ps_set {i : Nat} {x : Str} {e : Expr} {te : TE} {pos' : Pos} (hN : X.N.Nodup) (hi : X.N[i]? = some x) (hx : Loc X.env.scope x) (he : PE X e te) (hs : swapsWith e (some (.Name x pos')) pos.line X.env = pure false := by rfl) (hf : X.fn x = true ∨ X.env.scope.names.lookup x = some .local := by first | exact .inl rfl | exact .inr rfl | assumption) :
    PS X (.Assign [.Name x pos'] e pos) (tAsg te (gName i)) := by
  intro pins s σ H D I h
  refine wpAny_Assign_Name (thn (he pins s σ H _ I h) fun v s1 ⟨y, H1, I1, r1, q1⟩ => ?_) hs
  exact store_ok I1 hN hi hx r1 (fun s2 I2 => ⟨_, H1, I2, q1⟩) hf
/-- name op= e -/
def tAug (i : Nat) (te : TE) (ti : TIp) : TS := fun D σ H => ∃ x, σ[i]? = some (some x) ∧ te σ H fun y H1 => ti x y H1 fun z H2 => D.nx (σ.set i (some z)) H2
theorem ps_aug {i : Nat} {x : Str} {e : Expr} {te : TE} {op : Operator} {ti : TIp} {pos' : Pos} (hN : X.N.Nodup) (hi : X.N[i]? = some x) (hx : Loc X.env.scope x) (he : PE X e te) (ho : PIp X op ti) (hf : X.fn x = true ∨ X.env.scope.names.lookup x = some .local := by first | exact .inl rfl | exact .inr rfl | assumption) :
    PS X (.AugAssign (.Name x pos') op e pos) (tAug i te ti) := by
  intro pins s σ H D I h
  obtain ⟨v, e1, h⟩ := h
  obtain ⟨m, hn, hl⟩ := I.loc
  have vis : Vis X.env.scope x := by rcases hx with k | k; exact .inl k; exact .inr (.inl k)
  obtain ⟨u, r, l⟩ := hl i x v hi e1 vis
  refine wpAny_AugAssign_Name ?_
  have go : wpAny (model X.prog X.w) X.A (eval e X.env) (fun w s₂ => wpAny (model X.prog X.w) X.A (inplaceOp op u w) (fun r s₃ => wpAny (model X.prog X.w) X.A (storeName X.env x r) (fun _ => SP X pins D .next) X.xe s₃) X.xe s₂) X.xe s := by
    refine thn (he pins s σ H _ I h) fun w s1 ⟨y, H1, I1, r1, q1⟩ => ?_
    refine thn (ho pins s1 σ H1 v y u w _ I1 r r1 q1) fun z s2 ⟨zv, H2, I2, r2, q2⟩ => ?_
    exact store_ok I2 hN hi hx r2 (fun s3 I3 => ⟨_, H2, I3, q2⟩) hf
  rcases l with ⟨hk, hm⟩ | ⟨hk, c, hc, hcell⟩
  · exact wpAny_loadName_local I.ok.kind hk hn hm go
  · rcases hk with hk | hk
    · exact wpAny_loadName_cell I.ok.kind hk hc hcell go
    · rcases hx with k | k
      · have : X.env.scope.names.lookup x = some .free := hk
        rw [k] at this; cases this
      · have : X.env.scope.names.lookup x = some .free := hk
        rw [k] at this; cases this
/-- ints -/
def ipI (f : Int → Int → Int) : TIp := fun x y H Q => ∃ i j, x = .int i ∧ y = .int j ∧ Q (.int (f i j)) H
theorem ip_add : PIp X .Add (ipI fun i j => i + j) := by
  intro pins s σ H x y v u Q I r1 r2 h
  obtain ⟨i, j, e1, e2, q⟩ := h
  subst e1; subst e2
  obtain ⟨t, rfl⟩ := r1
  obtain ⟨t', rfl⟩ := r2
  exact iadd_int ⟨.int _, H, I.tok _, ⟨_, rfl⟩, q⟩
theorem ip_sub : PIp X .Sub (ipI fun i j => i - j) := by
  intro pins s σ H x y v u Q I r1 r2 h
  obtain ⟨i, j, e1, e2, q⟩ := h
  subst e1; subst e2
  obtain ⟨t, rfl⟩ := r1
  obtain ⟨t', rfl⟩ := r2
  exact isub_int ⟨.int _, H, I.tok _, ⟨_, rfl⟩, q⟩
end
section
variable {X : Cx} {pos : Pos}
/-- the invariant W with its measure -/
def tWhile (c : TT) (tb : TS) : TS := fun D σ H => ∃ W : Nat → St → Hp → Prop, (∃ m, W m σ H) ∧ ∀ m σ H, W m σ H →
  c σ H fun b H1 => if b = true then ∃ N : St → Hp → Prop, (∀ σ' H', N σ' H' → ∃ m', m' < m ∧ W m' σ' H') ∧ tb { D with nx := N, ct := N, bk := D.nx } σ H1 else D.nx σ H1
theorem ps_while {c : Expr} {body : List Stmt} {tc : TT} {tb : TS} (hp : PassesOwn (model X.prog X.w) X.A X.env X.xe) (hc : PT X c tc) (hb : PSs X body tb) : PS X (.While c body [] pos) (tWhile tc tb) := by
  intro pins s σ H D I h
  obtain ⟨W, ⟨m0, w0⟩, turn⟩ := h
  refine wpAny_While (codeAny_whileLoop (fun n s' => ∃ σ' H', Inv X pins σ' H' s' ∧ W n σ' H') ?_ m0 ⟨σ, H, I, w0⟩)
  rintro n s1 ⟨σ1, H1, I1, w1⟩
  refine wpAny_passesOwn hp (thn (hc pins s1 σ1 H1 _ I1 (turn n σ1 H1 w1)) fun b s2 ⟨H2, I2, q2⟩ => ?_)
  cases b with
  | true =>
    obtain ⟨N, hN, q2⟩ := q2
    rw [if_pos rfl]
    refine wpAny_passesOwn hp (thn (hb pins s2 σ1 H2 _ I2 q2) fun f s3 q3 => ?_)
    cases f with
    | next =>
      obtain ⟨σ3, H3, I3, n3⟩ := q3
      obtain ⟨m', hm, w3⟩ := hN σ3 H3 n3
      exact ⟨m', hm, σ3, H3, I3, w3⟩
    | cont =>
      obtain ⟨σ3, H3, I3, n3⟩ := q3
      obtain ⟨m', hm, w3⟩ := hN σ3 H3 n3
      exact ⟨m', hm, σ3, H3, I3, w3⟩
    | brk => exact q3
    | ret v => exact q3
  | false =>
    rw [if_neg Bool.false_ne_true]
    exact wpAny_execs_nil ⟨σ1, H2, I2, q2⟩
end
/-- at turn i: it yields x (the heap may grow), or it stops -/
structure It where
  go : Nat → Hp → Prop
  yld : Nat → Hp → V → Hp → Prop
  stop : Nat → Hp → Prop
/-- the iterator's own objects may turn: they are not the frame's, not pinned, younger than the entry (or a comprehension's own) -/
def FpOk (X : Cx) (pins : List (Addr × Obj)) (H : Hp) (b : Addr) : Prop :=
  H b = none ∧ b ≠ X.env.locals ∧ b ∉ X.fs ∧ (b ∈ X.ex ∨ X.s_0.heap.objs.size ≤ b) ∧ (∀ x c, X.env.cells.lookup x = some c → c ≠ b) ∧ ∀ p ∈ X.pn ++ pins, p.1 ≠ b
theorem Inv.fpOk {X : Cx} {pins : List (Addr × Obj)} {σ : St} {H H' : Hp} {s : Shared} {b : Addr} (I : Inv X pins σ H s) (hb : s.heap.objs.size ≤ b) (hn : H' b = none) : FpOk X pins H' b := by
  refine ⟨hn, Nat.ne_of_gt (Nat.lt_of_lt_of_le I.lt hb), I.nofs hb, .inr (Nat.le_trans I.sz hb), fun x c e z => ?_, fun p hp z => ?_⟩
  · obtain ⟨v, q⟩ := I.cell x c e
    exact absurd (Nat.lt_of_lt_of_le q.lt (by rw [z]; exact hb)) (Nat.lt_irrefl _)
  · exact absurd (Nat.lt_of_lt_of_le (Heap.lt_size (I.pin p hp).1) (by rw [z]; exact hb)) (Nat.lt_irrefl _)
structure Turn (P : Program) (w : World) (K : PySem.W.Frag) (tg : Expr) (J : It) (fp : List Addr) (it : Addr) (tn : Nat → Heap → Prop) : Prop where
  mem : it ∈ fp
  obj : ∀ i h, tn i h → ∀ b ∈ fp, ∃ o, h.get? b = some o ∧ ∀ v, o.data ≠ .cell v
  keep : ∀ i h h', tn i h → (∀ b ∈ fp, ∀ o, h.get? b = some o → h'.get? b = some o) → tn i h'
  item : ∀ (X : Cx), X.prog = P → X.w = w → X.K = K → X.calm = true → ∀ (i : Nat) (pins : List (Addr × Obj)) (s : Shared) (σ : St) (H : Hp) (E : Value → Shared → Prop), Inv X pins σ H s → (∀ b ∈ fp, FpOk X pins H b) → tn i s.heap → J.go i H →
    wpAny (model P w) X.A (pyNext (.ref it)) (fun r s1 => ∃ u, r = some u ∧
      wpAny (model P w) X.A (letOwnedTupleGo tg (.ref it) u) (fun _ s2 => ∃ x H', Inv X pins σ H' s2 ∧ RelV x u ∧ J.yld i H x H' ∧ tn (i + 1) s2.heap ∧ ∀ b ∈ fp, H' b = none) E s1) E s
  done : ∀ (X : Cx), X.prog = P → X.w = w → X.K = K → X.calm = true → ∀ (i : Nat) (pins : List (Addr × Obj)) (s : Shared) (σ : St) (H : Hp) (E : Value → Shared → Prop), Inv X pins σ H s → (∀ b ∈ fp, FpOk X pins H b) → tn i s.heap → J.stop i H →
    wpAny (model P w) X.A (pyNext (.ref it)) (fun r s1 => r = none ∧ Inv X pins σ H s1) E s
  self : ∀ (A : Around) (i : Nat) (s : Shared) (Q : Value → Shared → Prop) (E : Value → Shared → Prop), tn i s.heap → Q (.ref it) s → wpAny (model P w) A (pyIter (.ref it)) Q E s
abbrev TI := St → Hp → (It → Hp → Prop) → Prop
/-- an iterator has come -/
def PIE (X : Cx) (pins : List (Addr × Obj)) (σ : St) (tg : Expr) (R : It → Hp → Prop) (itv : Value) (s2 : Shared) : Prop :=
  ∃ (it : Addr) (fp : List Addr) (tn : Nat → Heap → Prop) (J : It) (H' : Hp), itv = .ref it ∧ Inv X pins σ H' s2 ∧ Turn X.prog X.w X.K tg J fp it tn ∧ tn 0 s2.heap ∧ (∀ b ∈ fp, FpOk X pins H' b) ∧ R J H'
def PI (X : Cx) (tg iter : Expr) (wi : TI) : Prop :=
  ∀ (pins : List (Addr × Obj)) (s : Shared) (σ : St) (H : Hp) (R : It → Hp → Prop), Inv X pins σ H s → wi σ H R →
    wpAny (model X.prog X.w) X.A (eval iter X.env) (fun v s1 => wpAny (model X.prog X.w) X.A (pyIter v) (PIE X pins σ tg R) X.xe s1) X.xe s
/-- the step ahead of the store is nothing for an iterator that keeps no tuple -/
theorem go_of {M : Model} {A : Around} {E : Value → Shared → Prop} {s : Shared} {tg : Expr} {it : Addr} {u : Value} {o : Obj} {n : String} {vs : Array Value} {Q : Unit → Shared → Prop} (ho : s.heap.get? it = some o) (hc : o.cls = .type n) (hd : o.data = .fields vs)
    (hn : ["enumerate", "zip", "dict_itemiterator", "dict_reverseitemiterator", "odict_iterator", "itertools.zip_longest", "itertools.pairwise"].contains n = false) (hQ : Q () s) : wpAny M A (letOwnedTupleGo tg (.ref it) u) Q E s := by
  unfold letOwnedTupleGo
  cases tg <;> first
    | exact wpAny_pure hQ
    | (cases u <;> first
        | exact wpAny_pure hQ
        | (refine wpAny_bind (wpAny_load ho ?_)
           rw [hc, hd]
           show wpAny M A (if (["enumerate", "zip", "dict_itemiterator", "dict_reverseitemiterator", "odict_iterator", "itertools.zip_longest", "itertools.pairwise"].contains n && vs[0]? == some (rawInt _)) = true then _ else _) Q E s
           rw [if_neg (by intro h; rw [hn, Bool.false_and] at h; cases h)]
           exact wpAny_pure hQ))
/-- the list at a, as it stands at each turn (a loop may append to it) -/
def Itl (K : PySem.W.Frag) (a : Addr) : It :=
  ⟨fun i H => ∃ xs x, SqL K H a xs ∧ xs[i]? = some x, fun i H x H' => H' = H ∧ ∀ xs, SqL K H a xs → xs[i]? = some x, fun i H => ∃ xs, SqL K H a xs ∧ xs.length ≤ i⟩
/-- lo, lo + 1, .. (n of them) -/
def Itr (lo : Int) (n : Nat) : It := ⟨fun i _ => i < n, fun i H x H' => H' = H ∧ x = .int (lo + i), fun i _ => n ≤ i⟩
theorem turn_list {P : Program} {w : World} {K : PySem.W.Frag} {tg : Expr} (a it : Addr) : Turn P w K tg (Itl K a) [it] it (fun i h => h.IsListIter it a i) where
  mem := by simp
  obj := fun i h st b hb => by
    have e : b = it := by simpa using hb
    subst e
    obtain ⟨o, e, c, d⟩ := st
    exact ⟨o, e, fun v z => by rw [d] at z; cases z⟩
  keep := fun i h h' st k => st.at fun o e => k it (by simp) o e
  item := by
    intro X hP hw hK hc i pins s σ H E I hf st hg
    subst hP hw hK
    obtain ⟨xs, x, hq, hx⟩ := hg
    obtain ⟨its, rv, p, hz⟩ := I.list hq
    obtain ⟨u, hu, ru⟩ := rv.get hx
    obtain ⟨f0, f1, f2, f3, f4, f5⟩ := hf it (by simp)
    refine wpAny_pyNext_list_item st p.isList (x := u) (by simpa using hu) fun h' st' sb => ?_
    have I1 : Inv X pins σ H { s with heap := h' } := I.turned (t' := s.toks) (fun b o hb e => (sb.2 b hb).trans e) f0 f1 f3 f4 f5
    obtain ⟨o, e, c, d⟩ := id st'
    exact ⟨u, rfl, go_of (s := { s with heap := h' }) e c d (by decide) ⟨x, H, I1, ru, ⟨rfl, fun ys hy => by rw [I.list_inj hy hq]; exact hx⟩, st', fun b hb => (hf b hb).1⟩⟩
  done := by
    intro X hP hw hK hc i pins s σ H E I hf st hg
    subst hP hw hK
    obtain ⟨xs, hq, hx⟩ := hg
    obtain ⟨its, rv, p, hz⟩ := I.list hq
    obtain ⟨f0, f1, f2, f3, f4, f5⟩ := hf it (by simp)
    have hl := rv.length
    exact wpAny_pyNext_list_end (I.ok.hd hc) st p.isList (by simp; omega) fun h' eb => ⟨rfl, I.turned (t' := s.toks) (fun b o hb e => eb b o hb e) f0 f1 f3 f4 f5⟩
  self := fun _ _ _ _ _ st h => wpAny_pyIter_listiter st h
theorem turn_range {P : Program} {w : World} {K : PySem.W.Frag} {tg : Expr} (it : Addr) (lo : Int) (n : Nat) : Turn P w K tg (Itr lo n) [it] it (fun i h => IsRangeIter h it (lo + (i : Nat) * 1) ((n : Int) - (i : Nat)) 1) where
  mem := by simp
  obj := fun i h st b hb => by
    have e : b = it := by simpa using hb
    subst e
    exact ⟨_, st, fun v z => by
      have z' : Data.fields _ = Data.cell v := z
      cases z'⟩
  keep := fun i h h' st k => k it (by simp) _ st
  item := by
    intro X hP hw hK hc i pins s σ H E I hf st hg
    subst hP hw hK
    obtain ⟨f0, f1, f2, f3, f4, f5⟩ := hf it (by simp)
    have W := Walks.range (prog := X.prog) (w := X.w) (I.ok.hd hc) it lo 1 n
    refine W.item i s _ _ hg st fun v h' tk hv st' kk => ?_
    obtain ⟨t, rfl⟩ := hv
    have I1 : Inv X pins σ H { s with heap := h', toks := tk } := I.turned (fun b o hb e => kk b o (by simpa using hb) e) f0 f1 f3 f4 f5
    refine ⟨_, rfl, go_of (s := { s with heap := h', toks := tk }) (n := "range_iterator") st' rfl rfl (by decide) ⟨.int (lo + i), H, I1, ⟨t, ?_⟩, ⟨rfl, rfl⟩, st', fun b hb => (hf b hb).1⟩⟩
    rw [Int.mul_one]
  done := by
    intro X hP hw hK hc i pins s σ H E I hf st hg
    subst hP hw hK
    obtain ⟨f0, f1, f2, f3, f4, f5⟩ := hf it (by simp)
    exact wpAny_pyNext_range_end (I.ok.hd hc) st (by have : n ≤ i := hg; omega) fun h' eb => ⟨rfl, I.turned (t' := s.toks) (fun b o hb e => eb b o hb e) f0 f1 f3 f4 f5⟩
  self := fun _ _ _ _ _ st h => wpAny_pyIter_rangeiter st h
end L2
namespace L2
open PySem PySem.Spec PyProof.Rows
section
variable {X : Cx} {tg : Expr}
def iList (K : PySem.W.Frag) (tl : TE) : TI := fun σ H R => tl σ H fun x H1 => ∃ a, x = .ref a ∧ (∃ xs, SqL K H1 a xs) ∧ R (Itl K a) H1
theorem pi_list {l : Expr} {tl : TE} (hl : PE X l tl) : PI X tg l (iList X.K tl) := by
  intro pins s σ H R I h
  refine thn (hl pins s σ H _ I h) fun v s1 ⟨x, H1, I1, r1, q1⟩ => ?_
  obtain ⟨a, e, ⟨xs, hq⟩, q⟩ := q1
  subst e
  cases r1
  obtain ⟨its, rv, p, hz⟩ := I1.list hq
  refine wpAny_pyIter_list p.isList ?_
  refine ⟨s1.heap.objs.size, [s1.heap.objs.size], _, _, H1, rfl, I1.kept (t' := s1.toks) fun b o e => Heap.get?_push_of_some _ e, turn_list a _, ⟨_, Heap.get?_push_size _ rfl, rfl, rfl⟩, fun b hb => ?_, q⟩
  have e : b = s1.heap.objs.size := by simpa using hb
  subst e
  exact I1.fpOk (Nat.le_refl _) (I1.hok.fresh (Nat.le_refl _))
/-- a range object just made, walked -/
theorem range_it {pins : List (Addr × Obj)} {σ : St} {H : Hp} {s : Shared} {R : It → Hp → Prop} {E : Value → Shared → Prop} {lo hi : Int} {t u v : Tok} {tk : Nat} (I : Inv X pins σ H s) (h1 : -(2 ^ 62) ≤ lo) (h2 : lo < 2 ^ 62) (h3 : -(2 ^ 62) ≤ hi) (h4 : hi < 2 ^ 62)
    (q : R (Itr lo (hi - lo).toNat) H) : wpAny (model X.prog X.w) X.A (pyIter (.ref s.heap.objs.size)) (PIE X pins σ tg R) E { s with heap := s.heap.push { cls := .type "range", data := .fields #[.int lo t, .int hi u, .int 1 v] }, toks := tk } := by
  refine wpAny_pyIter_range (IsRange.new ..) (small_one h1 h2 h3 h4) ?_
  have I1 : Inv X pins σ H { s with heap := s.heap.push { cls := .type "range", data := .fields #[.int lo t, .int hi u, .int 1 v] }, toks := tk } := I.kept fun b o e => Heap.get?_push_of_some _ e
  refine ⟨(s.heap.push { cls := .type "range", data := .fields #[.int lo t, .int hi u, .int 1 v] }).objs.size, [(s.heap.push { cls := .type "range", data := .fields #[.int lo t, .int hi u, .int 1 v] }).objs.size], _, _, H, rfl,
    I1.kept (t' := tk) fun b o e => Heap.get?_push_of_some _ e, turn_range _ lo (hi - lo).toNat, ?_, fun b hb => ?_, q⟩
  · have e1 : lo + ((0 : Nat) : Int) * 1 = lo := by simp
    have e2 : (((hi - lo).toNat : Nat) : Int) - ((0 : Nat) : Int) = Builtin.Range.rangeSize lo hi 1 := by rw [rangeSize_one]; split <;> omega
    show IsRangeIter _ _ (lo + ((0 : Nat) : Int) * 1) ((((hi - lo).toNat : Nat) : Int) - ((0 : Nat) : Int)) 1
    rw [e1, e2]
    exact Heap.get?_push_size _ rfl
  · have e : b = (s.heap.push { cls := .type "range", data := .fields #[.int lo t, .int hi u, .int 1 v] }).objs.size := by simpa using hb
    subst e
    exact I1.fpOk (Nat.le_refl _) (I1.hok.fresh (Nat.le_refl _))
def iRng1 (ta : TA) : TI := fun σ H R => ta σ H fun vs H1 => ∃ j : Int, vs = [.int j] ∧ -(2 ^ 62) ≤ j ∧ j < 2 ^ 62 ∧ R (Itr 0 j.toNat) H1
def iRng2 (ta : TA) : TI := fun σ H R => ta σ H fun vs H1 => ∃ i j : Int, vs = [.int i, .int j] ∧ (-(2 ^ 62) ≤ i ∧ i < 2 ^ 62 ∧ -(2 ^ 62) ≤ j ∧ j < 2 ^ 62) ∧ R (Itr i (j - i).toNat) H1
theorem pi_range1 {a : Expr} {ta : TA} {p pos : Pos} (hg : Gl X "range") (hm : X.mg "range" = none) (ha : PA X [a] ta) (hs : starEach [a] X.env = [(false, eval a X.env)] := by rfl) : PI X tg (.Call (.Name "range" p) [a] [] pos) (iRng1 ta) := by
  intro pins s σ H R I h
  refine Call_ (ld_blt I hg hm boot_range (PyProof.Rows.callWith_type1 (thn (ha pos pins s σ H _ I h) fun us s1 ⟨vs, H1, I1, r1, q1⟩ => ?_) hs rfl))
  obtain ⟨j, e, q1, q2, q⟩ := q1
  subst e
  cases r1 with
  | cons r rr =>
    cases rr
    obtain ⟨t, rfl⟩ := r
    exact call_range_1 (range_it I1 (by omega) (by omega) q1 q2 (by simpa using q))
theorem pi_range2 {a b : Expr} {ta : TA} {p pos : Pos} (hg : Gl X "range") (hm : X.mg "range" = none) (ha : PA X [a, b] ta) (hs : starEach [a, b] X.env = [(false, eval a X.env), (false, eval b X.env)] := by rfl) (hs2 : starEach [b] X.env = [(false, eval b X.env)] := by rfl) :
    PI X tg (.Call (.Name "range" p) [a, b] [] pos) (iRng2 ta) := by
  intro pins s σ H R I h
  refine Call_ (ld_blt I hg hm boot_range (PyProof.Rows.callWith_type1 (thn (ha pos pins s σ H _ I h) fun us s1 ⟨vs, H1, I1, r1, q1⟩ => ?_) (by rw [hs, hs2]) (by rw [hs2]; rfl)))
  obtain ⟨i, j, e, ⟨q1, q2, q3, q4⟩, q⟩ := q1
  subst e
  cases r1 with
  | cons r rr =>
    cases rr with
    | cons r' rr =>
      cases rr
      obtain ⟨t, rfl⟩ := r
      obtain ⟨t', rfl⟩ := r'
      exact call_range_2 (range_it I1 q1 q2 q3 q4 q)
/-- W: the invariant by the turn and a measure; N: what the body is to reach -/
def tFor (wi : TI) (g : TG) (tb : TS) : TS := fun D σ H => wi σ H fun J H1 => ∃ W : Nat → Nat → St → Hp → Prop, (∃ m, W 0 m σ H1) ∧ ∀ i m σ H, W i m σ H →
  (J.stop i H ∧ D.nx σ H) ∨ (J.go i H ∧ ∃ N : St → Hp → Prop, (∀ σ' H', N σ' H' → ∃ m', m' < m ∧ W (i + 1) m' σ' H') ∧ ∀ x H', J.yld i H x H' → g x σ H' fun σ2 H2 => tb { D with nx := N, ct := N, bk := D.nx } σ2 H2)
/-- the records at fp as they stand -/
def pinsAt (fp : List Addr) (h : Heap) : List (Addr × Obj) := fp.filterMap fun b => (h.get? b).map fun o => (b, o)
theorem mem_pinsAt {fp : List Addr} {h : Heap} {b : Addr} {o : Obj} (hb : b ∈ fp) (e : h.get? b = some o) : (b, o) ∈ pinsAt fp h := List.mem_filterMap.mpr ⟨b, hb, by rw [e]; rfl⟩
theorem of_pinsAt {fp : List Addr} {h : Heap} {p : Addr × Obj} (hp : p ∈ pinsAt fp h) : p.1 ∈ fp ∧ h.get? p.1 = some p.2 := by
  obtain ⟨b, hb, e⟩ := List.mem_filterMap.mp hp
  cases q : h.get? b with
  | none => rw [q] at e; cases e
  | some o =>
    rw [q] at e
    have e' : (b, o) = p := Option.some.inj e
    subst e'
    exact ⟨hb, q⟩
theorem Inv.pinned {pins : List (Addr × Obj)} {σ : St} {H : Hp} {s : Shared} {fp : List Addr} (I : Inv X pins σ H s) (hf : ∀ b ∈ fp, FpOk X pins H b) (ho : ∀ b ∈ fp, ∃ o, s.heap.get? b = some o ∧ ∀ v, o.data ≠ .cell v) : Inv X (pins ++ pinsAt fp s.heap) σ H s :=
  I.pins_of fun p hp => (List.mem_append.mp hp).elim (fun z => I.pin p (List.mem_append_right _ z)) fun z => by
    obtain ⟨hb, e⟩ := of_pinsAt z
    obtain ⟨f0, f1, f2, _⟩ := hf p.1 hb
    obtain ⟨o, e', d⟩ := ho p.1 hb
    rw [e] at e'; cases e'
    exact ⟨e, f0, f1, f2, d⟩
theorem Inv.unpinned {pins pl : List (Addr × Obj)} {σ : St} {H : Hp} {s : Shared} (I : Inv X (pins ++ pl) σ H s) : Inv X pins σ H s := I.pins_of fun p hp => I.pin p (List.mem_append_right _ (List.mem_append_left _ hp))
theorem ps_for {iter : Expr} {body : List Stmt} {wi : TI} {g : TG} {tb : TS} {pos : Pos} (hp : PassesOwn (model X.prog X.w) X.A X.env X.xe) (hc : X.calm = true) (hi : PI X tg iter wi) (hg : PG X tg g) (hb : PSs X body tb)
    (hs : ∀ x, foldedSetIterable iter X.env x = pure x := by intro _; rfl) : PS X (.For tg iter body [] pos) (tFor wi g tb) := by
  intro pins s σ H D I h
  refine wpAny_For (thn (hi pins s σ H _ I h) fun v s1 h1 => thn h1 fun itv s2 h2 => ?_) hs
  obtain ⟨it, fp, tn, J, H2, e, I2, T, st2, f2, W, ⟨m0, w0⟩, turn⟩ := h2
  subst e
  -- what stays true of the iterator's objects through the loop
  have stat : ∀ {H' : Hp}, (∀ b ∈ fp, H' b = none) → ∀ b ∈ fp, FpOk X pins H' b := fun hn b hb => ⟨hn b hb, (f2 b hb).2⟩
  refine codeAny_forLoop_any (fun n s' => ∃ i σ' H', Inv X pins σ' H' s' ∧ tn i s'.heap ∧ (∀ b ∈ fp, H' b = none) ∧ W i n σ' H') ?_ m0 ⟨0, σ, H2, I2, st2, fun b hb => (f2 b hb).1, w0⟩
  rintro n s3 ⟨i, σ3, H3, I3, st3, fr3, w3⟩
  rcases turn i n σ3 H3 w3 with ⟨stop, qn⟩ | ⟨go, N, hN, step⟩
  · refine wpAny_passesOwn hp (thn (T.done X rfl rfl rfl hc i pins s3 σ3 H3 X.xe I3 (stat fr3) st3 stop) fun r s4 ⟨hr, I4⟩ => ?_)
    subst hr
    exact wpAny_execs_nil ⟨σ3, H3, I4, qn⟩
  · refine wpAny_passesOwn hp (thn (T.item X rfl rfl rfl hc i pins s3 σ3 H3 X.xe I3 (stat fr3) st3 go) fun r s4 ⟨u, hr, h4⟩ => ?_)
    subst hr
    refine wpAny_passesOwn hp (thn h4 fun _ s5 ⟨x, H5, I5, r5, y5, st5, fr5⟩ => ?_)
    have I5' := I5.pinned (stat fr5) (T.obj _ _ st5)
    refine wpAny_passesOwn hp (thn (hg _ s5 σ3 H5 x u _ I5' r5 (step x H5 y5)) fun _ s6 ⟨σ6, H6, I6, q6⟩ => ?_)
    refine wpAny_passesOwn hp (thn (hb _ s6 σ6 H6 _ I6 q6) fun f s7 q7 => ?_)
    have again : ∀ {σ7 : St} {H7 : Hp}, Inv X (pins ++ pinsAt fp s5.heap) σ7 H7 s7 → N σ7 H7 → ∃ m, m < n ∧ ∃ i σ' H', Inv X pins σ' H' s7 ∧ tn i s7.heap ∧ (∀ b ∈ fp, H' b = none) ∧ W i m σ' H' := fun {σ7 H7} I7 n7 => by
      obtain ⟨m', hm, w7⟩ := hN σ7 H7 n7
      refine ⟨m', hm, i + 1, σ7, H7, I7.unpinned, T.keep _ _ _ st5 fun b hb o e => (I7.pin (b, o) (List.mem_append_right _ (List.mem_append_right _ (mem_pinsAt hb e)))).1, fun b hb => ?_, w7⟩
      obtain ⟨o, e, d⟩ := T.obj _ _ st5 b hb
      exact (I7.pin (b, o) (List.mem_append_right _ (List.mem_append_right _ (mem_pinsAt hb e)))).2.1
    cases f with
    | next => obtain ⟨σ7, H7, I7, n7⟩ := q7; exact again I7 n7
    | cont => obtain ⟨σ7, H7, I7, n7⟩ := q7; exact again I7 n7
    | brk => obtain ⟨σ7, H7, I7, q7⟩ := q7; exact ⟨σ7, H7, I7.unpinned, q7⟩
    | ret v => obtain ⟨x7, σ7, H7, I7, r7, q7⟩ := q7; exact ⟨x7, σ7, H7, I7.unpinned, r7, q7⟩
end
/-- over a list that the body leaves as it is -/
theorem for_list {K : PySem.W.Frag} {a : Addr} {xs : List V} {g : TG} {tb : TS} {D : Ends} {σ : St} {H : Hp} (Pv : Nat → St → Hp → Prop) (h0 : Pv 0 σ H) (hl : ∀ i σ H, i ≤ xs.length → Pv i σ H → SqL K H a xs)
    (hs : ∀ i x σ H, xs[i]? = some x → Pv i σ H → g x σ H fun σ2 H2 => tb { D with nx := Pv (i + 1), ct := Pv (i + 1), bk := D.nx } σ2 H2) (hd : ∀ σ H, Pv xs.length σ H → D.nx σ H) :
    ∃ W : Nat → Nat → St → Hp → Prop, (∃ m, W 0 m σ H) ∧ ∀ i m σ H, W i m σ H →
      ((Itl K a).stop i H ∧ D.nx σ H) ∨ ((Itl K a).go i H ∧ ∃ N : St → Hp → Prop, (∀ σ' H', N σ' H' → ∃ m', m' < m ∧ W (i + 1) m' σ' H') ∧ ∀ x H', (Itl K a).yld i H x H' → g x σ H' fun σ2 H2 => tb { D with nx := N, ct := N, bk := D.nx } σ2 H2) := by
  refine ⟨fun i m σ H => m = xs.length - i ∧ i ≤ xs.length ∧ Pv i σ H, ⟨xs.length, by simp, Nat.zero_le _, h0⟩, ?_⟩
  rintro i m σ H ⟨rfl, hi, p⟩
  have q := hl i σ H hi p
  by_cases hlt : i < xs.length
  · refine .inr ⟨⟨xs, xs[i], q, by simp [hlt]⟩, Pv (i + 1), fun σ' H' p' => ⟨xs.length - (i + 1), by omega, rfl, hlt, p'⟩, fun x H' y => ?_⟩
    obtain ⟨e, y⟩ := y
    subst e
    exact hs i x σ _ (y xs q) p
  · have e : i = xs.length := by omega
    subst e
    exact .inl ⟨⟨xs, q, Nat.le_refl _⟩, hd σ H p⟩
theorem for_range {lo : Int} {n : Nat} {g : TG} {tb : TS} {D : Ends} {σ : St} {H : Hp} (Pv : Nat → St → Hp → Prop) (h0 : Pv 0 σ H)
    (hs : ∀ i σ H, i < n → Pv i σ H → g (.int (lo + i)) σ H fun σ2 H2 => tb { D with nx := Pv (i + 1), ct := Pv (i + 1), bk := D.nx } σ2 H2) (hd : ∀ σ H, Pv n σ H → D.nx σ H) :
    ∃ W : Nat → Nat → St → Hp → Prop, (∃ m, W 0 m σ H) ∧ ∀ i m σ H, W i m σ H →
      ((Itr lo n).stop i H ∧ D.nx σ H) ∨ ((Itr lo n).go i H ∧ ∃ N : St → Hp → Prop, (∀ σ' H', N σ' H' → ∃ m', m' < m ∧ W (i + 1) m' σ' H') ∧ ∀ x H', (Itr lo n).yld i H x H' → g x σ H' fun σ2 H2 => tb { D with nx := N, ct := N, bk := D.nx } σ2 H2) := by
  refine ⟨fun i m σ H => m = n - i ∧ i ≤ n ∧ Pv i σ H, ⟨n, by simp, Nat.zero_le _, h0⟩, ?_⟩
  rintro i m σ H ⟨rfl, hi, p⟩
  by_cases hlt : i < n
  · refine .inr ⟨hlt, Pv (i + 1), fun σ' H' p' => ⟨n - (i + 1), by omega, rfl, hlt, p'⟩, fun x H' y => ?_⟩
    obtain ⟨e, y⟩ := y
    subst e y
    exact hs i σ _ hlt p
  · have e : i = n := by omega
    subst e
    exact .inl ⟨Nat.le_refl _, hd σ H p⟩
/-- while, by a word and a measure of the state -/
theorem while_by {c : TT} {tb : TS} {D : Ends} {σ : St} {H : Hp} (Pv : St → Hp → Prop) (μ : St → Hp → Nat) (h0 : Pv σ H)
    (hs : ∀ σ H, Pv σ H → c σ H fun b H1 => if b = true then tb { D with nx := fun σ' H' => Pv σ' H' ∧ μ σ' H' < μ σ H, ct := fun σ' H' => Pv σ' H' ∧ μ σ' H' < μ σ H, bk := D.nx } σ H1 else D.nx σ H1)
    (mono : ∀ σ H Q Q', (∀ b H1, Q b H1 → Q' b H1) → c σ H Q → c σ H Q') : tWhile c tb D σ H := by
  refine ⟨fun m σ H => m = μ σ H ∧ Pv σ H, ⟨_, rfl, h0⟩, ?_⟩
  rintro m σ H ⟨rfl, p⟩
  refine mono σ H _ _ (fun b H1 q => ?_) (hs σ H p)
  cases b with
  | true => exact ⟨_, fun σ' H' ⟨p', l⟩ => ⟨_, l, rfl, p'⟩, q⟩
  | false => exact q
end L2
namespace L2
open PySem PySem.Spec PyProof.Rows
abbrev R2 := V → V → Hp → VK → Prop
/-- a two-place operation on values: f is binaryOp op, inplaceOp op or compareOp op -/
def OpR (X : Cx) (f : Value → Value → Sem Value) (r : R2) : Prop :=
  ∀ (pins : List (Addr × Obj)) (s : Shared) (σ : St) (H : Hp) (x y : V) (v u : Value) (Q : VK), Inv X pins σ H s → RelV x v → RelV y u → r x y H Q →
    wpAny (model X.prog X.w) X.A (f v u) (EP X pins σ Q) X.xe s
/-- a one-place operation -/
def UnR (X : Cx) (f : Value → Sem Value) (r : V → Hp → VK → Prop) : Prop :=
  ∀ (pins : List (Addr × Obj)) (s : Shared) (σ : St) (H : Hp) (x : V) (v : Value) (Q : VK), Inv X pins σ H s → RelV x v → r x H Q →
    wpAny (model X.prog X.w) X.A (f v) (EP X pins σ Q) X.xe s
/-- a call of a value that is known (a builtin, a type) with values -/
def CallR (X : Cx) (f : Value) (r : List V → Hp → VK → Prop) : Prop :=
  ∀ (pins : List (Addr × Obj)) (s : Shared) (σ : St) (H : Hp) (xs : List V) (us : List Value) (Q : VK), Inv X pins σ H s → Vals xs us → r xs H Q →
    wpAny (model X.prog X.w) X.A (call f us) (EP X pins σ Q) X.xe s
/-- a value's truth -/
def TruR (X : Cx) (r : V → Hp → (Bool → Hp → Prop) → Prop) : Prop :=
  ∀ (pins : List (Addr × Obj)) (s : Shared) (σ : St) (H : Hp) (x : V) (v : Value) (Q : Bool → Hp → Prop), Inv X pins σ H s → RelV x v → r x H Q →
    wpAny (model X.prog X.w) X.A (truthy v) (TP X pins σ Q) X.xe s
def tOp (r : R2) (ta tb : TE) : TE := fun σ H Q => ta σ H fun x H1 => tb σ H1 fun y H2 => r x y H2 Q
def tUn (r : V → Hp → VK → Prop) (ta : TE) : TE := fun σ H Q => ta σ H fun x H1 => r x H1 Q
/-- ints in, under C, and a value out -/
def rI (C : Int → Int → Prop) (g : Int → Int → V) : R2 := fun x y H Q => ∃ i j, x = .int i ∧ y = .int j ∧ C i j ∧ Q (g i j) H
def rI0 (g : Int → Int → V) : R2 := fun x y H Q => ∃ i j, x = .int i ∧ y = .int j ∧ Q (g i j) H
def rU (g : Int → V) : V → Hp → VK → Prop := fun x H Q => ∃ i, x = .int i ∧ Q (g i) H
section
variable {X : Cx} {a b c : Expr} {ta tb tc : TE} {pos : Pos}
theorem binT (ha : PE X a ta) (hb : PE X b tb) {pins : List (Addr × Obj)} {s : Shared} {σ : St} {H : Hp} {R : V → V → Hp → Prop} (I : Inv X pins σ H s)
    (h : ta σ H fun x H1 => tb σ H1 fun y H2 => R x y H2) {Q : Value → Shared → Prop} {f : Value → Value → Sem Value}
    (hf : ∀ v u s2 x y H2, Inv X pins σ H2 s2 → RelV x v → RelV y u → R x y H2 → wpAny (model X.prog X.w) X.A (f v u) Q X.xe s2) :
    wpAny (model X.prog X.w) X.A (eval a X.env) (fun v s₁ => wpAny (model X.prog X.w) X.A (eval b X.env) (fun u s₂ => wpAny (model X.prog X.w) X.A (f v u) Q X.xe s₂) X.xe s₁) X.xe s := by
  refine thn (ha pins s σ H _ I h) fun v s1 ⟨x, H1, I1, r1, q1⟩ => ?_
  refine thn (hb pins s1 σ H1 _ I1 q1) fun u s2 ⟨y, H2, I2, r2, q2⟩ => ?_
  exact hf v u s2 x y H2 I2 r1 r2 q2
theorem pe_op {op : Operator} {r : R2} (ho : OpR X (binaryOp op) r) (ha : PE X a ta) (hb : PE X b tb) : PE X (.BinOp a op b pos) (tOp r ta tb) := by
  intro pins s σ H Q I h
  exact wpAny_BinOp (binT ha hb I h fun v u s2 x y H2 I2 rx ry q => ho pins s2 σ H2 x y v u Q I2 rx ry q)
theorem pe_un {op : UnaryOp} {r : V → Hp → VK → Prop} (ho : UnR X (unaryOp op) r) (ha : PE X a ta) : PE X (.UnaryOp op a pos) (tUn r ta) := by
  intro pins s σ H Q I h
  exact UnaryOp_ (thn (ha pins s σ H _ I h) fun v s1 ⟨x, H1, I1, r1, q1⟩ => ho pins s1 σ H1 x v Q I1 r1 q1)
theorem opI {f : Value → Value → Sem Value} {C : Int → Int → Prop} {g : Int → Int → Int}
    (rule : ∀ (i j : Int) (t u : Tok) (s : Shared) (Q : Value → Shared → Prop) (E : Value → Shared → Prop), C i j → Q (.int (g i j) s.toks) { s with toks := s.toks + 1 } → wpAny (model X.prog X.w) X.A (f (.int i t) (.int j u)) Q E s) :
    OpR X f (rI C fun i j => .int (g i j)) := by
  intro pins s σ H x y v u Q I rx ry h
  obtain ⟨i, j, rfl, rfl, hc, q⟩ := h
  obtain ⟨t, rfl⟩ := rx
  obtain ⟨t', rfl⟩ := ry
  exact rule i j t t' s _ _ hc ⟨.int (g i j), H, I.tok _, ⟨_, rfl⟩, q⟩
theorem opI0 {f : Value → Value → Sem Value} {g : Int → Int → Int}
    (rule : ∀ (i j : Int) (t u : Tok) (s : Shared) (Q : Value → Shared → Prop) (E : Value → Shared → Prop), Q (.int (g i j) s.toks) { s with toks := s.toks + 1 } → wpAny (model X.prog X.w) X.A (f (.int i t) (.int j u)) Q E s) :
    OpR X f (rI0 fun i j => .int (g i j)) := by
  intro pins s σ H x y v u Q I rx ry h
  obtain ⟨i, j, rfl, rfl, q⟩ := h
  obtain ⟨t, rfl⟩ := rx
  obtain ⟨t', rfl⟩ := ry
  exact rule i j t t' s _ _ ⟨.int (g i j), H, I.tok _, ⟨_, rfl⟩, q⟩
theorem opB0 {f : Value → Value → Sem Value} {g : Int → Int → Bool}
    (rule : ∀ (i j : Int) (t u : Tok) (s : Shared) (Q : Value → Shared → Prop) (E : Value → Shared → Prop), Q (.bool (g i j)) s → wpAny (model X.prog X.w) X.A (f (.int i t) (.int j u)) Q E s) :
    OpR X f (rI0 fun i j => .bl (g i j)) := by
  intro pins s σ H x y v u Q I rx ry h
  obtain ⟨i, j, rfl, rfl, q⟩ := h
  obtain ⟨t, rfl⟩ := rx
  obtain ⟨t', rfl⟩ := ry
  exact rule i j t t' s _ _ ⟨.bl (g i j), H, I, rfl, q⟩
def CMul (i j : Int) : Prop := (-(2 ^ 64) < i ∧ i < 2 ^ 64) ∨ (-(2 ^ 64) < j ∧ j < 2 ^ 64)
theorem CMul.ok {i j : Int} (h : CMul i j) : IntMulOk i j := by
  rcases h with ⟨h1, h2⟩ | ⟨h1, h2⟩
  · exact .of_left (intBits_le_64 h1 h2)
  · exact .of_right (intBits_le_64 h1 h2)
theorem op_add : OpR X (binaryOp .Add) (rI0 fun i j => .int (i + j)) := opI0 fun _ _ _ _ _ _ _ q => add_int q
theorem op_sub : OpR X (binaryOp .Sub) (rI0 fun i j => .int (i - j)) := opI0 fun _ _ _ _ _ _ _ q => sub_int q
theorem op_mul : OpR X (binaryOp .Mult) (rI CMul fun i j => .int (i * j)) := opI fun _ _ _ _ _ _ _ hc q => mul_int q hc.ok
theorem iop_mul : OpR X (inplaceOp .Mult) (rI CMul fun i j => .int (i * j)) := opI fun _ _ _ _ _ _ _ hc q => imul_int q hc.ok
theorem unI {f : Value → Sem Value} {g : Int → Int}
    (rule : ∀ (i : Int) (t : Tok) (s : Shared) (Q : Value → Shared → Prop) (E : Value → Shared → Prop), Q (.int (g i) s.toks) { s with toks := s.toks + 1 } → wpAny (model X.prog X.w) X.A (f (.int i t)) Q E s) :
    UnR X f (rU fun i => .int (g i)) := by
  intro pins s σ H x v Q I rx h
  obtain ⟨i, rfl, q⟩ := h
  obtain ⟨t, rfl⟩ := rx
  exact rule i t s _ _ ⟨.int (g i), H, I.tok _, ⟨_, rfl⟩, q⟩
theorem un_neg : UnR X (unaryOp .USub) (rU fun i => .int (-i)) := unI fun _ _ _ _ _ q => neg_int q
end
/-- the scalars that == tells apart as data does -/
def scal : V → V → Bool
  | .non, .non => true | .non, .int _ => true | .int _, .non => true | .non, .bl _ => true | .bl _, .non => true | .non, .str _ => true | .str _, .non => true
  | .int _, .int _ => true | .bl _, .bl _ => true | .str _, .str _ => true | .byt _, .byt _ => true
  | .int _, .str _ => true | .str _, .int _ => true | .bl _, .str _ => true | .str _, .bl _ => true
  | _, _ => false
def rEq : R2 := fun x y H Q => scal x y = true ∧ Q (.bl (decide (x = y))) H
theorem dec_int {i j : Int} : decide (V.int i = V.int j) = (i == j) := by
  rw [Bool.eq_iff_iff]
  simp
theorem dec_bl {i j : Bool} : decide (V.bl i = V.bl j) = (i == j) := by
  rw [Bool.eq_iff_iff]
  simp
theorem dec_str {i j : Str} : decide (V.str i = V.str j) = (i == j) := by
  rw [Bool.eq_iff_iff]
  simp
theorem dec_byt {i j : Array UInt8} : decide (V.byt i = V.byt j) = (i.toList == j.toList) := by
  rw [Bool.eq_iff_iff]
  cases i
  cases j
  simp
section
variable {X : Cx} {a b c : Expr} {ta tb tc : TE} {pos : Pos}
theorem fin_bl {pins : List (Addr × Obj)} {σ : St} {H : Hp} {s : Shared} {Q : VK} {k k' : Bool} (I : Inv X pins σ H s) (q : Q (.bl k) H) (e : k = k') : EP X pins σ Q (.bool k') s := by
  subst e
  exact ⟨.bl k, H, I, rfl, q⟩
theorem op_eq : OpR X (compareOp .Eq) rEq := by
  intro pins s σ H x y v u Q I rx ry h
  obtain ⟨hs, q⟩ := h
  cases x with
  | non =>
    cases rx
    cases y with
    | non => cases ry; exact PySem.EqNone.eq_none_none (fin_bl I q (by simp))
    | bl j => cases ry; exact PySem.EqNone.eq_none_bool (fin_bl I q (by simp))
    | int j => obtain ⟨t', rfl⟩ := ry; exact PySem.EqNone.eq_none_int (fin_bl I q (by simp))
    | str j => obtain ⟨t', rfl⟩ := ry; exact PySem.EqNone.eq_none_str (fin_bl I q (by simp))
    | _ => exact absurd (show false = true from hs) Bool.false_ne_true
  | bl i =>
    cases rx
    cases y with
    | non => cases ry; exact PySem.EqNone.eq_bool_none (fin_bl I q (by simp))
    | bl j => cases ry; exact eq_bool (fin_bl I q dec_bl)
    | str j => obtain ⟨t', rfl⟩ := ry; exact PySem.EqMixed.eq_bool_str (fin_bl I q (by simp))
    | _ => exact absurd (show false = true from hs) Bool.false_ne_true
  | int i =>
    obtain ⟨t, rfl⟩ := rx
    cases y with
    | non => cases ry; exact PySem.EqNone.eq_int_none (fin_bl I q (by simp))
    | int j => obtain ⟨t', rfl⟩ := ry; exact eq_int (fin_bl I q dec_int)
    | str j => obtain ⟨t', rfl⟩ := ry; exact PySem.EqMixed.eq_int_str (fin_bl I q (by simp))
    | _ => exact absurd (show false = true from hs) Bool.false_ne_true
  | str i =>
    obtain ⟨t, rfl⟩ := rx
    cases y with
    | non => cases ry; exact PySem.EqNone.eq_str_none (fin_bl I q (by simp))
    | bl j => cases ry; exact PySem.EqMixed.eq_str_bool (fin_bl I q (by simp))
    | int j => obtain ⟨t', rfl⟩ := ry; exact PySem.EqMixed.eq_str_int (fin_bl I q (by simp))
    | str j => obtain ⟨t', rfl⟩ := ry; exact eq_str (fin_bl I q dec_str)
    | _ => exact absurd (show false = true from hs) Bool.false_ne_true
  | byt i =>
    obtain ⟨t, rfl⟩ := rx
    cases y with
    | byt j => obtain ⟨t', rfl⟩ := ry; exact PySem.W.eq_bytes (fin_bl I q dec_byt)
    | _ => exact absurd (show false = true from hs) Bool.false_ne_true
  | _ => cases y <;> exact absurd (show false = true from hs) Bool.false_ne_true
theorem op_lt : OpR X (compareOp .Lt) (rI0 fun i j => .bl (decide (i < j))) := opB0 fun _ _ _ _ _ _ _ q => lt_int q
theorem op_le : OpR X (compareOp .LtE) (rI0 fun i j => .bl (decide (i ≤ j))) := opB0 fun _ _ _ _ _ _ _ q => le_int q
theorem op_gt : OpR X (compareOp .Gt) (rI0 fun i j => .bl (decide (j < i))) := opB0 fun _ _ _ _ _ _ _ q => gt_int q
theorem op_ge : OpR X (compareOp .GtE) (rI0 fun i j => .bl (decide (j ≤ i))) := opB0 fun _ _ _ _ _ _ _ q => ge_int q
theorem nomark (b : Expr) {op : CmpOp} (h : op ≠ .In := by decide) (h2 : op ≠ .NotIn := by decide) : behindInMarks op b = false := by
  have e1 : (op == CmpOp.In) = false := by cases op <;> first | rfl | exact absurd rfl h
  have e2 : (op == CmpOp.NotIn) = false := by cases op <;> first | rfl | exact absurd rfl h2
  cases b <;> simp [behindInMarks, e1, e2]
/-- a comparison as a value; hm: nomark b, or (for in, not in) by with_unfolding_all rfl -/
theorem pe_cmpR {op : CmpOp} {r : R2} (ho : OpR X (compareOp op) r) (ha : PE X a ta) (hb : PE X b tb) (hm : behindInMarks op b = false) : PE X (.Compare a [op] [b] pos) (tOp r ta tb) := by
  intro pins s σ H Q I h
  exact wpAny_Compare1 (binT ha hb I h fun v u s2 x y H2 I2 rx ry q => ho pins s2 σ H2 x y v u Q I2 rx ry q) hm
/-- a reading of a value as a test -/
def tTest (t : TE) : TT := fun σ H Q => t σ H fun x H' => ∃ k, x = .bl k ∧ Q k H'
theorem pt_cmpR {op : CmpOp} {r : R2} (ho : OpR X (compareOp op) r) (ha : PE X a ta) (hb : PE X b tb) (hm : behindInMarks op b = false) : PT X (.Compare a [op] [b] pos) (tTest (tOp r ta tb)) := by
  intro pins s σ H Q I h
  refine wpAny_isTrue_Compare1 (thn (ha pins s σ H _ I h) fun v s1 ⟨x, H1, I1, r1, q1⟩ => thn (hb pins s1 σ H1 _ I1 q1) fun u s2 ⟨y, H2, I2, r2, q2⟩ =>
    thn (ho pins s2 σ H2 x y v u _ I2 r1 r2 q2) fun c s3 ⟨z, H3, I3, r3, k, e, q3⟩ => ?_) hm
  subst e
  cases r3
  exact wpAny_truthy_bool ⟨H3, I3, q3⟩
/-- a value's truth by the abstract heap -/
def TruV (K : PySem.W.Frag) (x : V) (H : Hp) (k : Bool) : Prop :=
  match x with
  | .non => k = false
  | .bl b => k = b
  | .int i => k = (i != 0)
  | .str y => y.length ≤ sizeLine ∧ k = ((y.length : Int) != 0)
  | .byt y => y.size ≤ sizeLine ∧ k = ((y.size : Int) != 0)
  | .ref p => (∃ xs, SqL K H p xs ∧ k = !xs.isEmpty) ∨ (∃ xs, SqT K H p xs ∧ k = !xs.isEmpty) ∨ ∃ kvs, H p = some (.dK kvs) ∧ k = !kvs.isEmpty
  | _ => False
theorem isEmpty_kv {κ : Type} {kvs : List (κ × V)} {vs : List (κ × Value)} (r : KV kvs vs) : (!vs.isEmpty) = !kvs.isEmpty := by
  cases r <;> rfl
theorem isEmpty_of {xs : List V} {its : List Value} (r : Vals xs its) : (!its.toArray.isEmpty) = !xs.isEmpty := by
  cases r <;> simp
theorem line63 : (sizeLine : Nat) < 2 ^ 63 := by rw [sizeLine_eq]; decide
theorem tru_ok : TruR X (fun x H Q => ∃ k, TruV X.K x H k ∧ Q k H) := by
  intro pins s σ H x v Q I rx h
  obtain ⟨k, e, q⟩ := h
  have hl := line63
  have hs : sizeLine = 16777216 := sizeLine_eq
  cases x with
  | non =>
    cases rx
    have e' : k = false := e
    subst e'
    exact truthy_none ⟨H, I, q⟩
  | bl b =>
    cases rx
    have e' : k = b := e
    subst e'
    exact wpAny_truthy_bool ⟨H, I, q⟩
  | int i =>
    obtain ⟨t, rfl⟩ := rx
    have e' : k = (i != 0) := e
    subst e'
    exact PySem.P.truthy_int ⟨H, I, q⟩
  | str y =>
    obtain ⟨t, rfl⟩ := rx
    obtain ⟨hy, e'⟩ : y.length ≤ sizeLine ∧ k = ((y.length : Int) != 0) := e
    subst e'
    exact PySem.P.truthy_str (by omega) ⟨H, I.tok _, q⟩
  | byt y =>
    obtain ⟨t, rfl⟩ := rx
    obtain ⟨hy, e'⟩ : y.size ≤ sizeLine ∧ k = ((y.size : Int) != 0) := e
    subst e'
    exact PySem.W.truthy_bytes (by omega) ⟨H, I.tok _, q⟩
  | ref p =>
    cases rx
    have e' : (∃ xs, SqL X.K H p xs ∧ k = !xs.isEmpty) ∨ (∃ xs, SqT X.K H p xs ∧ k = !xs.isEmpty) ∨ ∃ kvs, H p = some (.dK kvs) ∧ k = !kvs.isEmpty := e
    rcases e' with ⟨xs, hx, e'⟩ | ⟨xs, hx, e'⟩ | ⟨kvs, hx, e'⟩
    · subst e'
      obtain ⟨its, r, pl, hz⟩ := I.list hx
      have hlen := r.length
      exact wpAny_truthy_list pl.isList (by simp only [List.size_toArray]; omega) ⟨H, I.tok _, by rw [isEmpty_of r]; exact q⟩
    · subst e'
      obtain ⟨its, r, pl, hz⟩ := I.tuple hx
      have hlen := r.length
      exact truthy_tuple pl (by simp only [List.size_toArray]; omega) ⟨H, I.tok _, by rw [isEmpty_of r]; exact q⟩
    · subst e'
      obtain ⟨hz, hS, vs, r, m⟩ : kvs.length ≤ sizeLine ∧ (p == sysModules) = false ∧ ∃ vs, KV kvs vs ∧ s.heap.DictOf (mixKind X.prog X.w) p vs := I.hok p _ hx
      have hlen : kvs.length = vs.length := Paired.length r
      exact wpAny_truthy_dict hS m (by omega) ⟨H, I.tok _, by rw [isEmpty_kv r]; exact q⟩
  | _ => exact (show False from e).elim
/-- any expression whose test is its value's truth (a name, a call, a subscript, a field ..: he by fun _ => rfl) -/
theorem pt_truth (ha : PE X a ta) (he : ∀ whole, isTrue a X.env whole = (do let v ← whole; standAt a.pos; holding [v] (truthy v))) :
    PT X a (fun σ H Q => ta σ H fun x H' => ∃ k, TruV X.K x H' k ∧ Q k H') := by
  intro pins s σ H Q I h
  exact isTrue_plain (thn (ha pins s σ H _ I h) fun v s1 ⟨x, H1, I1, r1, q1⟩ => tru_ok pins s1 σ H1 x v Q I1 r1 q1) (he _)
theorem vals1 {x : V} {us : List Value} (r : Vals [x] us) : ∃ u, us = [u] ∧ RelV x u := by
  cases r with
  | cons r1 r2 => cases r2; exact ⟨_, rfl, r1⟩
theorem vals2 {x y : V} {us : List Value} (r : Vals [x, y] us) : ∃ u w', us = [u, w'] ∧ RelV x u ∧ RelV y w' := by
  cases r with
  | cons r1 r2 =>
    cases r2 with
    | cons r3 r4 => cases r4; exact ⟨_, _, rfl, r1, r3⟩
theorem call_min2 (hc : X.calm = true) : CallR X (.builtin "min") (fun xs H Q => ∃ i j, xs = [.int i, .int j] ∧ Q (.int (if j < i then j else i)) H) := by
  intro pins s σ H xs us Q I r h
  obtain ⟨i, j, rfl, q⟩ := h
  obtain ⟨u, w', rfl, ⟨t, rfl⟩, ⟨t', rfl⟩⟩ := vals2 r
  refine min_two_ints (I.ok.hd hc) fun h' tk k => ⟨_, H, I.kept k, ?_, q⟩
  by_cases hj : j < i
  · rw [if_pos hj, if_pos hj]; exact ⟨_, rfl⟩
  · rw [if_neg hj, if_neg hj]; exact ⟨_, rfl⟩
end
end L2
namespace L2
open PySem PySem.Spec PyProof.Rows
structure ObjM (h : Heap) (x dx C : Addr) (mA : Str → Option Value) : Prop where
  obj : h.get? x = some (PySem.W.instObj C dx)
  ns : h.Ns1 dx mA
  ne : dx ≠ x
theorem lookIn_ns {h : Heap} {dx : Addr} {mA : Str → Option Value} (n : h.Ns1 dx mA) : ∃ od, h.get? dx = some od ∧ ∀ name, PySem.W.lookIn name od = some (mA name) := by
  obtain ⟨o, es, ep, ho, hd, hk, _, hm⟩ := n
  refine ⟨o, ho, fun name => ?_⟩
  have e := hm name
  unfold nsFind findBy at e
  rw [← Array.find?_toList] at e
  unfold PySem.W.lookIn
  rw [hd]
  dsimp only
  split
  · rename_i y q
    rw [q] at e
    exact congrArg some e
  · rename_i q
    rw [q] at e
    have a : es.toList.any (·.refKey) = false := by
      rw [List.any_eq_false]
      intro y hy
      obtain ⟨z, t, hkey⟩ := hk y (Array.mem_toList_iff.mp hy)
      simp [DictEntry.refKey, hkey]
    have a' : ¬ es.toList.any (·.refKey) = true := by rw [a]; exact Bool.false_ne_true
    rw [if_neg a']
    exact congrArg some e
theorem ObjM.look {h : Heap} {x dx C : Addr} {mA : Str → Option Value} (I : ObjM h x dx C mA) : ∃ od, PySem.W.InstAt h x (PySem.W.instObj C dx) C (some od) ∧ ∀ name, PySem.W.lookIn name od = some (mA name) :=
  let ⟨od, ho, hl⟩ := lookIn_ns I.ns
  ⟨od, ⟨I.obj, rfl, rfl, ho⟩, hl⟩
section
variable {prog : Program} {w : World} {A : Around} {E : Value → Shared → Prop} {s : Shared} {K : PySem.W.Frag} {x dx C f : Addr} {mA : Str → Option Value} {name : Str} {v : Value}
theorem get_map {expr : Bool} {Q : Value → Shared → Prop} (X : K.In s.heap) (I : ObjM s.heap x dx C mA) (hg : PySem.W.plainGet K C name = true) (hh : PySem.W.hasDictIn K C = true)
    (ha : PySem.W.findIn K (.ref C) name = some none) (hv : mA name = some v) (hv' : PySem.W.handedIn v = true) (h : Q v { s with toks := s.toks + 1 }) :
    wpAny (model prog w) A (getAttr (.ref x) name expr) Q E s := by
  obtain ⟨od, J, hl⟩ := I.look
  exact PySem.W.get_value X J (PySem.W.plainGet_of hg).1 (PySem.W.findObj_own hh ha rfl (by rw [hl, hv])) hv' h
theorem set_map {ns : List Str} {Q : Unit → Shared → Prop} (X : K.In s.heap) (I : ObjM s.heap x dx C mA)
    (hs : PySem.W.findIn K (.ref C) "__setattr__" = some (some (.builtin "object.__setattr__"))) (hp : PySem.W.plainOver K C = true) (ht : PySem.W.takerIn K C name = some none) (hh : PySem.W.hasDictIn K C = true)
    (hw : PySem.Within mA ns) (hsz : ns.length ≤ sizeLine)
    (h : ∀ h', ObjM h' x dx C (fun y => if y = name then some v else mA y) → Heap.SameBut dx s.heap h' → Q () { s with heap := h', toks := s.toks + 2 }) :
    wpAny (model prog w) A (setAttr (.ref x) name v) Q E s := by
  obtain ⟨od, J, hl⟩ := I.look
  refine PySem.W.set_plain X J hs (PySem.W.osa_open (s := { s with toks := s.toks + 1 }) (r := none) X J hp ht fun b => ?_)
  obtain ⟨cd, hc, hd'⟩ := PySem.W.any_some hh
  have hx : s.heap.get? x = some ⟨.ref C, some dx, .plain, #[]⟩ := I.obj
  refine wpAny_bind (wpAny_pure (wpAny_bind (wpAny_bind (wpAny_loadPart hx (wpAny_bind (PySem.W.Looks.here (s := { s with toks := s.toks + 1 }) (PySem.W.looks_clsIn X hc) ?_))))))
  rw [hd']
  refine wpAny_pure (a := some dx) (wpAny_bind (wpAny_pure (wpAny_bind ?_)))
  refine wpAny_nsSet1 (s := { s with toks := s.toks + 1 }) I.ns fun h' hn2 hs2 => ?_
  obtain ⟨oD, esD, epD, hoD, hdD, hcD⟩ := hn2.count (PySem.Within.cons name v hw)
  refine wpAny_bind (wpAny_lookBehind hoD (by rw [hdD]; exact pastItsLine_dict (Nat.le_trans hcD (by rw [List.length_cons]; omega))) ?_)
  exact wpAny_pure (h _ ⟨(hs2.2 _ (Ne.symm I.ne)).trans I.obj, hn2, I.ne⟩ hs2)
/-- C(..): the dict at the heap's end, the instance behind it; then its __init__ -/
theorem make_map {R : Result → Shared → Prop} {vs : List Value} {kw : List (Str × Value)} (X : K.In s.heap) (hm : PySem.W.makesIn K C = true)
    (hi : PySem.W.findIn K (.ref C) "__init__" = some (some (.ref f))) (hf : PySem.W.typeIn K (.ref f) = some (.type "function"))
    (h : codeAny (model prog w) (A.under (.builtin "type.__call__" ⟨.ref C :: vs, kw⟩)) (.call (.ref f) ⟨.ref (s.heap.objs.size + 1) :: vs, kw⟩) (PySem.W.InitBack (s.heap.objs.size + 1) R)
      { s with heap := (s.heap.push PySem.W.emptyDict).push (PySem.W.instObj C s.heap.objs.size) }) :
    codeAny (model prog w) A (.call (.ref C) ⟨vs, kw⟩) R s := by
  obtain ⟨hh, g, d, t, os⟩ := s
  exact PySem.W.make_core (PySem.W.makes_of X hm) (PySem.W.looks_findIn X hi) (fun self => PySem.W.bind_fn X self hf) (.inl rfl) h
end
def putF (f : Str) (v : V) : List (Str × V) → List (Str × V)
  | [] => [(f, v)]
  | (g, x) :: r => if g = f then (g, v) :: r else (g, x) :: putF f v r
theorem lookup_putF (f g : Str) (v : V) : ∀ fs : List (Str × V), (putF f v fs).lookup g = if g = f then some v else fs.lookup g
  | [] => by
    show List.lookup g [(f, v)] = _
    by_cases h : g = f
    · have hb : (g == f) = true := beq_iff_eq.mpr h
      simp only [List.lookup, hb, if_pos h]
    · have hb : (g == f) = false := beq_eq_false_iff_ne.mpr h
      simp only [List.lookup, hb, if_neg h]
  | (k, x) :: r => by
    have ih := lookup_putF f g v r
    rw [show putF f v ((k, x) :: r) = (if k = f then (k, v) :: r else (k, x) :: putF f v r) from rfl]
    by_cases hk : k = f
    · rw [if_pos hk]
      by_cases h : g = k
      · have hb : (g == k) = true := beq_iff_eq.mpr h
        simp only [List.lookup, hb, if_pos (h.trans hk)]
      · have hb : (g == k) = false := beq_eq_false_iff_ne.mpr h
        simp only [List.lookup, hb, if_neg (fun e : g = f => h (e.trans hk.symm))]
    · rw [if_neg hk]
      by_cases h : g = k
      · have hb : (g == k) = true := beq_iff_eq.mpr h
        simp only [List.lookup, hb, if_neg (fun e : g = f => hk (h.symm.trans e))]
      · have hb : (g == k) = false := beq_eq_false_iff_ne.mpr h
        simp only [List.lookup, hb]
        exact ih
theorem keys_putF (f : Str) (v : V) : ∀ fs : List (Str × V), f ∈ (putF f v fs).map (·.1) ∧ ∀ g, g ∈ fs.map (·.1) → g ∈ (putF f v fs).map (·.1)
  | [] => ⟨by simp [putF], fun g h => by simp at h⟩
  | (k, x) :: r => by
    obtain ⟨i1, i2⟩ := keys_putF f v r
    rw [show putF f v ((k, x) :: r) = (if k = f then (k, v) :: r else (k, x) :: putF f v r) from rfl]
    by_cases hk : k = f
    · rw [if_pos hk]
      subst hk
      exact ⟨by simp, fun g h => by simpa using h⟩
    · rw [if_neg hk]
      refine ⟨?_, fun g h => ?_⟩
      · rw [List.map_cons]
        exact List.mem_cons_of_mem _ i1
      · rw [List.map_cons] at h ⊢
        rcases List.mem_cons.mp h with e | e
        · exact List.mem_cons.mpr (.inl e)
        · exact List.mem_cons_of_mem _ (i2 g e)
theorem length_putF (f : Str) (v : V) : ∀ fs : List (Str × V), (putF f v fs).length ≤ fs.length + 1
  | [] => by simp [putF]
  | (k, x) :: r => by
    have ih := length_putF f v r
    rw [show putF f v ((k, x) :: r) = (if k = f then (k, v) :: r else (k, x) :: putF f v r) from rfl]
    by_cases hk : k = f
    · rw [if_pos hk, List.length_cons, List.length_cons]; omega
    · rw [if_neg hk, List.length_cons, List.length_cons]; omega
theorem RelO.some_of {v : V} {o : Option Value} (r : RelO (some v) o) : ∃ u, o = some u ∧ RelV v u := by
  cases o with
  | none => exact (show False from r).elim
  | some u => exact ⟨u, rfl, r⟩
theorem handed_of {v : V} {u : Value} (r : RelV v u) : PySem.W.handedIn u = true := by
  cases v with
  | non => cases (show u = Value.none from r); rfl
  | bl b => cases (show u = Value.bool b from r); rfl
  | int i => obtain ⟨t, e⟩ := (show ∃ t, u = Value.int i t from r); cases e; rfl
  | str x => obtain ⟨t, e⟩ := (show ∃ t, u = Value.str x t from r); cases e; rfl
  | byt b => obtain ⟨t, e⟩ := (show ∃ t, u = Value.bytes b t from r); cases e; rfl
  | flt b => obtain ⟨t, e⟩ := (show ∃ t, u = Value.float b t from r); cases e; rfl
  | ref a => cases (show u = Value.ref a from r); rfl
  | ty n => cases (show u = Value.type n from r); rfl
section
variable {P : Program} {w : World} {H H' : Hp} {h h' : Heap} {a C dx : Addr} {fs fs' : List (Str × V)}
theorem ins_get (hok : HOk P w H h) (e : H a = some (.ins C dx fs)) : ∃ mA, ObjM h a dx C mA ∧ (∀ f, RelO (fs.lookup f) (mA f)) ∧ PySem.Within mA (fs.map (·.1)) ∧ fs.length ≤ 1000 ∧ H dx = some (.own a) := by
  obtain ⟨d, z, ne, ob, mA, n, r, q⟩ := (show ObjOk P w H h a (.ins C dx fs) from hok a _ e)
  exact ⟨mA, ⟨ob, n, ne⟩, r, q, z, d⟩
end
structure Cls (K : PySem.W.Frag) (C : Addr) : Prop where
  pg : PySem.W.plainGet K C Str.empty = true
  hd : PySem.W.hasDictIn K C = true
  po : PySem.W.plainOver K C = true
  sa : PySem.W.findIn K (.ref C) "__setattr__" = some (some (.builtin "object.__setattr__"))
theorem Cls.get {K : PySem.W.Frag} {C : Addr} (c : Cls K C) (f : Str) : PySem.W.plainGet K C f = true := c.pg
/-- no class of it has the name -/
def NoAttr (K : PySem.W.Frag) (C : Addr) (f : Str) : Prop := PySem.W.findIn K (.ref C) f = some none
theorem NoAttr.taker {K : PySem.W.Frag} {C : Addr} {f : Str} (n : NoAttr K C f) : PySem.W.takerIn K C f = some none := by
  unfold PySem.W.takerIn
  rw [show PySem.W.findIn K (.ref C) f = some none from n]
  rfl
section
variable {X : Cx} {pins : List (Addr × Obj)} {σ : St} {H : Hp} {s : Shared} {a C dx : Addr} {fs : List (Str × V)} {f : Str} {v : V} {A : Around} {E : Value → Shared → Prop}
theorem getattr_ok {b : Bool} {Q : Value → Shared → Prop} (I : Inv X pins σ H s) (e : H a = some (.ins C dx fs)) (c : Cls X.K C) (n : NoAttr X.K C f) (l : fs.lookup f = some v)
    (h : ∀ u s', Inv X pins σ H s' → RelV v u → Q u s') : wpAny (model X.prog X.w) A (getAttr (.ref a) f b) Q E s := by
  obtain ⟨mA, O, r, _, _, _⟩ := ins_get I.hok e
  obtain ⟨u, hu, ru⟩ := RelO.some_of (v := v) (o := mA f) (by rw [← l]; exact r f)
  exact get_map I.kIn O (c.get f) c.hd n hu (handed_of ru) (h u _ (I.tok _) ru)
theorem setattr_ok {y : V} {u : Value} {Q : Unit → Shared → Prop} (I : Inv X pins σ H s) (e : H a = some (.ins C dx fs)) (c : Cls X.K C) (n : NoAttr X.K C f) (hl : fs.length < 1000) (ry : RelV y u)
    (h : ∀ s', Inv X pins σ (upd H a (.ins C dx (putF f y fs))) s' → Q () s') : wpAny (model X.prog X.w) A (setAttr (.ref a) f u) Q E s := by
  obtain ⟨mA, O, r, wi, _, ho⟩ := ins_get I.hok e
  have hz : (fs.map (·.1)).length ≤ sizeLine := by rw [List.length_map, sizeLine_eq]; omega
  refine set_map I.kIn O c.sa c.po n.taker c.hd wi hz fun h' O' sb => h _ ?_
  have hd : ∃ o, h'.get? dx = some o := let ⟨o, _, _, e', _⟩ := O'.ns; ⟨o, e'⟩
  refine I.write (x := a) (e := dx) (by rw [e]; exact True.intro) (.inr ho) (fun b q hb z => (sb.2 b hb).trans z) hd ?_
  refine ⟨by rw [upd_ne O.ne]; exact ho, ?_, O.ne, O'.obj, _, O'.ns, fun g => ?_, fun g hg => ?_⟩
  · have := length_putF f y fs; omega
  · show RelO ((putF f y fs).lookup g) (if g = f then some u else mA g)
    rw [lookup_putF]
    by_cases q : g = f
    · rw [if_pos q, if_pos q]; exact ry
    · rw [if_neg q, if_neg q]; exact r g
  · by_cases q : g = f
    · rw [q]; exact (keys_putF f y fs).1
    · refine (keys_putF f y fs).2 g (wi g fun z => hg ?_)
      show (if g = f then some u else mA g) = none
      rw [if_neg q]; exact z
/-- a new instance, tracked, without attributes -/
theorem Inv.made (I : Inv X pins σ H s) : Inv X pins σ (upd (upd H s.heap.objs.size (.own (s.heap.objs.size + 1))) (s.heap.objs.size + 1) (.ins C s.heap.objs.size []))
    { s with heap := (s.heap.push PySem.W.emptyDict).push (PySem.W.instObj C s.heap.objs.size) } := by
  have e1 : (s.heap.push PySem.W.emptyDict).get? s.heap.objs.size = some PySem.W.emptyDict := Heap.get?_push_size s.heap rfl
  have e2 : ((s.heap.push PySem.W.emptyDict).push (PySem.W.instObj C s.heap.objs.size)).get? (s.heap.objs.size + 1) = some (PySem.W.instObj C s.heap.objs.size) := by
    have := Heap.get?_push_size (s.heap.push PySem.W.emptyDict) (o := PySem.W.instObj C s.heap.objs.size) rfl
    rwa [Heap.size_push] at this
  have e3 : (s.heap.push PySem.W.emptyDict).Ns s.heap.objs.size (fun _ => none) := ⟨PySem.W.emptyDict, #[], _, e1, rfl, (fun e he => absurd he (by simp)), fun _ => rfl⟩
  have I1 := I.laid (a := s.heap.objs.size) (o := .own (s.heap.objs.size + 1)) (h' := s.heap.push PySem.W.emptyDict) (t' := s.toks) (fun b u q => Heap.get?_push_of_some _ q) (Nat.le_refl _) ⟨_, e1⟩
  refine I1.laid (a := s.heap.objs.size + 1) (o := .ins C s.heap.objs.size []) (t' := s.toks) (fun b u q => Heap.get?_push_of_some _ q) (Nat.le_of_eq (Heap.size_push _ _)) ?_
  have ne : s.heap.objs.size ≠ s.heap.objs.size + 1 := Nat.ne_of_lt (Nat.lt_succ_self _)
  refine ⟨by rw [upd_ne ne, upd_same], Nat.zero_le _, ne, e2, fun _ => none, (Heap.Ns1.of_empty e3).at fun o q => Heap.get?_push_of_some _ q, fun _ => True.intro, fun y hy => absurd rfl hy⟩
/-- e.f where nothing but the object is asked: through attributeBase (super) and the last hold -/
theorem attr_of {prog : Program} {w : World} {env : Env} {e : Expr} {f : Str} {pos : Pos} {s : Shared} {Q : Value → Shared → Prop} (hb : attributeBase e f env (eval e env) = eval e env)
    (h : wpAny (model prog w) A (eval e env) (fun o s₁ => wpAny (model prog w) A (getAttr o f true) Q E s₁) E s) : wpAny (model prog w) A (eval (.Attribute e f pos) env) Q E s :=
  Attribute_any_ h (by rw [arm_eval_Attribute, hb])
end
/-- e.f, an attribute of the instance -/
def tFld (K : PySem.W.Frag) (ta : TE) (f : Str) : TE := fun σ H Q => ta σ H fun x H1 => ∃ a C dx fs v, x = .ref a ∧ H1 a = some (.ins C dx fs) ∧ Cls K C ∧ NoAttr K C f ∧ fs.lookup f = some v ∧ Q v H1
/-- e.f = value -/
def sFld (K : PySem.W.Frag) (ta tv : TE) (f : Str) : TS := fun D σ H => tv σ H fun y H1 => ta σ H1 fun x H2 => ∃ a C dx fs, x = .ref a ∧ H2 a = some (.ins C dx fs) ∧ Cls K C ∧ NoAttr K C f ∧ fs.length < 1000 ∧
  D.nx σ (upd H2 a (.ins C dx (putF f y fs)))
/-- an augmented operator on two values -/
def InOp (X : Cx) (op : Operator) (rd : V → V → Hp → VK → Prop) : Prop :=
  ∀ (pins : List (Addr × Obj)) (s : Shared) (σ : St) (H : Hp) (x y : V) (u v : Value) (Q : VK), Inv X pins σ H s → RelV x u → RelV y v → rd x y H Q → wpAny (model X.prog X.w) X.A (inplaceOp op u v) (EP X pins σ Q) X.xe s
/-- e.f op= value -/
def sFldAug (K : PySem.W.Frag) (ta tv : TE) (rd : V → V → Hp → VK → Prop) (f : Str) : TS := fun D σ H => ta σ H fun x H1 => ∃ a C dx fs v, x = .ref a ∧ H1 a = some (.ins C dx fs) ∧ Cls K C ∧ NoAttr K C f ∧ fs.lookup f = some v ∧
  tv σ H1 fun y H2 => rd v y H2 fun z H3 => ∃ dx' fs', H3 a = some (.ins C dx' fs') ∧ fs'.length < 1000 ∧ D.nx σ (upd H3 a (.ins C dx' (putF f z fs')))
section
variable {X : Cx} {o e value : Expr} {f : Str} {pos pos' tpos : Pos} {ta tv : TE}
theorem pe_fld (he : PE X e ta) (hb : attributeBase e f X.env (eval e X.env) = eval e X.env) : PE X (.Attribute e f pos) (tFld X.K ta f) := by
  intro pins s σ H Q I h
  refine attr_of hb (thn (he pins s σ H _ I h) fun u s1 ⟨x, H1, I1, rx, a, C, dx, fs, v, ex, ea, c, n, l, q⟩ => ?_)
  subst ex
  obtain rfl : u = Value.ref a := rx
  exact getattr_ok I1 ea c n l fun u' s2 I2 ru => ⟨v, H1, I2, ru, q⟩
theorem ps_fld (ha : PE X o ta) (hv : PE X value tv) (hs : swapsWith value (some (.Attribute o f pos')) pos.line X.env = pure false) : PS X (.Assign [.Attribute o f pos'] value pos) (sFld X.K ta tv f) := by
  intro pins s σ H D I h
  refine plainObj_wpAny_Assign_Attribute (thn (hv pins s σ H _ I h) fun u s1 ⟨y, H1, I1, ry, q⟩ => thn (ha pins s1 σ H1 _ I1 q) fun ov s2 ⟨x, H2, I2, rx, a, C, dx, fs, ex, ea, c, n, l, q2⟩ => ?_) hs
  subst ex
  obtain rfl : ov = Value.ref a := rx
  exact setattr_ok I2 ea c n l ry fun s3 I3 => ⟨σ, _, I3, q2⟩
theorem ps_fldaug {op : Operator} {rd : V → V → Hp → VK → Prop} (ha : PE X o ta) (hv : PE X value tv) (hop : InOp X op rd) : PS X (.AugAssign (.Attribute o f tpos) op value pos) (sFldAug X.K ta tv rd f) := by
  intro pins s σ H D I h
  refine wpAny_AugAssign_AttributeAny (thn (ha pins s σ H _ I h) fun ov s1 ⟨x, H1, I1, rx, a, C, dx, fs, v, ex, ea, c, n, l, q⟩ => ?_)
  subst ex
  obtain rfl : ov = Value.ref a := rx
  refine getattr_ok I1 ea c n l fun u s2 I2 ru => thn (hv pins s2 σ H1 _ I2 q) fun w3 s3 ⟨y, H2, I3, ry, q3⟩ => thn (hop pins s3 σ H2 v y u w3 _ I3 ru ry q3) fun w4 s4 ⟨z, H3, I4, rz, dx', fs', ea', l', q4⟩ => ?_
  exact setattr_ok I4 ea' c n l' rz fun s5 I5 => ⟨σ, _, I5, q4⟩
def rAdd : V → V → Hp → VK → Prop := fun x y H Q => ∃ i j, x = .int i ∧ y = .int j ∧ Q (.int (i + j)) H
theorem in_add : InOp X .Add rAdd := by
  rintro pins s σ H x y u v Q I rx ry ⟨i, j, rfl, rfl, q⟩
  obtain ⟨t, rfl⟩ := (show ∃ t, u = Value.int i t from rx)
  obtain ⟨t', rfl⟩ := (show ∃ t', v = Value.int j t' from ry)
  exact PyProof.Rows.iadd_int ⟨.int (i + j), H, I.tok _, ⟨_, rfl⟩, q⟩
end
section
variable {X : Cx} {pins : List (Addr × Obj)} {σ : St} {H : Hp} {s : Shared} {A : Around} {E : Value → Shared → Prop} {Q : Value → Shared → Prop} {c : Value} {b : Bool}
end
end L2
namespace L2
open PySem PySem.Spec PyProof.Rows
structure Room (k : Nat) (A : Around) : Prop where
  hd : A.handled = none
  dp : A.depth + 3 * k + 5 < recursionLimit
  un : A.units + 16 * k + 200 < cLine
theorem Room.mono {j k : Nat} {A : Around} (r : Room k A) (h : j ≤ k) : Room j A := ⟨r.hd, by have := r.dp; omega, by have := r.un; omega⟩
theorem Room.deeper {k : Nat} {A : Around} (r : Room (k + 1) A) (env : Env) : Room k (A.deeper env) :=
  ⟨r.hd, by have := r.dp; show A.depth + 1 + 3 * k + 5 < _; omega, by have := r.un; show A.units + 3 + 16 * k + 200 < _; omega⟩
theorem make_depth {A : Around} {C : Addr} {us : List Value} {kw : List (Str × Value)} : (A.under (.builtin "type.__call__" ⟨.ref C :: us, kw⟩)).depth = A.depth + 1 := by
  first | rfl | simp [Around.under, Code.weight, Code.isCreation, Code.isGuard, Code.isCaller, Code.frames, Code.isFrame, guardIds]
theorem make_units {A : Around} {C : Addr} {us : List Value} {kw : List (Str × Value)} : (A.under (.builtin "type.__call__" ⟨.ref C :: us, kw⟩)).units = A.units + 1 := by
  first | rfl | simp [Around.under, Code.cUnits, Code.frames, Code.isFrame]
theorem Room.make {k : Nat} {A : Around} (r : Room (k + 1) A) (C : Addr) (us : List Value) (kw : List (Str × Value)) : Room k (A.under (.builtin "type.__call__" ⟨.ref C :: us, kw⟩)) :=
  ⟨r.hd, by have := r.dp; rw [make_depth]; omega, by have := r.un; rw [make_units]; omega⟩
theorem Room.depth {k : Nat} {A : Around} (r : Room k A) : A.depth < recursionLimit := by have := r.dp; omega
def tNil : TA := fun _ H Q => Q [] H
def tCons (ta : TE) (tr : TA) : TA := fun σ H Q => ta σ H fun x H1 => tr σ H1 fun xs H2 => Q (x :: xs) H2
section
variable {X : Cx} {e : Expr} {es : List Expr} {te : TE} {t : TA} {pos : Pos}
theorem pa_nil : PA X [] tNil := fun _ _ _ _ H Q I h => Calls.spliced_nil ⟨[], H, I, .nil, h⟩
theorem pa_cons (ha : PE X e te) (hr : PA X es t) (hs : starEach (e :: es) X.env = (false, eval e X.env) :: starEach es X.env := by rfl) : PA X (e :: es) (tCons te t) := by
  intro pos pins s σ H Q I h
  rw [hs]
  show wpAny _ _ (spliced ((false, eval e X.env) :: backTo pos (starEach es X.env))) _ _ s
  refine Calls.spliced_cons (thn (ha pins s σ H _ I h) fun u s1 ⟨x, H1, I1, r1, q1⟩ => ?_)
  exact thn (hr pos pins s1 σ H1 _ I1 q1) fun us s2 ⟨xs, H2, I2, r2, q2⟩ => ⟨x :: xs, H2, I2, .cons r1 r2, q2⟩
/-- a tuple, a list of written items -/
def tTup (t : TA) : TE := fun σ H Q => t σ H fun xs H1 => xs.length ≤ sizeLine ∧ ∀ p, H1 p = none → Q (.ref p) (upd H1 p (.tup xs))
def tLst (t : TA) : TE := fun σ H Q => t σ H fun xs H1 => xs.length ≤ sizeLine ∧ ∀ p, H1 p = none → Q (.ref p) (upd H1 p (.lst xs))
theorem pe_tup {x1} (h : PA X es t) : PE X (.Tuple es x1 pos) (tTup t) := by
  intro pins s σ H Q I hq
  refine wpAny_Tuple_spliced (thn (h pos pins s σ H _ I hq) fun us s1 ⟨xs, H1, I1, r, z, q⟩ => ⟨by rw [← r.length]; exact z, ?_⟩)
  have hf : H1 s1.heap.objs.size = none := I1.hok.fresh (Nat.le_refl _)
  refine ⟨.ref s1.heap.objs.size, upd H1 s1.heap.objs.size (.tup xs), I1.laid (t' := s1.toks) (fun b u e => Heap.get?_push_of_some _ e) (Nat.le_refl _) ?_, rfl, q _ hf⟩
  exact ⟨z, us, r, ⟨_, Heap.get?_push_size _ rfl, rfl, _, rfl⟩⟩
theorem pe_lst (h : PA X es t) : PE X (.List es pos) (tLst t) := by
  intro pins s σ H Q I hq
  refine wpAny_List_spliced (thn (h pos pins s σ H _ I hq) fun us s1 ⟨xs, H1, I1, r, z, q⟩ => ⟨by rw [← r.length]; exact z, ?_⟩)
  have hf : H1 s1.heap.objs.size = none := I1.hok.fresh (Nat.le_refl _)
  refine ⟨.ref s1.heap.objs.size, upd H1 s1.heap.objs.size (.lst xs), I1.laid (t' := s1.toks) (fun b u e => Heap.get?_push_of_some _ e) (Nat.le_refl _) ?_, rfl, q _ hf⟩
  exact ⟨z, us, 0, r, Heap.get?_push_size _ rfl⟩
end
/-- a def's promise: the bound arguments in the parameters' order, the heap, the wanted end, the wanted exception -/
abbrev Sp := List V → Hp → VK → XK → Prop
/-- how an exception lies behind a call (file 08 gives it): the callers' frames, abstract heap and state ahead of the call, the wish, the exception, the state -/
abbrev CXT := List Env → Hp → Shared → XK → Value → Shared → Prop
/-- the state at a call -/
structure Env0 (P : Program) (w : World) (K : PySem.W.Frag) (mg : Str → Option Value) (base : Heap) (A : Around) (outer : List Env) (s : Shared) (H : Hp) : Prop where
  frames : A.frames = some outer
  mod : Mod K mg base
  bs : ∀ b o, base.get? b = some o → s.heap.get? b = some o ∧ H b = none
  bsz : base.objs.size ≤ s.heap.objs.size
  funs : s.heap.FunFrames base outer
  frf : ∀ b ∈ frs outer, H b = none
  hok : HOk P w H s.heap
  bare : AllBare s.gens
/-- a call's end -/
def CE (outer : List Env) (P : Program) (w : World) (H : Hp) (s : Shared) (Q : VK) (u : Value) (s' : Shared) : Prop :=
  ∃ v H', s'.os = s.os ∧ AllBare s'.gens ∧ Un (frs outer) [] H H' s.heap s'.heap ∧ HOk P w H' s'.heap ∧ RelV v u ∧ Q v H'
def CR (CX : CXT) (outer : List Env) (P : Program) (w : World) (H : Hp) (s : Shared) (Q : VK) (E : XK) (r : Result) (s' : Shared) : Prop :=
  match r with
  | .ok (.ret u) => CE outer P w H s Q u s'
  | .ok _ => False
  | .error e => CX outer H s E e s'
structure FnOk (P : Program) (w : World) (K : PySem.W.Frag) (mg : Str → Option Value) (base : Heap) (CX : CXT) (k : Nat) (f : Addr) (fd : FuncData) (ps : List Str) (sp : Sp) : Prop where
  len : ∀ vs H Q E, sp vs H Q E → vs.length = ps.length
  run : ∀ (A : Around) (outer : List Env) (s : Shared) (H : Hp) (args : Args) (us : List Value) (vs : List V) (Q : VK) (E : XK), Room k A → Env0 P w K mg base A outer s H → BindsTo s fd args (ps.zip us) → Vals vs us → sp vs H Q E →
    codeAny (model P w) A (.call (.ref f) args) (CR CX outer P w H s Q E) s
theorem Env0.make {P : Program} {w : World} {K : PySem.W.Frag} {mg : Str → Option Value} {base : Heap} {A : Around} {outer : List Env} {s : Shared} {H : Hp} (e : Env0 P w K mg base A outer s H) (C : Addr) (us : List Value) (kw : List (Str × Value)) :
    Env0 P w K mg base (A.under (.builtin "type.__call__" ⟨.ref C :: us, kw⟩)) outer s H := ⟨by first | exact e.frames | (simpa [Around.under, Code.envs, Code.isFrame, pushEnvs] using e.frames), e.mod, e.bs, e.bsz, e.funs, e.frf, e.hok, e.bare⟩
section
variable {X : Cx} {pins : List (Addr × Obj)} {σ : St} {H : Hp} {s s' : Shared}
/-- from a body: what a callee wants -/
theorem Inv.env0 (I : Inv X pins σ H s) : Env0 X.prog X.w X.K X.mg X.base X.A X.stack s H :=
  ⟨I.ok.frames, I.ok.mod, I.bs, Nat.le_trans I.ok.bsz I.sz, I.stack, I.stkFree, I.hok, I.bare⟩
/-- behind a call -/
theorem Inv.after {Q : VK} {u : Value} (I : Inv X pins σ H s) (h : CE X.stack X.prog X.w H s Q u s') : EP X pins σ Q u s' := by
  obtain ⟨v, H', os, bare, un, hok, r, q⟩ := h
  obtain ⟨hh, g, d, t, os'⟩ := s'
  obtain rfl : os' = s.os := os
  exact ⟨v, H', I.call (h' := hh) (g' := g) (d' := d) (t' := t) (ch := []) un hok bare (fun b z => absurd z (by simp)), r, q⟩
end
/-- f(..): the written arguments, then the defaults dvs; E: what is wanted of an exception -/
def tCall (sp : Sp) (dvs : List V) (E : XK) (t : TA) : TE := fun σ H Q => t σ H fun vs H1 => sp (vs ++ dvs) H1 Q E
/-- C(..): a new instance and its dict, then __init__ -/
def tMake (C : Addr) (sp : Sp) (dvs : List V) (E : XK) (t : TA) : TE := fun σ H Q => t σ H fun vs H1 => ∀ x dx, H1 x = none → H1 dx = none → dx ≠ x →
  sp (.ref x :: (vs ++ dvs)) (upd (upd H1 dx (.own x)) x (.ins C dx [])) (fun v H2 => v = .non ∧ Q (.ref x) H2) E
/-- how the parameters are bound: us the positional arguments, kw the keywords' values by name, ds the defaults that fill up -/
def Binds (K : PySem.W.Frag) (fd : FuncData) (ps : List Str) (ds : List Value) : Prop :=
  ∀ (s : Shared) (us : List Value), K.In s.heap → (us ++ ds).length = ps.length → BindsTo s fd ⟨us, []⟩ (ps.zip (us ++ ds))
/-- every parameter is given -/
theorem Binds.all {K : PySem.W.Frag} {fd : FuncData} {ps : List Str} (h : ∀ us : List Value, us.length = ps.length → bindArgs fd ⟨us, []⟩ = pure (ps.zip us)) : Binds K fd ps [] := fun s us _ hl => by
  rw [List.append_nil] at hl ⊢
  exact .of_eq (h us hl)
/-- an exception of a callee reaches what this body wants of exceptions -/
def Passes (CX : CXT) (X : Cx) (E : XK) : Prop := ∀ (pins : List (Addr × Obj)) (σ : St) (H : Hp) (s : Shared) (e : Value) (s' : Shared), Inv X pins σ H s → CX X.stack H s E e s' → X.xe e s'
section
variable {X : Cx} {CX : CXT} {k : Nat} {f C : Addr} {fd : FuncData} {ps : List Str} {sp : Sp} {dvs : List V} {ds : List Value} {E : XK} {x m : Str} {p pos apos : Pos} {e o : Expr} {es : List Expr} {ta : TE} {t : TA}
/-- the callee runs -/
theorem run_fn {pins : List (Addr × Obj)} {σ : St} {H : Hp} {s : Shared} {Q : VK} {us : List Value} {vs : List V} (F : FnOk X.prog X.w X.K X.mg X.base CX k f fd ps sp) (hr : Room k X.A) (hb : Binds X.K fd ps ds) (hd : Vals dvs ds) (hx : Passes CX X E)
    (I : Inv X pins σ H s) (r : Vals vs us) (h : sp (vs ++ dvs) H Q E) : wpAny (model X.prog X.w) X.A (call (.ref f) us) (EP X pins σ Q) X.xe s := by
  have r2 : Vals (vs ++ dvs) (us ++ ds) := r.append hd
  have hl : (us ++ ds).length = ps.length := by rw [← r2.length]; exact F.len _ _ _ _ h
  refine wpAny_call (codeAny_mono (F.run X.A X.stack s H ⟨us, []⟩ (us ++ ds) (vs ++ dvs) Q E hr I.env0 (hb s us I.kIn hl) r2 h) fun r s' hq => ?_)
  cases r with
  | error e => exact hx pins σ H s e s' I hq
  | ok fl =>
    cases fl with
    | ret u => exact I.after hq
    | next => exact False.elim hq
    | brk => exact False.elim hq
    | cont => exact False.elim hq
theorem pe_call (F : FnOk X.prog X.w X.K X.mg X.base CX k f fd ps sp) (hr : Room k X.A) (hg : Gl X x) (hm : X.mg x = some (.ref f)) (hk : PySem.W.keepIn X.K (.ref f) = true) (hb : Binds X.K fd ps ds) (hd : Vals dvs ds) (hx : Passes CX X E)
    (ha : PA X (e :: es) t) (hdb : (x == ("__debug__" : Str)) = false := by decide) (he : starEach (e :: es) X.env = (false, eval e X.env) :: starEach es X.env := by rfl) (hpl : (backTo pos (starEach es X.env)).any (·.1) = false := by rfl) :
    PE X (.Call (.Name x p) (e :: es) [] pos) (tCall sp dvs E t) := by
  intro pins s σ H Q I h
  refine wpAny_Call_Name_kw (ld_glob I hg hm ?_ hdb)
  refine PySem.W.callWith_K (h₀ := X.base) I.ok.mod.kin hk (thn (ha pos pins s σ H _ I h) fun us s1 ⟨vs, H1, I1, r, q⟩ => ⟨I1.kIn, ?_⟩) he hpl
  exact run_fn F hr hb hd hx I1 r q
/-- what a class must have to be made -/
structure Mk (K : PySem.W.Frag) (C f : Addr) : Prop where
  makes : PySem.W.makesIn K C = true
  init : PySem.W.findIn K (.ref C) "__init__" = some (some (.ref f))
  fn : PySem.W.isFn K (.ref f) = true
  kp : PySem.W.keepIn K (.ref C) = true
theorem run_make {pins : List (Addr × Obj)} {σ : St} {H : Hp} {s : Shared} {Q : VK} {us : List Value} {vs : List V} (M : Mk X.K C f) (F : FnOk X.prog X.w X.K X.mg X.base CX k f fd ps sp) (hr : Room (k + 1) X.A) (hb : Binds X.K fd ps ds) (hd : Vals dvs ds)
    (hx : Passes CX X E) (I : Inv X pins σ H s) (r : Vals vs us)
    (h : ∀ x dx, H x = none → H dx = none → dx ≠ x → sp (.ref x :: (vs ++ dvs)) (upd (upd H dx (.own x)) x (.ins C dx [])) (fun v H2 => v = .non ∧ Q (.ref x) H2) E) :
    wpAny (model X.prog X.w) X.A (call (.ref C) us) (EP X pins σ Q) X.xe s := by
  have hq := h (s.heap.objs.size + 1) s.heap.objs.size (I.hok.fresh (Nat.le_succ _)) (I.hok.fresh (Nat.le_refl _)) (Nat.ne_of_lt (Nat.lt_succ_self _))
  have I2 := Inv.made (C := C) I
  have r2 : Vals (V.ref (s.heap.objs.size + 1) :: (vs ++ dvs)) (Value.ref (s.heap.objs.size + 1) :: (us ++ ds)) := .cons rfl (r.append hd)
  have hl : (Value.ref (s.heap.objs.size + 1) :: us ++ ds).length = ps.length := by
    have e := r2.length
    rw [F.len _ _ _ _ hq] at e
    exact e.symm
  refine wpAny_call (make_map (f := f) I.kIn M.makes M.init (beq_iff_eq.mp M.fn) (codeAny_mono (F.run _ X.stack _ _ ⟨Value.ref (s.heap.objs.size + 1) :: us, []⟩ (Value.ref (s.heap.objs.size + 1) :: (us ++ ds)) _ _ E (hr.make C us [])
    (I2.env0.make C us []) (hb _ (Value.ref (s.heap.objs.size + 1) :: us) I2.kIn hl) r2 hq) fun r s' hq' => ?_))
  cases r with
  | error e => exact hx pins σ _ _ e s' I2 hq'
  | ok fl =>
    cases fl with
    | ret u =>
      obtain ⟨v, H', I3, rv, ev, q3⟩ := I2.after hq'
      subst ev
      exact ⟨rv, ⟨V.ref (s.heap.objs.size + 1), H', I3, rfl, q3⟩⟩
    | next => exact False.elim hq'
    | brk => exact False.elim hq'
    | cont => exact False.elim hq'
theorem pe_make (M : Mk X.K C f) (F : FnOk X.prog X.w X.K X.mg X.base CX k f fd ps sp) (hr : Room (k + 1) X.A) (hg : Gl X x) (hm : X.mg x = some (.ref C)) (hb : Binds X.K fd ps ds) (hd : Vals dvs ds) (hx : Passes CX X E)
    (ha : PA X (e :: es) t) (hdb : (x == ("__debug__" : Str)) = false := by decide) (he : starEach (e :: es) X.env = (false, eval e X.env) :: starEach es X.env := by rfl) (hpl : (backTo pos (starEach es X.env)).any (·.1) = false := by rfl) :
    PE X (.Call (.Name x p) (e :: es) [] pos) (tMake C sp dvs E t) := by
  intro pins s σ H Q I h
  refine wpAny_Call_Name_kw (ld_glob I hg hm ?_ hdb)
  refine PySem.W.callWith_K (h₀ := X.base) I.ok.mod.kin M.kp (thn (ha pos pins s σ H _ I h) fun us s1 ⟨vs, H1, I1, r, q⟩ => ⟨I1.kIn, ?_⟩) he hpl
  exact run_make M F hr hb hd hx I1 r q
theorem pe_make0 (M : Mk X.K C f) (F : FnOk X.prog X.w X.K X.mg X.base CX k f fd ps sp) (hr : Room (k + 1) X.A) (hg : Gl X x) (hm : X.mg x = some (.ref C)) (hb : Binds X.K fd ps ds) (hd : Vals dvs ds) (hx : Passes CX X E)
    (hdb : (x == ("__debug__" : Str)) = false := by decide) : PE X (.Call (.Name x p) [] [] pos) (tMake C sp dvs E tNil) := by
  intro pins s σ H Q I h
  refine wpAny_Call_Name_kw (ld_glob I hg hm ?_ hdb)
  exact PySem.W.callWith_K0 I.kIn M.kp (run_make (us := []) M F hr hb hd hx I .nil h)
end
section
variable {X : Cx} {CX : CXT} {k : Nat} {f C : Addr} {fd : FuncData} {ps ks : List Str} {sp : Sp} {E : XK} {x m : Str} {p pos apos kpos : Pos} {e o : Expr} {es : List Expr} {kws : List Keyword} {te ta : TE} {t tk : TA} {nm : Option Str}
variable {g : List Value → List Value → List Value} {gV : List V → List V → List V}
end
/-- names: the parameters first -/
structure FnScope (N P : List Str) (sc : Scope) : Prop where
  kind : sc.kind = .function
  co : sc.isCoroutine = false
  gen : sc.isGenerator = false
  nd : N.Nodup
  pre : N.take P.length = P
  par : ∀ x ∈ P, sc.names.lookup x = some .local ∨ sc.names.lookup x = some .cell
  nofree : ∀ y ∈ sc.names, y.2 ≠ .free
theorem bindL_out {kindOf : Str → Option NameKind} {x : Str} : ∀ {binds : List (Str × Value)} {m : Str → Option Value}, (∀ v, (x, v) ∉ binds) → bindL kindOf binds m x = m x
  | [], _, _ => rfl
  | (n, v) :: r, m, h => by
    unfold bindL
    rw [bindL_out fun w hw => h w (List.mem_cons_of_mem _ hw)]
    split
    · have : x ≠ n := by rintro rfl; exact h v List.mem_cons_self
      simp [this]
    · rfl
theorem bindC_out {kindOf : Str → Option NameKind} {x : Str} : ∀ {binds : List (Str × Value)} {m : Str → Option Value}, (∀ v, (x, v) ∉ binds) → bindC kindOf binds m x = m x
  | [], _, _ => rfl
  | (n, v) :: r, m, h => by
    unfold bindC
    rw [bindC_out fun w hw => h w (List.mem_cons_of_mem _ hw)]
    split
    · rfl
    · have : x ≠ n := by rintro rfl; exact h v List.mem_cons_self
      simp [this]
theorem bindL_get {kindOf : Str → Option NameKind} {x : Str} {v : Value} : ∀ {P : List Str} {vs : List Value} {i : Nat} {m : Str → Option Value}, P.Nodup → P[i]? = some x → vs[i]? = some v → kindOf x = some .local →
    bindL kindOf (P.zip vs) m x = some v
  | [], _, _, _, _, h, _, _ => by simp at h
  | _ :: _, [], _, _, _, _, h, _ => by simp at h
  | p :: P, w :: vs, 0, m, nd, h1, h2, hk => by
    simp at h1 h2; subst h1; subst h2
    show bindL kindOf ((p, w) :: P.zip vs) m p = _
    unfold bindL
    rw [bindL_out fun v hv => (List.nodup_cons.mp nd).1 (List.of_mem_zip hv).1, if_pos hk]
    simp
  | p :: P, w :: vs, i + 1, m, nd, h1, h2, hk => by
    show bindL kindOf ((p, w) :: P.zip vs) m x = _
    unfold bindL
    exact bindL_get (i := i) (List.nodup_cons.mp nd).2 (by simpa using h1) (by simpa using h2) hk
theorem bindC_get {kindOf : Str → Option NameKind} {x : Str} {v : Value} : ∀ {P : List Str} {vs : List Value} {i : Nat} {m : Str → Option Value}, P.Nodup → P[i]? = some x → vs[i]? = some v → kindOf x ≠ some .local →
    bindC kindOf (P.zip vs) m x = some v
  | [], _, _, _, _, h, _, _ => by simp at h
  | _ :: _, [], _, _, _, _, h, _ => by simp at h
  | p :: P, w :: vs, 0, m, nd, h1, h2, hk => by
    simp at h1 h2; subst h1; subst h2
    show bindC kindOf ((p, w) :: P.zip vs) m p = _
    unfold bindC
    rw [bindC_out fun v hv => (List.nodup_cons.mp nd).1 (List.of_mem_zip hv).1, if_neg hk]
    simp
  | p :: P, w :: vs, i + 1, m, nd, h1, h2, hk => by
    show bindC kindOf ((p, w) :: P.zip vs) m x = _
    unfold bindC
    exact bindC_get (i := i) (List.nodup_cons.mp nd).2 (by simpa using h1) (by simpa using h2) hk
/-- the names' values at the entry -/
def start (N : List Str) (vs : List V) : St := vs.map some ++ List.replicate (N.length - vs.length) none
/-- the context of a def's body, at its entry; an exception leaves the frame, then lies as CX says -/
def cxOf (CX : CXT) (P : Program) (w : World) (K : PySem.W.Frag) (mg : Str → Option Value) (base : Heap) (N : List Str) (qual : Str) (scope : Scope) (f : Addr) (cd : Value) (A : Around) (outer : List Env) (s : Shared) (H : Hp) (E : XK) : Cx where
  prog := P
  w := w
  K := K
  mg := mg
  base := base
  A := A.deeper (envOfC qual scope s.heap.objs.size f cd)
  N := N
  s_0 := s
  H_0 := H
  env := envOfC qual scope s.heap.objs.size f cd
  outer := outer
  stack := envOfC qual scope s.heap.objs.size f cd :: outer
  ex := []
  calm := true
  fn := fun _ => true
  pn := []
  xe := fun e s' => wpAny (model P w) (A.deeper (envOfC qual scope s.heap.objs.size f cd)) (leaving (envOfC qual scope s.heap.objs.size f cd) e) (fun _ s'' => CX outer H s E e s'') (fun e' s'' => CX outer H s E e' s'') s'
theorem cell_has {sc : Scope} {n : Nat} {x : Str} (h : sc.names.lookup x = some .cell) : ∃ c, (cellsFrom n sc.names []).lookup x = some c := by
  have q := PySem.W.cellsFrom_some sc.names n [] (.inl h)
  exact Option.isSome_iff_exists.mp q
theorem inv_start {CX : CXT} {P : Program} {w : World} {K : PySem.W.Frag} {mg : Str → Option Value} {base : Heap} {N ps : List Str} {qual : Str} {scope : Scope} {f : Addr} {cd : Value} {A : Around} {outer : List Env} {s s1 : Shared} {H : Hp} {E : XK} {us : List Value} {vs : List V}
    (S : FnScope N ps scope) (hd : A.handled = none) (e0 : Env0 P w K mg base A outer s H) (hl : vs.length = ps.length) (r : Vals vs us)
    (x : InCallC s s.heap.objs.size (bindL (envOfC qual scope s.heap.objs.size f cd).kindOf (ps.zip us) fun _ => none) (cellsFrom (s.heap.objs.size + 1) scope.names []) (bindC (envOfC qual scope s.heap.objs.size f cd).kindOf (ps.zip us) fun _ => none) s1) :
    Inv (cxOf CX P w K mg base N qual scope f cd A outer s H E) [] (start N vs) H s1 := by
  have hpl : ps.length ≤ N.length := by have := congrArg List.length S.pre; rw [List.length_take] at this; omega
  obtain ⟨h1, tk, rfl, hk⟩ := x.done
  have noA : ∀ b : Addr, b ∉ (cxOf CX P w K mg base N qual scope f cd A outer s H E).ex := fun b z => absurd (show b ∈ ([] : List Addr) from z) (by simp)
  refine ⟨⟨e0.mod, S.kind, rfl, rfl, Nat.le_refl _, fun y z c h1 h2 => ?_, fun y hy => ?_, fun y c _ h => ?_, fun _ => hd, Around.frames_deeper e0.frames, .inr ⟨rfl, rfl⟩, fun b z => absurd z (noA b), e0.bs, e0.bsz, fun b _ _ => noA b, fun b z => absurd z (noA b), e0.funs, e0.frf⟩,
    rfl, e0.bare, Un.kept hk, ⟨_, x.toInCall.ns, fun i y v h1 h2 h3 => ?_⟩, fun y c h => ⟨_, x.cell y c h⟩, e0.hok.fresh (Nat.le_refl _), fun y c h => ?_, fun p hp => absurd (show p ∈ ([] : List (Addr × Obj)) from hp) (by simp), e0.hok.kept hk, ?_⟩
  · exact name_of_addr x.apart (PySem.mem_of_lookup h1) (PySem.mem_of_lookup h2)
  · have hy : scope.names.lookup y = some .cell ∨ scope.names.lookup y = some .free := hy
    rcases hy with hy | hy
    · exact cell_has hy
    · exact absurd rfl (S.nofree _ (PySem.mem_of_lookup hy))
  · exact Nat.le_of_lt (x.above y c (PySem.mem_of_lookup h))
  · have hi : i < vs.length := by
      unfold start at h2
      by_cases hi : i < vs.length
      · exact hi
      · rw [List.getElem?_append_right (by simpa using hi)] at h2
        rw [List.getElem?_replicate] at h2
        split at h2 <;> cases h2
    have ha : vs[i]? = some v := by
      unfold start at h2
      rw [List.getElem?_append_left (by simpa using hi), List.getElem?_map] at h2
      cases e : vs[i]? with
      | none => rw [e] at h2; cases h2
      | some a => rw [e] at h2; cases h2; rfl
    obtain ⟨u, hu, rv⟩ := r.get ha
    have hp : ps[i]? = some y := by
      rw [← S.pre, List.getElem?_take_of_lt (by omega)]; exact h1
    have ndP : ps.Nodup := by rw [← S.pre]; exact S.nd.sublist (List.take_sublist _ _)
    refine ⟨u, rv, ?_⟩
    rcases S.par y (List.mem_of_getElem? hp) with k | k
    · exact .inl ⟨k, bindL_get ndP hp hu k⟩
    · obtain ⟨c, e⟩ := cell_has (n := s.heap.objs.size + 1) k
      refine .inr ⟨.inl k, c, e, ?_⟩
      have q := x.cell y c e
      rw [bindC_get ndP hp hu (by show scope.names.lookup y ≠ _; rw [k]; decide)] at q
      exact q
  · exact e0.hok.fresh (Nat.le_of_lt (x.above y c (PySem.mem_of_lookup h)))
  · unfold start
    show _ = N.length
    rw [List.length_append, List.length_map, List.length_replicate]
    omega
/-- THE RULE: a def (or a method) of the text, by its body. The body's reading t is chosen for each entry; it is run at the parameters' values -/
theorem fn_of {CX : CXT} {P : Program} {w : World} {K : PySem.W.Frag} {mg : Str → Option Value} {base : Heap} {k : Nat} {f : Addr} {name qual : Str} {params : Arguments} {body : List Stmt} {scope : Scope} {dV kV doc pm cdv ct oc : Value} {an od : Option Addr}
    {osl : Array (Option Value)} {N ps : List Str} {sp : Sp} (lk : K.lookup f = some ⟨oc, od, .func (PySem.W.fnOf name qual params body scope dV kV doc pm an cdv ct), osl⟩) (hcd : PySem.W.codeIn K cdv qual = true) (S : FnScope N ps scope)
    (len : ∀ vs H Q E, sp vs H Q E → vs.length = ps.length)
    (hbody : ∀ (A : Around) (outer : List Env) (s : Shared) (H : Hp) (vs : List V) (Q : VK) (E : XK), Room k (A.deeper (envOfC qual scope s.heap.objs.size f cdv)) → sp vs H Q E →
      ∃ t, PSs (cxOf CX P w K mg base N qual scope f cdv A outer s H E) body t ∧ t { nx := fun _ H' => Q .non H', rt := Q } (start N vs) H) :
    FnOk P w K mg base CX (k + 1) f (PySem.W.fnOf name qual params body scope dV kV doc pm an cdv ct) ps sp := by
  refine ⟨len, fun A outer s H args us vs Q E hr e0 hb r hsp => ?_⟩
  have hl := len _ _ _ _ hsp
  have KX : K.In s.heap := e0.mod.kin.keeps fun b o e => (e0.bs b o e).1
  have lim : s.heap.NoLimit := e0.mod.nolimit.keeps fun b o e => (e0.bs b o e).1
  have hkind : ∀ y ∈ ps.zip us, scope.names.lookup y.1 = some .local ∨ (scope.names.lookup y.1 = some .cell ∧ ((cellsFrom (s.heap.objs.size + 1) scope.names []).lookup y.1).isSome = true) := fun ⟨n, v⟩ hy => by
    rcases S.par n (List.of_mem_zip hy).1 with q | q
    · exact .inl q
    · exact .inr ⟨q, PySem.W.cellsFrom_some _ _ _ (.inl q)⟩
  refine codeAny_call_function hr.depth (KX _ _ lk) rfl S.co S.gen rfl (PySem.W.codeRec_of KX hcd) (hb _ _ _ _ ?_)
  refine wpAny_newFunctionEnv_cells S.kind hkind fun env he s1 x => ?_
  subst he
  refine ⟨lim.keeps x.toInCall.keep, codeAny_func ?_⟩
  obtain ⟨t, ht, hq⟩ := hbody A outer s H vs Q E (hr.deeper _) hsp
  have I : Inv (cxOf CX P w K mg base N qual scope f cdv A outer s H E) [] (start N vs) H s1 := inv_start S hr.hd e0 hl r x
  refine wpAny_mono (ht [] s1 (start N vs) H _ I hq) (fun fl s' hs => ?_) fun e s' hs => hs
  have fin : ∀ {σ' : St} {H' : Hp} {v : V} {u : Value}, Inv (cxOf CX P w K mg base N qual scope f cdv A outer s H E) [] σ' H' s' → RelV v u → Q v H' → CE outer P w H s Q u s' :=
    fun {σ' H' v u} J rv q => ⟨v, H', J.os, J.bare, J.base, J.hok, rv, q⟩
  cases fl with
  | ret u =>
    obtain ⟨v, σ', H', J, rv, q⟩ := hs
    exact fin J rv q
  | next =>
    obtain ⟨σ', H', J, q⟩ := hs
    exact fin (v := V.non) (u := Value.none) J rfl q
  | brk =>
    obtain ⟨_, _, _, q⟩ := hs
    exact False.elim q
  | cont =>
    obtain ⟨_, _, _, q⟩ := hs
    exact False.elim q
end L2
namespace L2
open PySem PySem.Spec PyProof.Rows
section
variable {X : Cx} {x : Str} {p pos : Pos} {e : Expr} {es : List Expr} {t : TA} {id T : String} {r : List V → Hp → VK → Prop}
def tCB (r : List V → Hp → VK → Prop) (t : TA) : TE := fun σ H Q => t σ H fun vs H1 => r vs H1 Q
/-- f(e, ..), f a built-in function -/
theorem pe_callB (hc : CallR X (.builtin id) r) (hg : Gl X x) (hm : X.mg x = none) (hv : bootBuiltins x = some (.builtin id)) (ha : PA X (e :: es) t) (hn : x ≠ "__name__" := by decide) (hdb : (x == ("__debug__" : Str)) = false := by decide)
    (he : starEach (e :: es) X.env = (false, eval e X.env) :: starEach es X.env := by rfl) (hpl : (backTo pos (starEach es X.env)).any (·.1) = false := by rfl) : PE X (.Call (.Name x p) (e :: es) [] pos) (tCB r t) := by
  intro pins s σ H Q I h
  refine wpAny_Call_Name_kw (ld_blt I hg hm hv ?_ hn hdb)
  exact PyProof.Rows.callWith_builtin1 (thn (ha pos pins s σ H _ I h) fun us s1 ⟨vs, H1, I1, r1, q1⟩ => hc pins s1 σ H1 vs us Q I1 r1 q1) he hpl
/-- T(e, ..), T a built-in type -/
theorem pe_callTy (hc : CallR X (.type T) r) (hg : Gl X x) (hm : X.mg x = none) (hv : bootBuiltins x = some (.type T)) (ha : PA X (e :: es) t) (hn : x ≠ "__name__" := by decide) (hdb : (x == ("__debug__" : Str)) = false := by decide)
    (he : starEach (e :: es) X.env = (false, eval e X.env) :: starEach es X.env := by rfl) (hpl : (backTo pos (starEach es X.env)).any (·.1) = false := by rfl) : PE X (.Call (.Name x p) (e :: es) [] pos) (tCB r t) := by
  intro pins s σ H Q I h
  refine wpAny_Call_Name_kw (ld_blt I hg hm hv ?_ hn hdb)
  exact PyProof.Rows.callWith_type1 (thn (ha pos pins s σ H _ I h) fun us s1 ⟨vs, H1, I1, r1, q1⟩ => hc pins s1 σ H1 vs us Q I1 r1 q1) he hpl
end
end L2
namespace HT
open PySem PyProof.Rows
section
open PySem.SeqAt
open PySem.AutoSeq1 (wpAny_loadPart')
open PySem.MeetsSeq PySem.MeetsSeq2 PySem.MeetsSeq3
end
section
variable {prog : Program} {w : World} {A : Around} {E : Value → Shared → Prop} {s : Shared}
/-- a slice's bound as a place among n (d where it is left out) -/
def sIx (n d : Nat) : Option Int → Nat
  | none => d
  | some v => if v < 0 then (v + (n : Int)).toNat else min v.toNat n
theorem sIx_none (n d : Nat) : sIx n d none = d := rfl
theorem sIx_nat (n d k : Nat) : sIx n d (some (k : Int)) = min k n := by
  show (if (k : Int) < 0 then ((k : Int) + (n : Int)).toNat else min (k : Int).toNat n) = min k n
  rw [if_neg (by omega), Int.toNat_natCast]
end
end HT
namespace L2
open PySem PySem.Spec PyProof.Rows
abbrev TO := St → Hp → (Option Int → Hp → Prop) → Prop
/-- a slice's part (left out, or an int) -/
def PO (X : Cx) (e : Option Expr) (t : TO) : Prop :=
  ∀ (pins : List (Addr × Obj)) (s : Shared) (σ : St) (H : Hp) (Q : Option Int → Hp → Prop), Inv X pins σ H s → t σ H Q →
    wpAny (model X.prog X.w) X.A (evalPart e X.env) (fun u s' => ∃ o H', Inv X pins σ H' s' ∧ IsPart u o ∧ Q o H') X.xe s
def tNoPart : TO := fun _ H Q => Q none H
def tPart (t : TE) : TO := fun σ H Q => t σ H fun x H1 => ∃ i, x = .int i ∧ Q (some i) H1
section
variable {X : Cx} {e : Expr} {te : TE} {lo hi : Option Expr} {tl th : TO} {pos p2 : Pos}
theorem po_none : PO X none tNoPart := by
  intro pins s σ H Q I h
  rw [evalPart_none]
  exact wpAny_pure ⟨none, H, I, .none, h⟩
theorem po_some (h : PE X e te) : PO X (some e) (tPart te) := by
  intro pins s σ H Q I hw
  rw [evalPart_some]
  refine thn (h pins s σ H _ I hw) fun u s1 ⟨x, H1, I1, r1, q1⟩ => ?_
  obtain ⟨i, rfl, q⟩ := q1
  obtain ⟨t, rfl⟩ := r1
  exact ⟨some i, H1, I1, .int i t, q⟩
/-- what a slice of a value is, by values: the slice object stands at sl -/
def SlR (X : Cx) (r : V → Option Int → Option Int → Hp → VK → Prop) : Prop :=
  ∀ (pins : List (Addr × Obj)) (s : Shared) (σ : St) (H : Hp) (x : V) (v vl vu : Value) (lo hi : Option Int) (sl : Addr) (Q : VK), Inv X pins σ H s → RelV x v → s.heap.IsSliceOf sl vl vu .none → IsPart vl lo → IsPart vu hi → r x lo hi H Q →
    ∃ T id, typeLookup (.type T) "__getitem__" = pure (some (.builtin id)) ∧ s.TypeIs v T ∧ wpAny (model X.prog X.w) X.A (getItem v (.ref sl)) (EP X pins σ Q) X.xe s
def tSl (r : V → Option Int → Option Int → Hp → VK → Prop) (te : TE) (tl th : TO) : TE := fun σ H Q => te σ H fun x H1 => tl σ H1 fun l H2 => th σ H2 fun u H3 => r x l u H3 Q
/-- a[lo:hi], any a -/
theorem pe_slice {r : V → Option Int → Option Int → Hp → VK → Prop} (hr : SlR X r) (he : PE X e te) (hl : PO X lo tl) (hu : PO X hi th) : PE X (.Subscript e (.Slice lo hi none p2) pos) (tSl r te tl th) := by
  intro pins s σ H Q I h
  refine Subscript_ (thn (he pins s σ H _ I h) fun v s1 ⟨x, H1, I1, r1, q1⟩ => ?_)
  refine wpAny_Slice (thn (hl pins s1 σ H1 _ I1 q1) fun vl s2 ⟨l, H2, I2, pl, q2⟩ => thn (hu pins s2 σ H2 _ I2 q2) fun vu s3 ⟨u, H3, I3, pu, q3⟩ => ?_)
  rw [evalPart_none]
  refine wpAny_pure ?_
  have I4 : Inv X pins σ H3 { s3 with heap := s3.heap.push { cls := .type "slice", data := .fields #[vl, vu, .none] } } := I3.kept (t' := s3.toks) fun b ob q => Heap.get?_push_of_some _ q
  obtain ⟨T, id, hT, ht, hg⟩ := hr pins { s3 with heap := s3.heap.push { cls := .type "slice", data := .fields #[vl, vu, .none] } } σ H3 x v vl vu l u s3.heap.objs.size Q I4 r1 (Heap.IsSliceOf.new ..) pl pu q3
  show wpAny (model X.prog X.w) X.A (subscriptTail e (.Slice lo hi none p2) v (.ref s3.heap.objs.size)) (EP X pins σ Q) X.xe { s3 with heap := s3.heap.push { cls := .type "slice", data := .fields #[vl, vu, .none] } }
  exact tail_any (ops := [.ref s3.heap.objs.size, v]) ht hT hg (by with_unfolding_all rfl)
/-- the items of xs[lo:hi] -/
def cutV (xs : List V) (lo hi : Option Int) : List V := (xs.drop (HT.sIx xs.length 0 lo)).take (HT.sIx xs.length xs.length hi - HT.sIx xs.length 0 lo)
theorem cutV_length (xs : List V) (lo hi : Option Int) : (cutV xs lo hi).length ≤ xs.length := by
  unfold cutV
  rw [List.length_take, List.length_drop]
  omega
end
end L2
namespace L2
open PySem PySem.Spec PyProof.Rows
/-- the place that an index of any sign means -/
def ixN (n : Nat) (i : Int) : Option Nat := if 0 ≤ i then (if i < n then some i.toNat else none) else if -(n : Int) ≤ i then some (i + n).toNat else none
def atI {α : Type} (xs : List α) (i : Int) : Option α := (ixN xs.length i).bind fun j => xs[j]?
theorem ixN_seq {n : Nat} {i : Int} {j : Nat} (h : ixN n i = some j) : seqIndex? i n = some j ∧ j < n ∧ -(n : Int) ≤ i ∧ i < n := by
  unfold ixN at h
  by_cases h0 : 0 ≤ i
  · rw [if_pos h0] at h
    by_cases h1 : i < n
    · rw [if_pos h1] at h
      have e : i.toNat = j := Option.some.inj h
      exact ⟨by rw [seqIndex_of h0 h1, e], by omega, by omega, h1⟩
    · rw [if_neg h1] at h; cases h
  · rw [if_neg h0] at h
    by_cases h1 : -(n : Int) ≤ i
    · rw [if_pos h1] at h
      have e : (i + n).toNat = j := Option.some.inj h
      exact ⟨by rw [seqIndex_neg (by omega) h1, e], by omega, h1, by omega⟩
    · rw [if_neg h1] at h; cases h
theorem atI_get {α : Type} {xs : List α} {i : Int} {v : α} (h : atI xs i = some v) : ∃ j, seqIndex? i xs.length = some j ∧ xs[j]? = some v ∧ j < xs.length ∧ -(xs.length : Int) ≤ i ∧ i < xs.length := by
  unfold atI at h
  cases e : ixN xs.length i with
  | none => rw [e] at h; cases h
  | some j =>
    rw [e] at h
    obtain ⟨h1, h2, h3, h4⟩ := ixN_seq e
    exact ⟨j, h1, h, h2, h3, h4⟩
theorem atI_nat {α : Type} {xs : List α} {j : Nat} {v : α} (h : xs[j]? = some v) : atI xs (j : Int) = some v := by
  have hj : j < xs.length := (List.getElem?_eq_some_iff.mp h).1
  have e : ixN xs.length (j : Int) = some j := by
    unfold ixN
    rw [if_pos (by omega), if_pos (by omega)]; simp
  unfold atI; rw [e]; exact h
theorem atI_last {α : Type} (xs : List α) (v : α) : atI (xs ++ [v]) (-1) = some v := by
  have hl : (xs ++ [v]).length = xs.length + 1 := by simp
  have e : ixN (xs ++ [v]).length (-1) = some xs.length := by
    unfold ixN
    rw [hl, if_neg (by decide), if_pos (by omega)]
    congr 1
    omega
  unfold atI
  rw [e]
  show (xs ++ [v])[xs.length]? = some v
  simp
/-- what stands as an index of a plain subscript -/
def PlainIx (b : Expr) : Prop := ∀ o i, subscripted b false o i = operate [o, i] (getItem o i)
/-- a subscript by values -/
def IxR (X : Cx) (r : R2) : Prop :=
  ∀ (value slice : Expr) (pins : List (Addr × Obj)) (s : Shared) (σ : St) (H : Hp) (x y : V) (v u : Value) (Q : VK), Inv X pins σ H s → RelV x v → RelV y u → r x y H Q →
    subscripted slice false v u = operate [v, u] (getItem v u) → wpAny (model X.prog X.w) X.A (subscriptTail value slice v u) (EP X pins σ Q) X.xe s
/-- a call of a builtin's method by values: the receiver, the arguments -/
def MtR (X : Cx) (id : String) (r : V → List V → Hp → VK → Prop) : Prop :=
  ∀ (pins : List (Addr × Obj)) (s : Shared) (σ : St) (H : Hp) (x : V) (xs : List V) (v : Value) (us : List Value) (Q : VK), Inv X pins σ H s → RelV x v → Vals xs us → r x xs H Q →
    wpAny (model X.prog X.w) X.A (call (.builtin id) (v :: us)) (EP X pins σ Q) X.xe s
section
variable {X : Cx} {a b : Expr} {ta tb : TE} {pos : Pos}
/-- a[b] -/
theorem pe_ix {r : R2} (hr : IxR X r) (ha : PE X a ta) (hb : PE X b tb) (hs : PlainIx b) : PE X (.Subscript a b pos) (tOp r ta tb) := by
  intro pins s σ H Q I h
  exact Subscript_ (binT ha hb I h fun v u s2 x y H2 I2 rx ry q => hr a b pins s2 σ H2 x y v u Q I2 rx ry q (hs _ _))
def rIxL (K : PySem.W.Frag) : R2 := fun x y H Q => ∃ p xs i v, x = .ref p ∧ y = .int i ∧ SqL K H p xs ∧ atI xs i = some v ∧ Q v H
def rIxT (K : PySem.W.Frag) : R2 := fun x y H Q => ∃ p xs i v, x = .ref p ∧ y = .int i ∧ SqT K H p xs ∧ atI xs i = some v ∧ Q v H
theorem ix_list : IxR X (rIxL X.K) := by
  intro value slice pins s σ H x y v u Q I rx ry h hs
  obtain ⟨p, xs, i, z, rfl, rfl, hq, he, q⟩ := h
  cases rx
  obtain ⟨t, rfl⟩ := ry
  obtain ⟨its, r, pl, hz⟩ := I.list hq
  obtain ⟨j, h1, h2, h3, h4, h5⟩ := atI_get he
  obtain ⟨w, ew, rw'⟩ := r.get h2
  have hl := r.length
  have hn := line63
  have fin : EP X pins σ Q w s := ⟨z, H, I, rw', q⟩
  by_cases h0 : 0 ≤ i
  · have hj : i.toNat = j := by
      rw [seqIndex_of h0 h5] at h1
      exact Option.some.inj h1
    exact item_listR pl.isList h0 (by omega) (by rw [hj]; simpa using ew) fin hs
  · have hj : (i + (its.toArray.size : Int)).toNat = j := by
      rw [seqIndex_neg (by omega) h4] at h1
      rw [List.size_toArray, ← hl]
      exact Option.some.inj h1
    exact subscriptTail_builtinR (x := w) pl.isList.typeIs slot_list_getitem.lookup
      (wpAny_getItem_list_neg (Q := fun r s' => r = w ∧ EP X pins σ Q r s') pl.isList (by omega) (by rw [List.size_toArray] <;> omega) (by omega) (by rw [hj]; simpa using ew) ⟨rfl, fin⟩) hs
theorem ix_tup : IxR X (rIxT X.K) := by
  intro value slice pins s σ H x y v u Q I rx ry h hs
  obtain ⟨p, xs, i, z, rfl, rfl, hq, he, q⟩ := h
  cases rx
  obtain ⟨t, rfl⟩ := ry
  obtain ⟨its, r, pl, hz⟩ := I.tuple hq
  obtain ⟨j, h1, h2, h3, h4, h5⟩ := atI_get he
  obtain ⟨w, ew, rw'⟩ := r.get h2
  have hl := r.length
  have hn := line63
  have fin : EP X pins σ Q w s := ⟨z, H, I, rw', q⟩
  exact subscriptTail_builtinR (x := w) pl.typeIs slot_tuple_getitem.lookup
    (getItem_tuple (j := j) (Q := fun r s' => r = w ∧ EP X pins σ Q r s') pl (by omega) (by omega) (by rw [List.size_toArray, ← hl]; exact h1) (by simpa using ew) ⟨rfl, fin⟩) hs
/-- the list's object behind a store -/
theorem mapSeq_set (its : List Value) (n j : Nat) (u : Value) : Obj.mapSeq (·.setIfInBounds j u) { cls := .type "list", data := .seq its.toArray n } = { cls := .type "list", data := .seq (its.set j u).toArray n } := by
  simp [Obj.mapSeq]
theorem Inv.lst {pins : List (Addr × Obj)} {σ : St} {H : Hp} {s : Shared} {p : Addr} {xs : List V} (I : Inv X pins σ H s) (h : H p = some (.lst xs)) :
    ∃ (its : List Value) (n : Nat), Vals xs its ∧ s.heap.get? p = some { cls := .type "list", data := .seq its.toArray n } ∧ xs.length ≤ sizeLine := by
  obtain ⟨z, its, n, r, e⟩ := I.hok p _ h
  exact ⟨its, n, r, e, z⟩
/-- the list at p is written by an update of its object -/
theorem Inv.lstUpd {pins : List (Addr × Obj)} {σ : St} {H : Hp} {s : Shared} {p : Addr} {xs ys : List V} {its its' : List Value} {n n' : Nat} {f : Obj → Obj} (I : Inv X pins σ H s) (h : H p = some (.lst xs))
    (ho : s.heap.get? p = some { cls := .type "list", data := .seq its.toArray n }) (hf : f { cls := .type "list", data := .seq its.toArray n } = { cls := .type "list", data := .seq its'.toArray n' }) (r : Vals ys its') (hz : ys.length ≤ sizeLine) (t : Nat) :
    Inv X pins σ (upd H p (.lst ys)) { s with heap := s.heap.update p f, toks := t } := by
  have e : (s.heap.update p f).get? p = some { cls := .type "list", data := .seq its'.toArray n' } := by
    rw [Heap.get?_update_self f ho (by rw [hf] <;> rfl), hf]
  refine I.write (x := p) (e := p) (by rw [h]; trivial) (.inl rfl) (fun b u hb q => (Heap.get?_update_other _ _ (Ne.symm hb)).trans q) ⟨_, e⟩ ?_
  exact ⟨hz, its', n', r, e⟩
def rSetL : V → V → V → Hp → (Hp → Prop) → Prop := fun o i v H Q => ∃ p xs k j, o = .ref p ∧ i = .int k ∧ H p = some (.lst xs) ∧ ixN xs.length k = some j ∧ Q (upd H p (.lst (xs.set j v)))
theorem set_list : PSet X rSetL := by
  intro pins s σ H o i v ov iv u Q I ro ri rv h
  obtain ⟨p, xs, k, j, rfl, rfl, hp, hj, q⟩ := h
  cases ro
  obtain ⟨t, rfl⟩ := ri
  obtain ⟨its, n, r, ho, hz⟩ := I.lst hp
  obtain ⟨h1, h2, h3, h4⟩ := ixN_seq hj
  have hl := r.length
  have hn := line63
  have I' : Inv X pins σ (upd H p (.lst (xs.set j v))) { s with heap := s.heap.update p (Obj.mapSeq (·.setIfInBounds j u)) } :=
    I.lstUpd hp ho (mapSeq_set its n j u) (r.set rv j) (by rw [List.length_set]; exact hz) s.toks
  by_cases h0 : 0 ≤ k
  · have hk : k.toNat = j := by
      rw [seqIndex_of h0 h4] at h1
      exact Option.some.inj h1
    exact PySem.W.ki_setAt ho h0 (by omega) (by rw [List.size_toArray, ← hl]; exact h4) (by rw [hk]; exact ⟨_, I', q⟩)
  · have hk : (k + (its.toArray.size : Int)).toNat = j := by
      rw [seqIndex_neg (by omega) h3] at h1
      rw [List.size_toArray, ← hl]
      exact Option.some.inj h1
    exact PySem.W.ki_setBack ho (by omega) (by rw [List.size_toArray, ← hl]; exact h3) (by omega) (by rw [hk]; exact ⟨_, I', q⟩)
theorem slice_bounds (lo hi : Option Int) (n : Nat) : (sliceBounds lo hi none n).1 = ((HT.sIx n 0 lo : Nat) : Int) ∧ (sliceBounds lo hi none n).2.1 = ((HT.sIx n n hi : Nat) : Int) ∧ (sliceBounds lo hi none n).2.2 = 1 := by
  refine ⟨?_, ?_, rfl⟩
  · cases lo with
    | none => simp [sliceBounds, HT.sIx]
    | some i =>
      simp only [sliceBounds, HT.sIx, Option.getD_none, show (1 : Int) > 0 by decide, if_true]
      by_cases h : i < 0
      · simp only [h, if_true] <;> omega
      · simp only [h, if_false] <;> omega
  · cases hi with
    | none => simp [sliceBounds, HT.sIx]
    | some i =>
      simp only [sliceBounds, HT.sIx, Option.getD_none, show (1 : Int) > 0 by decide, if_true]
      by_cases h : i < 0
      · simp only [h, if_true] <;> omega
      · simp only [h, if_false] <;> omega
theorem slicePick_cut (its : List Value) (lo hi : Option Int) : slicePick its.toArray lo hi none = ((its.drop (HT.sIx its.length 0 lo)).take (HT.sIx its.length its.length hi - HT.sIx its.length 0 lo)).toArray := by
  obtain ⟨h1, h2, h3⟩ := slice_bounds lo hi its.toArray.size
  unfold slicePick
  rw [h1, h2, h3]
  simp only [sliceRange_one, pick_run, List.size_toArray] <;> rfl
/-- xs[lo:hi] of a list: a new list -/
def rSlL (K : PySem.W.Frag) : V → Option Int → Option Int → Hp → VK → Prop := fun x lo hi H Q => ∃ a xs, x = .ref a ∧ SqL K H a xs ∧ ∀ p, H p = none → Q (.ref p) (upd H p (.lst (cutV xs lo hi)))
theorem sl_list : SlR X (rSlL X.K) := by
  intro pins s σ H x v vl vu lo hi sl Q I rx hs pl pu h
  obtain ⟨a, xs, rfl, hx, q⟩ := h
  cases rx
  obtain ⟨its, r, ht, hz⟩ := I.list hx
  have hlen := r.length
  refine ⟨"list", _, slot_list_getitem.lookup, ht.isList.typeIs, ?_⟩
  refine wpAny_getItem_list_slice ht.isList hs pl pu .none (by simp) ?_ (by rw [List.size_toArray] <;> omega)
  rw [slicePick_cut, ← hlen]
  refine ⟨.ref s.heap.objs.size, _, I.laid (t' := s.toks) (o := .lst (cutV xs lo hi)) (fun b ob q => Heap.get?_push_of_some _ q) (Nat.le_refl _) ?_, rfl, q _ (I.hok.fresh (Nat.le_refl _))⟩
  exact ⟨Nat.le_trans (cutV_length xs lo hi) hz, _, 0, (r.drop (HT.sIx xs.length 0 lo)).take (HT.sIx xs.length xs.length hi - HT.sIx xs.length 0 lo), Heap.get?_push_size _ rfl⟩
def flatV : V → Bool
  | .non => true
  | .bl _ => true
  | .int _ => true
  | .str _ => true
  | _ => false
/-- == of flat values -/
def eqV : V → V → Bool
  | .non, .non => true
  | .bl a, .bl b => a == b
  | .bl a, .int b => (if a then 1 else 0) == b
  | .int a, .bl b => a == (if b then 1 else 0)
  | .int a, .int b => a == b
  | .str a, .str b => a == b
  | _, _ => false
theorem eqAt_V {A : Around} {s : Shared} {y x : V} {u v : Value} (ry : RelV y u) (rx : RelV x v) (fy : flatV y = true) (fx : flatV x = true) : SeqAt.EqAt A s u v (eqV y x) := by
  cases y with
  | non =>
    cases ry
    cases x with
    | non => cases rx; exact SeqAt.EqAt.same _
    | bl b => cases rx; exact SeqAt.EqAt.none_bool b
    | int b => obtain ⟨t, rfl⟩ := rx; exact SeqAt.EqAt.none_int b t
    | str b => obtain ⟨t, rfl⟩ := rx; exact SeqAt.EqAt.none_str b t
    | _ => exact absurd (show false = true from fx) Bool.false_ne_true
  | bl a =>
    cases ry
    cases x with
    | non => cases rx; exact SeqAt.EqAt.bool_none a
    | bl b => cases rx; exact SeqAt.EqAt.bool_bool a b
    | int b => obtain ⟨t, rfl⟩ := rx; exact SeqAt.EqAt.bool_int a b t
    | str b => obtain ⟨t, rfl⟩ := rx; exact SeqAt.EqAt.bool_str a b t
    | _ => exact absurd (show false = true from fx) Bool.false_ne_true
  | int a =>
    obtain ⟨t', rfl⟩ := ry
    cases x with
    | non => cases rx; exact SeqAt.EqAt.int_none a t'
    | bl b => cases rx; exact SeqAt.EqAt.int_bool a t' b
    | int b => obtain ⟨t, rfl⟩ := rx; exact SeqAt.EqAt.int_int a t' b t
    | str b => obtain ⟨t, rfl⟩ := rx; exact SeqAt.EqAt.int_str a t' b t
    | _ => exact absurd (show false = true from fx) Bool.false_ne_true
  | str a =>
    obtain ⟨t', rfl⟩ := ry
    cases x with
    | non => cases rx; exact SeqAt.EqAt.str_none a t'
    | bl b => cases rx; exact SeqAt.EqAt.str_bool a t' b
    | int b => obtain ⟨t, rfl⟩ := rx; exact SeqAt.EqAt.str_int a t' b t
    | str b => obtain ⟨t, rfl⟩ := rx; exact SeqAt.EqAt.str_str a t' b t
    | _ => exact absurd (show false = true from fx) Bool.false_ne_true
  | _ => exact absurd (show false = true from fy) Bool.false_ne_true
/-- the items' answers, read off the values (a value's own answer does not lean on its token) -/
def eqU (x : V) (u : Value) : Bool := match u with
  | .none => eqV .non x
  | .bool b => eqV (.bl b) x
  | .int i _ => eqV (.int i) x
  | .str z _ => eqV (.str z) x
  | _ => false
theorem eqU_of {x y : V} {u : Value} (r : RelV y u) (f : flatV y = true) : eqU x u = eqV y x := by
  cases y with
  | non => cases r; rfl
  | bl b => cases r; rfl
  | int i => obtain ⟨t, rfl⟩ := r; rfl
  | str z => obtain ⟨t, rfl⟩ := r; rfl
  | _ => exact absurd (show false = true from f) Bool.false_ne_true
theorem any_eqU {x : V} : ∀ {xs : List V} {us : List Value}, Vals xs us → xs.all flatV = true → us.any (eqU x) = xs.any fun y => eqV y x
  | _, _, .nil, _ => rfl
  | y :: xs, u :: us, .cons r t, f => by
    rw [List.all_cons, Bool.and_eq_true] at f
    rw [List.any_cons, List.any_cons, eqU_of r f.1, any_eqU t f.2]
theorem mem_eqAt {A : Around} {s : Shared} {x : V} {v : Value} (rx : RelV x v) (fx : flatV x = true) : ∀ {xs : List V} {us : List Value}, Vals xs us → xs.all flatV = true → ∀ u ∈ us, SeqAt.EqAt A s u v (eqU x u)
  | _, _, .nil, _ => fun u hu => by cases hu
  | y :: xs, u :: us, .cons r t, f => fun u' hu => by
    rw [List.all_cons, Bool.and_eq_true] at f
    rcases List.mem_cons.mp hu with rfl | hu
    · rw [eqU_of r f.1]; exact eqAt_V r rx f.1 fx
    · exact mem_eqAt rx fx t f.2 u' hu
def inV (x : V) (xs : List V) : Bool := xs.any fun y => eqV y x
/-- x in a list or tuple of flat items -/
def rIn (K : PySem.W.Frag) (neg : Bool) : R2 := fun x y H Q => ∃ p xs, y = .ref p ∧ (SqL K H p xs ∨ SqT K H p xs) ∧ flatV x = true ∧ xs.all flatV = true ∧ Q (.bl (if neg then !inV x xs else inV x xs)) H
theorem op_in_seq : OpR X (compareOp .In) (rIn X.K false) := by
  intro pins s σ H x y v u Q I rx ry h
  obtain ⟨p, xs, rfl, hq, fx, fs, q⟩ := h
  cases ry
  rcases hq with hq | hq
  · obtain ⟨its, r, pl, hz⟩ := I.list hq
    refine SeqAt.in_listAt (eqU x) pl.isList (fun w hw => mem_eqAt rx fx r fs w (by simpa using hw)) ⟨.bl _, H, I, rfl, ?_⟩
    rw [show its.toArray.any (eqU x) = its.any (eqU x) by simp, any_eqU r fs]
    exact q
  · obtain ⟨its, r, pl, hz⟩ := I.tuple hq
    refine SeqAt.in_tupleAt (eqU x) pl (fun w hw => mem_eqAt rx fx r fs w (by simpa using hw)) ⟨.bl _, H, I, rfl, ?_⟩
    rw [show its.toArray.any (eqU x) = its.any (eqU x) by simp, any_eqU r fs]
    exact q
theorem call_len_seq : CallR X (.builtin "len") (fun xs H Q => ∃ p ys, xs = [.ref p] ∧ (SqL X.K H p ys ∨ SqT X.K H p ys) ∧ Q (.int ys.length) H) := by
  intro pins s σ H xs us Q I r h
  obtain ⟨p, ys, rfl, hq, q⟩ := h
  obtain ⟨u, rfl, rx⟩ := vals1 r
  cases rx
  have hn := line63
  rcases hq with hq | hq
  · obtain ⟨its, r', pl, hz⟩ := I.list hq
    have hlen := r'.length
    exact Calls.call_len_list pl.isList (by simp only [List.size_toArray] <;> omega) ⟨.int ys.length, H, I.tok _, ⟨s.toks + 1, by rw [List.size_toArray, hlen]⟩, q⟩
  · obtain ⟨its, r', pl, hz⟩ := I.tuple hq
    have hlen := r'.length
    exact len_tuple pl (by simp only [List.size_toArray] <;> omega) ⟨.int ys.length, H, I.tok _, ⟨s.toks + 1, by rw [List.size_toArray, hlen]⟩, q⟩
theorem call_list_of : CallR X (.type "list") (fun xs H Q => ∃ p ys, xs = [.ref p] ∧ (SqL X.K H p ys ∨ SqT X.K H p ys) ∧ ∀ l, H l = none → Q (.ref l) (upd H l (.lst ys))) := by
  intro pins s σ H xs us Q I r h
  obtain ⟨p, ys, rfl, hq, q⟩ := h
  obtain ⟨u, rfl, rx⟩ := vals1 r
  cases rx
  have fin : ∀ (its : List Value), Vals ys its → ys.length ≤ sizeLine → ∀ (h' : Heap) (c' : Nat), (∀ b o', s.heap.get? b = some o' → h'.get? b = some o') →
      h'.get? s.heap.objs.size = some { cls := .type "list", dict := none, data := .seq its.toArray c', slots := #[] } → EP X pins σ Q (.ref s.heap.objs.size) { s with heap := h' } := fun its r' hz h' c' kp e =>
    ⟨.ref s.heap.objs.size, _, I.laid (t' := s.toks) kp (Nat.le_refl _) (show ObjOk X.prog X.w _ h' _ (.lst ys) from ⟨hz, its, c', r', e⟩), rfl, q _ (I.hok.fresh (Nat.le_refl _))⟩
  rcases hq with hq | hq
  · obtain ⟨its, r', pl, hz⟩ := I.list hq
    have hlen := r'.length
    obtain ⟨o, ho, hc, n, hd⟩ := pl.isList
    exact call_list_seq p (.inl rfl) ho hc hd (fun h' c' kp e => fin its r' hz h' c' kp e) (by simp only [List.size_toArray] <;> omega)
  · obtain ⟨its, r', pl, hz⟩ := I.tuple hq
    have hlen := r'.length
    obtain ⟨o, ho, hc, n, hd⟩ := pl
    exact call_list_seq p (.inr rfl) ho hc hd (fun h' c' kp e => fin its r' hz h' c' kp e) (by simp only [List.size_toArray] <;> omega)
/-- the value is of that builtin type -/
def tyV (K : PySem.W.Frag) (T : String) (x : V) (H : Hp) : Prop := match x with
  | .str _ => T = "str"
  | .int _ => T = "int"
  | .ref p => (T = "list" ∧ ∃ xs, SqL K H p xs) ∨ (T = "tuple" ∧ ∃ o, K.lookup p = some o ∧ o.cls = .type "tuple" ∧ o.dict = none) ∨
      (T = "dict" ∧ ((∃ kvs, H p = some (.dK kvs)) ∨ ∃ kvs, H p = some (.dT kvs))) ∨ (T = "set" ∧ ∃ S n, H p = some (.set S n))
  | _ => False
theorem tyV_is {pins : List (Addr × Obj)} {σ : St} {H : Hp} {s : Shared} {T : String} {x : V} {v : Value} (I : Inv X pins σ H s) (r : RelV x v) (ty : tyV X.K T x H) :
    s.TypeIs v T ∧ ∀ a, v = .ref a → ∃ ob, s.heap.get? a = some ob ∧ ob.dict = none := by
  cases x with
  | str z =>
    obtain ⟨t, rfl⟩ := r
    cases (show T = "str" from ty)
    exact ⟨typeIs_str s z t, fun _ e => nomatch e⟩
  | int i =>
    obtain ⟨t, rfl⟩ := r
    cases (show T = "int" from ty)
    exact ⟨typeIs_int s i t, fun _ e => nomatch e⟩
  | ref p =>
    cases r
    rcases ty with ⟨rfl, xs, hq⟩ | ⟨rfl, o, hk, hc, hd⟩ | ⟨rfl, hk⟩ | ⟨rfl, S, n, hk⟩
    · obtain ⟨its, _, pl, _⟩ := I.list hq
      refine ⟨pl.isList.typeIs, fun a e => ?_⟩
      cases e
      obtain ⟨o, n, e, c, hd, _⟩ := pl
      exact ⟨o, e, hd⟩
    · refine ⟨⟨o, I.kIn p o hk, hc⟩, fun a e => ?_⟩
      cases e
      exact ⟨o, I.kIn _ o hk, hd⟩
    · have z : ∃ o, s.heap.get? p = some o ∧ o.ExactDict := by
        rcases hk with ⟨kvs, hk⟩ | ⟨kvs, hk⟩
        · obtain ⟨_, _, _, _, o, _, _, e, ex, _⟩ := I.hok p _ hk
          exact ⟨o, e, ex⟩
        · obtain ⟨_, _, _, _, o, _, _, e, ex, _⟩ := I.hok p _ hk
          exact ⟨o, e, ex⟩
      obtain ⟨o, e, ex⟩ := z
      refine ⟨⟨o, e, ex.1⟩, fun a e2 => ?_⟩
      cases e2
      exact ⟨o, e, ex.2.1⟩
    · obtain ⟨o, _, _, _, e, ex, _⟩ := I.hok p _ hk
      refine ⟨⟨o, e, ex.1⟩, fun a e2 => ?_⟩
      cases e2
      exact ⟨o, e, ex.2.1⟩
  | _ => exact False.elim ty
def tBM0 (K : PySem.W.Frag) (T : String) (r : V → List V → Hp → VK → Prop) (to : TE) : TE := fun σ H Q => to σ H fun x H1 => tyV K T x H1 ∧ r x [] H1 Q
def tBM (K : PySem.W.Frag) (T : String) (r : V → List V → Hp → VK → Prop) (to : TE) (t : TA) : TE := fun σ H Q => to σ H fun x H1 => tyV K T x H1 ∧ t σ H1 fun xs H2 => r x xs H2 Q
variable {o e : Expr} {es : List Expr} {to : TE} {t : TA} {name : Str} {apos cpos : Pos} {T id : String} {r : V → List V → Hp → VK → Prop}
theorem pe_bm0 (pa : PlainAttrs T) (slot : Slot T name id) (hty : typeOf (.builtin id) = pure (.type "method_descriptor")) (hm : MtR X id r) (ho : PE X o to)
    (hbase : attributeBase o name X.env (eval o X.env) = eval o X.env := by rfl) (hline : (apos.endLine == cpos.line) = true := by rfl) : PE X (.Call (.Attribute o name apos) [] [] cpos) (tBM0 X.K T r to) := by
  intro pins s σ H Q I h
  refine wpAny_Call_method0_late hbase hline (thn (ho pins s σ H _ I h) fun v s1 ⟨x, H1, I1, r1, ty, q1⟩ => ?_)
  obtain ⟨h1, h2⟩ := tyV_is I1 r1 ty
  exact ⟨T, id, pa, slot, hty, h1, h2, Calls.callWith_builtin rfl (PySem.evalArgs_none (hm pins s1 σ H1 x [] v [] Q I1 r1 .nil q1))⟩
theorem pe_bm (pa : PlainAttrs T) (slot : Slot T name id) (hty : typeOf (.builtin id) = pure (.type "method_descriptor")) (hm : MtR X id r) (ho : PE X o to) (ha : PA X (e :: es) t)
    (hbase : attributeBase o name X.env (eval o X.env) = eval o X.env := by rfl)
    (hfew : ((backTo cpos (starEach (e :: es) X.env)).all (fun x => !x.1) && (backToKw cpos (keywordEach [] X.env)).all (fun x => x.1.isSome)
      && decide ((e :: es).length + ([] : List Keyword).length + (if ([] : List Keyword).isEmpty then 0 else 1) < 30)) = true := by rfl)
    (hline : (apos.endLine == cpos.line) = true := by rfl) (hs : starEach (e :: es) X.env = (false, eval e X.env) :: starEach es X.env := by rfl) (hplain : (backTo cpos (starEach es X.env)).any (·.1) = false := by rfl) :
    PE X (.Call (.Attribute o name apos) (e :: es) [] cpos) (tBM X.K T r to t) := by
  intro pins s σ H Q I h
  refine wpAny_Call_method_late hbase hfew hline rfl (thn (ho pins s σ H _ I h) fun v s1 ⟨x, H1, I1, r1, ty, q1⟩ => ?_)
  obtain ⟨h1, h2⟩ := tyV_is I1 r1 ty
  refine ⟨T, id, pa, slot, hty, h1, h2, ?_⟩
  have hA := ha cpos pins s1 σ H1 _ I1 q1
  rw [hs] at hA ⊢
  refine Calls.callWith_builtin (by show (false || (backTo cpos (starEach es X.env)).any (·.1)) = false; rw [hplain] <;> rfl) (Calls.evalArgs_plain ?_)
  exact thn hA fun us s2 ⟨vs, H2, I2, r2, q2⟩ => hm pins s2 σ H2 x vs v us Q I2 r1 r2 q2
end
end L2
namespace L2
open PySem PySem.Spec PyProof.Rows
def MtM (X : Cx) (id : String) (r : V → List V → Hp → VK → Prop) : Prop :=
  ∀ (pins : List (Addr × Obj)) (s : Shared) (σ : St) (H : Hp) (x : V) (xs : List V) (v : Value) (us : List Value) (Q : VK), Inv X pins σ H s → RelV x v → Vals xs us → r x xs H Q →
    wpAny (model X.prog X.w) X.A (call (.builtin id) (v :: us)) (EP X pins σ Q) X.xe s
theorem Vals.one : ∀ {x : V} {us : List Value}, Vals [x] us → ∃ u, us = [u] ∧ RelV x u
  | _, _, .cons r .nil => ⟨_, rfl, r⟩
theorem Vals.zero : ∀ {us : List Value}, Vals [] us → us = []
  | _, .nil => rfl
theorem Vals.dropLast {xs : List V} {us : List Value} (h : Vals xs us) : Vals xs.dropLast us.dropLast := by
  induction h with
  | nil => exact .nil
  | cons r t ih =>
    cases t with
    | nil => exact .nil
    | cons q t' => exact .cons r ih
theorem Vals.rep {xs : List V} {us : List Value} (h : Vals xs us) : ∀ k : Nat, Vals (List.replicate k xs).flatten (List.replicate k us).flatten
  | 0 => .nil
  | k + 1 => by
    rw [List.replicate_succ, List.replicate_succ, List.flatten_cons, List.flatten_cons]
    exact Vals.append h (Vals.rep h k)
theorem erase_last {α : Type} (l : List α) : l.eraseIdx (l.length - 1) = l.dropLast := by
  induction l with
  | nil => rfl
  | cons a r ih =>
    cases r with
    | nil => rfl
    | cons b r =>
      have e : (a :: b :: r).length - 1 = ((b :: r).length - 1) + 1 := by
        have h1 : (a :: b :: r).length = r.length + 2 := rfl
        have h2 : (b :: r).length = r.length + 1 := rfl
        omega
      rw [e, List.eraseIdx_cons_succ, ih]
      all_goals rfl
theorem foldl_rep (its : List Value) : ∀ (k : Nat) (acc : List Value),
    List.foldl (fun x1 x2 => x1 ++ x2) acc.toArray (List.replicate k its.toArray) = (acc ++ (List.replicate k its).flatten).toArray
  | 0, acc => by simp
  | k + 1, acc => by
    have e : acc.toArray ++ its.toArray = (acc ++ its).toArray := by simp
    have e2 : (acc ++ its) ++ (List.replicate k its).flatten = acc ++ (List.replicate (k + 1) its).flatten := by
      rw [List.replicate_succ, List.flatten_cons, List.append_assoc]
    rw [← e2, ← foldl_rep its k (acc ++ its), ← e, List.replicate_succ, List.foldl_cons]
section
variable {X : Cx} {pins : List (Addr × Obj)} {σ : St} {H : Hp} {s : Shared} {l b : Addr} {xs ys zs : List V}
theorem Inv.lset {its its' : List Value} {n : Nat} {f : Array Value → Array Value} {t' : Nat} (I : Inv X pins σ H s) (hH : H l = some (.lst xs))
    (e : s.heap.get? l = some { cls := .type "list", data := .seq its.toArray n }) (hf : f its.toArray = its'.toArray) (hv : Vals ys its') (hz : ys.length ≤ sizeLine) :
    Inv X pins σ (upd H l (.lst ys)) { s with heap := s.heap.update l (Obj.mapSeq f), toks := t' } := by
  have q := PySem.IsL.update e f
  rw [hf] at q
  refine I.write (x := l) (e := l) (by rw [hH]; exact trivial) (.inl rfl) (fun b' u hb hu => (Heap.get?_update_other s.heap (Obj.mapSeq f) (Ne.symm hb)).trans hu) ⟨_, q⟩ ?_
  exact ⟨hz, its', _, hv, q⟩
theorem Inv.lnew {its : List Value} {t' : Nat} (I : Inv X pins σ H s) (hv : Vals ys its) (hz : ys.length ≤ sizeLine) :
    Inv X pins σ (upd H s.heap.objs.size (.lst ys)) { s with heap := s.heap.push { cls := .type "list", data := .seq its.toArray }, toks := t' } :=
  I.laid (fun _ _ q => Heap.get?_push_of_some _ q) (Nat.le_refl _) ⟨hz, its, 0, hv, Heap.get?_push_size _ rfl⟩
theorem Inv.fresh (I : Inv X pins σ H s) : H s.heap.objs.size = none := I.hok.fresh (Nat.le_refl _)
theorem Inv.lstM (I : Inv X pins σ H s) (hH : H l = some (.lst xs)) : xs.length ≤ sizeLine ∧ ∃ (its : List Value) (n : Nat), Vals xs its ∧ xs.length = its.length ∧ s.heap.get? l = some { cls := .type "list", data := .seq its.toArray n } := by
  obtain ⟨z, its, n, r, e⟩ := I.hok l _ hH
  exact ⟨z, its, n, r, r.length, e⟩
theorem notLongL {n : Nat} (h : n ≤ sizeLine) : Builtin.List.listTooLong n = false := by
  unfold Builtin.List.listTooLong
  exact decide_eq_false (by omega)
end
section
variable {X : Cx}
def rAppend : V → List V → Hp → VK → Prop := fun x vs H Q => ∃ l xs y, x = .ref l ∧ vs = [y] ∧ H l = some (.lst xs) ∧ xs.length < sizeLine ∧ Q .non (upd H l (.lst (xs ++ [y])))
theorem mt_append : MtM X "list.append" rAppend := by
  intro pins s σ H x vs v us Q I rx rv h
  obtain ⟨l, xs, y, rfl, rfl, hH, hz, q⟩ := h
  cases rx
  obtain ⟨u, rfl, ru⟩ := rv.one
  obtain ⟨z, its, n, r, hl, e⟩ := I.lstM hH
  refine call_meets F.slot_list_append ⟨_, e, rfl⟩ F.entry_list_append (F.args_list_append_2 _ _) (PySem.list_append l its.toArray n u (by rw [List.size_toArray]; omega)) ⟨e, ?_⟩
  refine ⟨.non, _, I.lset (its' := its ++ [u]) hH e (by simp) (r.append (.cons ru .nil)) ?_, rfl, q⟩
  rw [List.length_append, List.length_singleton]
  omega
def rExtend : V → List V → Hp → VK → Prop := fun x vs H Q => ∃ l b xs zs, x = .ref l ∧ vs = [.ref b] ∧ H l = some (.lst xs) ∧ H b = some (.lst zs) ∧ xs.length + zs.length ≤ sizeLine ∧ Q .non (upd H l (.lst (xs ++ zs)))
theorem mt_extend : MtM X "list.extend" rExtend := by
  intro pins s σ H x vs v us Q I rx rv h
  obtain ⟨l, b, xs, zs, rfl, rfl, hH, hB, hz, q⟩ := h
  cases rx
  obtain ⟨u, rfl, ru⟩ := rv.one
  cases ru
  obtain ⟨z, its, n, r, hl, e⟩ := I.lstM hH
  obtain ⟨z2, its2, n2, r2, hl2, e2⟩ := I.lstM hB
  have hsz : its.toArray.size + its2.toArray.size ≤ sizeLine := by rw [List.size_toArray, List.size_toArray]; omega
  have hlong : ¬ (!its.toArray.isEmpty && Builtin.List.listTooLong (its.toArray.size + its2.toArray.size)) = true := by
    rw [notLongL hsz, Bool.and_false]
    exact Bool.false_ne_true
  refine call_meets F.slot_list_extend ⟨_, e, rfl⟩ F.entry_list_extend (F.args_list_extend_2 _ _)
    (AutoSeq1.list_extend_list_list_0 l its.toArray n b its2.toArray n2 hlong (by rw [List.size_toArray]; omega) (by omega)) ⟨e, e2, ?_⟩
  refine ⟨.non, _, I.lset (its' := its ++ its2) hH e (by simp) (r.append r2) ?_, rfl, q⟩
  rw [List.length_append]
  omega
def rPop : V → List V → Hp → VK → Prop := fun x vs H Q => ∃ l xs y, x = .ref l ∧ vs = [] ∧ H l = some (.lst xs) ∧ xs[xs.length - 1]? = some y ∧ Q y (upd H l (.lst xs.dropLast))
theorem mt_pop : MtM X "list.pop" rPop := by
  intro pins s σ H x vs v us Q I rx rv h
  obtain ⟨l, xs, y, rfl, rfl, hH, hy, q⟩ := h
  cases rx
  have hus := rv.zero
  subst hus
  obtain ⟨z, its, n, r, hl, e⟩ := I.lstM hH
  obtain ⟨u, hu, ru⟩ := r.get hy
  have hy' : its.toArray[its.toArray.size - 1]? = some u := by
    show its.toArray[its.length - 1]? = some u
    rw [← Array.getElem?_toList, ← hl]
    exact hu
  refine call_meets F.slot_list_pop ⟨_, e, rfl⟩ F.entry_list_pop (F.args_list_pop_1 _) (MeetsSeq.list_pop_last l its.toArray n u hy' (by rw [List.size_toArray]; omega)) ⟨e, ?_⟩
  refine ⟨y, _, I.lset (its' := its.dropLast) hH e ?_ r.dropLast ?_, ru, q⟩
  · show its.toArray.eraseIdxIfInBounds (its.toArray.size - 1) = its.dropLast.toArray
    rw [List.size_toArray, List.eraseIdxIfInBounds_toArray, erase_last]
  · rw [List.length_dropLast]
    omega
def rCat : R2 := fun x y H Q => ∃ l b xs zs, x = .ref l ∧ y = .ref b ∧ H l = some (.lst xs) ∧ H b = some (.lst zs) ∧ xs.length + zs.length ≤ sizeLine ∧ ∀ p, H p = none → Q (.ref p) (upd H p (.lst (xs ++ zs)))
theorem op_cat : OpR X (binaryOp .Add) rCat := by
  intro pins s σ H x y v u Q I rx ry h
  obtain ⟨l, b, xs, zs, rfl, rfl, hH, hB, hz, q⟩ := h
  cases rx
  cases ry
  obtain ⟨z, its, n, r, hl, e⟩ := I.lstM hH
  obtain ⟨z2, its2, n2, r2, hl2, e2⟩ := I.lstM hB
  refine PySem.P.add_list e e2 ?_ (by rw [List.size_toArray, List.size_toArray]; omega)
  have ea : its.toArray ++ its2.toArray = (its ++ its2).toArray := by simp
  rw [ea]
  exact ⟨.ref _, _, I.lnew (t' := s.toks) (r.append r2) (by rw [List.length_append]; omega), rfl, q _ I.fresh⟩
/-- a list times an int (a negative one is nothing) -/
def rRep : R2 := fun x y H Q => ∃ l k xs, x = .ref l ∧ y = .int k ∧ H l = some (.lst xs) ∧ -(2 ^ 63) ≤ k ∧ k < 2 ^ 63 ∧ xs.length * k.toNat ≤ sizeLine ∧
  ∀ p, H p = none → Q (.ref p) (upd H p (.lst (List.replicate k.toNat xs).flatten))
theorem len_rep {α : Type} (xs : List α) (k : Nat) : (List.replicate k xs).flatten.length = k * xs.length := by
  induction k with
  | zero => simp
  | succ k ih => rw [List.replicate_succ, List.flatten_cons, List.length_append, ih, Nat.succ_mul, Nat.add_comm]
theorem op_rep : OpR X (binaryOp .Mult) rRep := by
  intro pins s σ H x y v u Q I rx ry h
  obtain ⟨l, k, xs, rfl, rfl, hH, h1, h2, hz, q⟩ := h
  cases rx
  obtain ⟨t, rfl⟩ := ry
  obtain ⟨z, its, n, r, hl, e⟩ := I.lstM hH
  have hlen : its.toArray.size * k.toNat ≤ sizeLine := by rw [List.size_toArray, ← hl]; exact hz
  have hcap : ¬ its.toArray.size * k.toNat > (2 ^ 63 - 1) / 8 := by
    have : (sizeLine : Nat) ≤ (2 ^ 63 - 1) / 8 := by decide
    omega
  have hfit : ¬ (!Builtin.List.listFitsIndex k) = true := by
    rw [fitsIndex_both h1 h2]
    exact Bool.false_ne_true
  have hlong : ¬ Builtin.List.listTooLong (its.toArray.size * k.toNat) = true := by
    rw [notLongL hlen]
    exact Bool.false_ne_true
  have hnew : List.foldl (fun x1 x2 => x1 ++ x2) #[] (List.replicate (if its.toArray.isEmpty = true then 0 else k.toNat) its.toArray) = (List.replicate k.toNat its).flatten.toArray := by
    have f0 : ∀ m : Nat, List.foldl (fun x1 x2 => x1 ++ x2) #[] (List.replicate m its.toArray) = (List.replicate m its).flatten.toArray := fun m => by
      have := foldl_rep its m []
      rw [List.nil_append] at this
      exact this
    rw [f0]
    cases its with
    | nil => simp
    | cons a r' => rw [if_neg (by simp)]
  refine wpAny_binaryOp_repeat_ref (T := "list") (U := "int") (by decide) ⟨_, e, rfl⟩ (fun s' => typeIs_int s' k t) noFill_list_mul F.fills_int_mul F.slot_int_rmul repeat_list F.slot_int_index.lookup
    (call_meets F.slot_int_rmul (typeIs_int s k t) F.entry_int_rmul (F.args_int_rmul_2 _ _) (int___rmul___int_list k t l its.toArray n)
      ⟨e, rfl, ⟨_, e, rfl⟩, call_meets F.slot_list_mul ⟨_, e, rfl⟩ F.entry_list_mul (F.args_list_mul_2 _ _) (AutoListH.list___mul___list_int_3 l its.toArray n k t hfit hcap hlong) ⟨e, ?_⟩⟩)
  rw [hnew]
  exact ⟨.ref _, _, I.lnew (t' := s.toks) (r.rep k.toNat) (by rw [len_rep, Nat.mul_comm]; exact hz), rfl, q _ I.fresh⟩
end
section
variable {prog : Program} {w : World} {A : Around} {E : Value → Shared → Prop} {s : Shared}
end
section
variable {X : Cx}
end
end L2
namespace L2
open PySem PySem.Spec PyProof.Rows
theorem Vals.ints : ∀ {ns : List Int} {us : List Value}, Vals (ns.map V.int) us → IntsAre us ns
  | [], us, h => by
    rw [List.map_nil] at h
    cases h
    exact IntsAre.nil
  | n :: ns, us, h => by
    rw [List.map_cons] at h
    cases h with
    | cons r t =>
      obtain ⟨k, rfl⟩ := r
      exact IntsAre.cons n k (Vals.ints t)
theorem vals_of_ints : ∀ {us : List Value} {ns : List Int}, IntsAre us ns → Vals (ns.map V.int) us
  | _, _, .nil => by rw [List.map_nil]; exact Paired.nil
  | _, _, .cons n t h => by rw [List.map_cons]; exact Paired.cons (show RelV (V.int n) (Value.int n t) from ⟨t, rfl⟩) (vals_of_ints h)
theorem Vals.ref1 {a : Addr} {us : List Value} (r : Vals [V.ref a] us) : us = [Value.ref a] := by
  cases r with
  | cons r t =>
    cases t
    cases r
    rfl
section
variable {prog : Program} {w : World} {A : Around} {E : Value → Shared → Prop} {s : Shared} {l : Addr} {its : List Value} {ns : List Int} {Q : Value → Shared → Prop}
theorem sum_raw (hh : A.handled = none) (hl : s.heap.IsList l its.toArray) (hi : IntsAre its ns)
    (h : ∀ h' tk t', (∀ b o, s.heap.get? b = some o → h'.get? b = some o) → Q (.int ns.sum t') { s with heap := h', toks := tk }) : wpAny (model prog w) A (call (.builtin "sum") [.ref l]) Q E s := by
  obtain ⟨xs, e⟩ := hi.allInts.items
  have hn : numsOf (intItems xs).toList = ns := by rw [← e]; exact hi.numsOf
  rw [nums_intItems] at hn
  rw [e] at hl
  refine PySem.sum_intListG hh hl fun h' tk t' hk => ?_
  have := h h' tk t' hk
  rw [preSum_eq, List.take_of_length_le (by simp), hn]; exact this
end
section
variable {X : Cx}
/-- sum(xs) of a list of ints -/
def rSum (K : PySem.W.Frag) : List V → Hp → VK → Prop := fun vs H Q => ∃ (a : Addr) (ns : List Int), vs = [V.ref a] ∧ SqL K H a (ns.map V.int) ∧ Q (.int ns.sum) H
theorem cr_sum (hc : X.calm = true) : CallR X (.builtin "sum") (rSum X.K) := by
  intro pins s σ H vs us Q I r h
  obtain ⟨a, ns, rfl, hs, q⟩ := h
  obtain ⟨its, rv, hl, _⟩ := I.list hs
  rw [Vals.ref1 r]
  exact sum_raw (I.ok.hd hc) hl.isList rv.ints fun h' tk t' hk => ⟨.int _, H, I.kept hk, ⟨_, rfl⟩, q⟩
end
section
variable {X : Cx}
end
section
variable {X : Cx}
end
theorem iter_any {prog : Program} {w : World} {A : Around} {E : Value → Shared → Prop} {s : Shared} {l : Addr} {items : Array Value} {Q : Value → Shared → Prop} (hl : s.heap.IsList l items)
    (h : ∀ s₂ : Shared, s₂ = { s with heap := s.heap.push { cls := .type "list_iterator", data := .fields #[.ref l, .int 0 0] } } →
      (s₂.heap.IsListIter s.heap.objs.size l 0 ∧ s₂.heap.IsList l items) → l ≠ s.heap.objs.size → Q (.ref s.heap.objs.size) s₂) : wpAny (model prog w) A (pyIter (.ref l)) Q E s := by
  have hlt : l < s.heap.objs.size := by obtain ⟨_, e, _⟩ := hl; exact Heap.lt_size e
  exact wpAny_pyIter_list hl (h _ rfl ⟨⟨_, Heap.get?_push_size _ rfl, rfl, rfl⟩, hl.push _⟩ (Nat.ne_of_lt hlt))
theorem any_range : ∀ bs : List Bool, (List.range bs.length).any (fun i => bs.getD i false) = bs.any id
  | [] => rfl
  | b :: bs => by
    rw [List.length_cons, List.range_succ_eq_map, List.any_cons, List.any_map, List.any_cons, ← any_range bs]
    all_goals rfl
section
variable {X : Cx}
end
section
variable {X : Cx} {pins : List (Addr × Obj)} {σ : St} {H : Hp} {s : Shared}
end
section
variable {X : Cx}
end
end L2
namespace L2
open PySem PySem.Spec PyProof.Rows
abbrev CellAt (h : Heap) (c : Addr) (v : Option Value) : Prop := h.IsCell c v
def relS (scope sc : Scope) : Scope :=
  { scope with names := scope.names.map fun (n, k) => if (k == .free && sc.kind == .function && sc.names.lookup n == some .cell) then (n, .cell) else (n, k) }
def cloFrom (cells : List (Str × Addr)) : List (Str × NameKind) → List (Str × Addr) → List (Str × Addr)
  | [], acc => acc
  | (n, k) :: r, acc => if k == .free then cloFrom cells r ((n, (cells.lookup n).getD 0) :: acc) else cloFrom cells r acc
theorem closure_loop (env : Env) (f : Str × NameKind → List (Str × Addr) → Sem (ForInStep (List (Str × Addr))))
    (hf : ∀ n k c, f (n, k) c = if k == .free then (do let a ← cellOf env n; pure (.yield ((n, a) :: c))) else pure (.yield c)) :
    ∀ (names : List (Str × NameKind)) (acc : List (Str × Addr)), (∀ y ∈ names, y.2 = .free → ∃ c, env.cells.lookup y.1 = some c) → forIn names acc f = pure (cloFrom env.cells names acc)
  | [], acc, _ => by rw [List.forIn_nil]; rfl
  | (n, k) :: r, acc, h => by
    rw [List.forIn_cons, hf]
    have ih := fun acc => closure_loop env f hf r acc fun y hy => h y (List.mem_cons_of_mem _ hy)
    unfold cloFrom
    by_cases hk : (k == NameKind.free) = true
    · rw [if_pos hk, if_pos hk]
      obtain ⟨c, hc⟩ := h (n, k) List.mem_cons_self (by simpa using hk)
      have e : cellOf env n = pure c := by unfold cellOf; rw [hc]
      rw [e]
      have e2 : (env.cells.lookup n).getD 0 = c := by rw [hc]; rfl
      rw [e2]
      exact ih _
    · rw [if_neg hk, if_neg hk]
      exact ih _
theorem closure_ok {scope : Scope} {env : Env} (h : ∀ y ∈ scope.names, y.2 = .free → ∃ c, env.cells.lookup y.1 = some c) : closureFor scope env = pure (cloFrom env.cells scope.names []) := by
  simp only [closureFor]
  rw [closure_loop env _ (fun n k c => rfl) scope.names [] h]
  rfl
theorem mem_lookup {α : Type} : ∀ {l : List (Str × α)} {n : Str} {c : α}, (n, c) ∈ l → ∃ c', l.lookup n = some c'
  | (k, v) :: r, n, c, h => by
    rw [List.lookup_cons]
    cases hb : n == k with
    | true => exact ⟨_, rfl⟩
    | false =>
      rcases List.mem_cons.mp h with e | h
      · cases e; simp at hb
      · exact mem_lookup h
theorem cloFrom_mem {cells : List (Str × Addr)} : ∀ {names : List (Str × NameKind)} {acc : List (Str × Addr)} {n : Str} {c : Addr}, (n, c) ∈ cloFrom cells names acc → (n, c) ∈ acc ∨ ((n, .free) ∈ names ∧ c = (cells.lookup n).getD 0)
  | [], _, _, _, h => .inl h
  | (m, k) :: r, acc, n, c, h => by
    unfold cloFrom at h
    split at h
    · rename_i hk
      have hk : k = .free := by simpa using hk
      rcases cloFrom_mem h with h | ⟨h1, h2⟩
      · rcases List.mem_cons.mp h with e | h
        · cases e; exact .inr ⟨hk ▸ List.mem_cons_self, rfl⟩
        · exact .inl h
      · exact .inr ⟨List.mem_cons_of_mem _ h1, h2⟩
    · rcases cloFrom_mem h with h | ⟨h1, h2⟩
      · exact .inl h
      · exact .inr ⟨List.mem_cons_of_mem _ h1, h2⟩
theorem cloFrom_acc {cells : List (Str × Addr)} : ∀ {names : List (Str × NameKind)} {acc : List (Str × Addr)} {p : Str × Addr}, p ∈ acc → p ∈ cloFrom cells names acc
  | [], _, _, h => h
  | (m, k) :: r, acc, p, h => by
    unfold cloFrom
    split
    · exact cloFrom_acc (List.mem_cons_of_mem _ h)
    · exact cloFrom_acc h
theorem cloFrom_has {cells : List (Str × Addr)} : ∀ {names : List (Str × NameKind)} {acc : List (Str × Addr)} {n : Str}, (n, .free) ∈ names → (n, (cells.lookup n).getD 0) ∈ cloFrom cells names acc
  | (m, k) :: r, acc, n, h => by
    unfold cloFrom
    rcases List.mem_cons.mp h with e | h
    · cases e
      exact cloFrom_acc List.mem_cons_self
    · split
      · exact cloFrom_has h
      · exact cloFrom_has h
theorem cells_mem : ∀ {names : List (Str × NameKind)} {h : Heap} {acc : List (Str × Addr)} {x : Str} {c : Addr}, (x, c) ∈ cellsFrom h.objs.size names acc →
    (x, c) ∈ acc ∨ ((x, .cell) ∈ names ∧ h.objs.size ≤ c ∧ CellAt (pushCells h names) c none)
  | [], _, _, _, _, h => .inl h
  | (n, k) :: r, h, acc, x, c, hm => by
    unfold cellsFrom at hm
    unfold pushCells
    split at hm
    · rename_i hk
      rw [if_pos hk]
      have hk : k = .cell := by simpa using hk
      rw [← Heap.size_push h { cls := .type "cell", data := .cell none }] at hm
      rcases cells_mem hm with hm | ⟨h1, h2, h3⟩
      · rcases List.mem_cons.mp hm with e | hm
        · cases e
          exact .inr ⟨hk ▸ List.mem_cons_self, Nat.le_refl _, _, pushCells_keeps r _ _ _ (Heap.get?_push_size _ rfl), rfl⟩
        · exact .inl hm
      · rw [Heap.size_push] at h2
        exact .inr ⟨List.mem_cons_of_mem _ h1, Nat.le_of_succ_le h2, h3⟩
    · rename_i hk
      rw [if_neg hk]
      rcases cells_mem hm with hm | ⟨h1, h2, h3⟩
      · exact .inl hm
      · exact .inr ⟨List.mem_cons_of_mem _ h1, h2, h3⟩
theorem cells_acc : ∀ {names : List (Str × NameKind)} {n : Nat} {acc : List (Str × Addr)} {p : Str × Addr}, p ∈ acc → p ∈ cellsFrom n names acc
  | [], _, _, _, h => h
  | (m, k) :: r, n, acc, p, h => by
    unfold cellsFrom
    split
    · exact cells_acc (List.mem_cons_of_mem _ h)
    · exact cells_acc h
theorem cells_has : ∀ {names : List (Str × NameKind)} {n : Nat} {acc : List (Str × Addr)} {x : Str}, (x, .cell) ∈ names → ∃ c, (x, c) ∈ cellsFrom n names acc
  | (m, k) :: r, n, acc, x, h => by
    unfold cellsFrom
    rcases List.mem_cons.mp h with e | h
    · cases e
      exact ⟨n, cells_acc List.mem_cons_self⟩
    · split
      · exact cells_has h
      · exact cells_has h
theorem cells_inj : ∀ {names : List (Str × NameKind)} {h : Heap} {acc : List (Str × Addr)} {x y : Str} {c : Addr}, (∀ p ∈ acc, p.2 < h.objs.size) → (∀ x y c, (x, c) ∈ acc → (y, c) ∈ acc → x = y) →
    (x, c) ∈ cellsFrom h.objs.size names acc → (y, c) ∈ cellsFrom h.objs.size names acc → x = y
  | [], _, _, _, _, _, _, hi, h1, h2 => hi _ _ _ h1 h2
  | (n, k) :: r, h, acc, x, y, c, hl, hi, h1, h2 => by
    unfold cellsFrom at h1 h2
    split at h1
    · rename_i hk
      rw [if_pos hk] at h2
      rw [← Heap.size_push h { cls := .type "cell", data := .cell none }] at h1 h2
      refine cells_inj (h := h.push _) (fun p hp => ?_) (fun x y c a b => ?_) h1 h2
      · rw [Heap.size_push]
        rcases List.mem_cons.mp hp with rfl | hp
        · exact Nat.lt_succ_self _
        · exact Nat.lt_succ_of_lt (hl p hp)
      · rcases List.mem_cons.mp a with e | a <;> rcases List.mem_cons.mp b with e' | b
        · cases e; cases e'; rfl
        · cases e; exact absurd (hl _ b) (Nat.lt_irrefl _)
        · cases e'; exact absurd (hl _ a) (Nat.lt_irrefl _)
        · exact hi _ _ _ a b
    · rename_i hk
      rw [if_neg hk] at h2
      exact cells_inj hl hi h1 h2
theorem newEnv_comp {M : Model} {A : Around} {E : Value → Shared → Prop} {s : Shared} {scope : Scope} {globals : Addr} {closure : List (Str × Addr)} {qual : Str} {func : Option Addr} {code : Value} {around : Env} {builtins : Addr} {Q : Env → Shared → Prop}
    (h : Q (newEnv scope s.heap.objs.size globals (cellsFrom (s.heap.objs.size + 1) scope.names closure) qual func code (some around) builtins)
      { s with heap := pushCells (s.heap.push { cls := .type "dict", data := .dict #[] }) scope.names }) :
    wpAny M A (newFunctionEnv scope globals closure [] qual func code (some around) builtins) Q E s := by
  simp only [newFunctionEnv, Option.isSome_some, if_true]
  refine wpAny_bind (wpAny_alloc ?_)
  refine wpAny_bind (wpAny_layCells _ (fun n k c => rfl) scope.names closure _ _ ?_)
  rw [show ({ s with heap := s.heap.push { cls := .type "dict", data := .dict #[] } } : Shared).heap.objs.size = s.heap.objs.size + 1 from Heap.size_push ..]
  rw [List.forIn_nil]
  exact wpAny_bind (wpAny_pure (wpAny_pure h))
/-- every name of the written scope, in the scope that runs -/
theorem lookup_relS {sc : Scope} : ∀ {names : List (Str × NameKind)} {x : Str} {k : NameKind},
    (names.map fun (n, k) => if (k == NameKind.free && sc.kind == .function && sc.names.lookup n == some .cell) then (n, NameKind.cell) else (n, k)).lookup x = some k →
    ∃ k', names.lookup x = some k' ∧ (k = k' ∨ (k' = .free ∧ k = .cell))
  | [], _, _, h => by simp at h
  | (n, k₀) :: r, x, k, h => by
    have ih := @lookup_relS sc r x k
    have h' : List.lookup x ((if (k₀ == NameKind.free && sc.kind == .function && sc.names.lookup n == some .cell) = true then (n, NameKind.cell) else (n, k₀)) :: (r.map _)) = some k := h
    cases hx : x == n with
    | true =>
      simp only [List.lookup_cons, hx]
      by_cases hc : (k₀ == NameKind.free && sc.kind == .function && sc.names.lookup n == some .cell) = true
      · rw [if_pos hc] at h'
        simp only [List.lookup_cons, hx] at h'
        cases h'
        simp only [Bool.and_eq_true, beq_iff_eq] at hc
        exact ⟨k₀, rfl, .inr ⟨hc.1.1, rfl⟩⟩
      · rw [if_neg hc] at h'
        simp only [List.lookup_cons, hx] at h'
        cases h'
        exact ⟨_, rfl, .inl rfl⟩
    | false =>
      simp only [List.lookup_cons, hx]
      by_cases hc : (k₀ == NameKind.free && sc.kind == .function && sc.names.lookup n == some .cell) = true
      · rw [if_pos hc] at h'
        simp only [List.lookup_cons, hx] at h'
        exact ih h'
      · rw [if_neg hc] at h'
        simp only [List.lookup_cons, hx] at h'
        exact ih h'
/-- the names of a comprehension's block: its own (with their places in N), or captured -/
structure BlkOk (N : List Str) (sc scope : Scope) (own : List (Str × Nat)) : Prop where
  kind : scope.kind = .function
  uniq : ∀ y ∈ scope.names, scope.names.lookup y.1 = some y.2
  ix : ∀ p ∈ own, N[p.2]? = some p.1
  free : ∀ y ∈ scope.names, y.2 = .free → sc.names.lookup y.1 = some .cell ∨ sc.names.lookup y.1 = some .free
  own : ∀ y ∈ scope.names, y.2 = .local ∨ y.2 = .cell → y.1 ∈ own.map (·.1) ∨ y.1 ∉ N
/-- the slots of the block's own names forgotten -/
def wipe (σ : St) : List Nat → St
  | [] => σ
  | v :: vs => (wipe σ vs).set v none
theorem wipe_length (σ : St) : ∀ vs : List Nat, (wipe σ vs).length = σ.length
  | [] => rfl
  | v :: vs => by unfold wipe; rw [List.length_set, wipe_length σ vs]
theorem wipe_some {σ : St} {i : Nat} {x : V} : ∀ {vs : List Nat}, (wipe σ vs)[i]? = some (some x) → σ[i]? = some (some x) ∧ i ∉ vs
  | [], h => ⟨h, by simp⟩
  | v :: vs, h => by
    unfold wipe at h
    by_cases hi : v = i
    · subst hi
      by_cases hv : v < (wipe σ vs).length
      · rw [List.getElem?_set_self hv] at h; cases h
      · rw [List.getElem?_eq_none (by simpa using hv)] at h; cases h
    · rw [List.getElem?_set_ne hi] at h
      obtain ⟨h1, h2⟩ := wipe_some h
      exact ⟨h1, by simp only [List.mem_cons, not_or]; exact ⟨fun e => hi e.symm, h2⟩⟩
/-- the context of a block that starts at s, its iterator's objects at fp -/
abbrev Cx.blk (X : Cx) (s : Shared) (H : Hp) (scope : Scope) (cenv : Env) (fp : List Addr) : Cx := { X with s_0 := s, H_0 := H, env := cenv, outer := X.stack, ex := fp, fn := fun x => scope.names.lookup x == some .cell, pn := [], xe := fun _ _ => False }
section
variable {X : Cx} {pins : List (Addr × Obj)} {σ : St} {H : Hp} {s : Shared}
theorem block_start {scope : Scope} {own : List (Str × Nat)} {fp : List Addr} (I : Inv X pins σ H s) (ok : BlkOk X.N X.env.scope scope own) (hN : X.N.Nodup) (hfp : ∀ b ∈ fp, FpOk X pins H b ∧ b < s.heap.objs.size) :
    Inv (X.blk s H scope (compEnvC scope (cellsFrom (s.heap.objs.size + 1) scope.names (cloFrom X.env.cells scope.names [])) s.heap.objs.size X.env) fp) [] (wipe σ (own.map (·.2))) H { s with heap := pushCells (s.heap.push { cls := .type "dict", data := .dict #[] }) scope.names } := by
  have hfree : ∀ y ∈ scope.names, y.2 = .free → ∃ c, X.env.cells.lookup y.1 = some c := fun y hy e => by
    rcases ok.free y hy e with k | k
    · exact I.ok.has _ (.inl k)
    · exact I.ok.has _ (.inr k)
  generalize hcenv : compEnvC scope (cellsFrom (s.heap.objs.size + 1) scope.names (cloFrom X.env.cells scope.names [])) s.heap.objs.size X.env = cenv
  have kp : ∀ b o, s.heap.get? b = some o → (pushCells (s.heap.push { cls := .type "dict", data := .dict #[] }) scope.names).get? b = some o := fun b o e => pushCells_keeps _ _ _ _ (Heap.get?_push_of_some _ e)
  have hL : cenv.locals = s.heap.objs.size := by rw [← hcenv]; rfl
  have hcl : cenv.cells = cellsFrom (s.heap.objs.size + 1) scope.names (cloFrom X.env.cells scope.names []) := by rw [← hcenv]; rfl
  have hsc : cenv.scope = relS scope X.env.scope := by rw [← hcenv]; rfl
  rw [← Heap.size_push s.heap { cls := .type "dict", data := .dict #[] }] at hcl
  have cm : ∀ {y c}, (y, c) ∈ cloFrom X.env.cells scope.names [] → X.env.cells.lookup y = some c ∧ c < s.heap.objs.size := fun {y c} hm => by
    rcases cloFrom_mem hm with hm | ⟨h1, rfl⟩
    · cases hm
    · obtain ⟨c, hc⟩ := hfree _ h1 rfl
      rw [hc]
      obtain ⟨w, z⟩ := I.cell _ _ hc
      exact ⟨rfl, z.lt⟩
  have mem : ∀ {y c}, cenv.cells.lookup y = some c → (X.env.cells.lookup y = some c ∧ c < s.heap.objs.size) ∨ (s.heap.objs.size + 1 ≤ c ∧ CellAt (pushCells (s.heap.push { cls := .type "dict", data := .dict #[] }) scope.names) c none) := fun {y c} e => by
    rw [hcl] at e
    rcases cells_mem (PySem.mem_of_lookup e) with hm | ⟨_, h2, h3⟩
    · exact .inl (cm hm)
    · rw [Heap.size_push] at h2; exact .inr ⟨h2, h3⟩
  have look : ∀ {y}, scope.names.lookup y = some .free → ∃ c, cenv.cells.lookup y = some c ∧ X.env.cells.lookup y = some c := fun {y} hl => by
    have hy : (y, NameKind.free) ∈ scope.names := PySem.mem_of_lookup hl
    obtain ⟨c', e'⟩ := mem_lookup (cells_acc (names := scope.names) (n := (s.heap.push { cls := .type "dict", data := .dict #[] }).objs.size) (cloFrom_has (cells := X.env.cells) (acc := []) hy))
    rw [← hcl] at e'
    refine ⟨c', e', ?_⟩
    rw [hcl] at e'
    rcases cells_mem (PySem.mem_of_lookup e') with hm | ⟨h1, _, _⟩
    · exact (cm hm).1
    · have := ok.uniq _ h1
      rw [hl] at this; cases this
  have okB : (X.blk s H scope cenv fp).Ok := by
    refine ⟨I.ok.mod, by show cenv.scope.kind = _; rw [hsc]; exact ok.kind, by show cenv.globals = _; rw [← hcenv]; exact I.ok.glob, by show cenv.builtins = _; rw [← hcenv]; exact I.ok.blt, by show s.heap.objs.size ≤ cenv.locals; rw [hL]; exact Nat.le_refl _,
      fun y z c e1 e2 => ?_, fun y hy => ?_, fun y c z e => ?_, I.ok.hd, I.ok.frames, .inl rfl, fun b hb => ⟨?_, fun y c e z => ?_⟩, I.bs, Nat.le_trans I.ok.bsz I.sz, fun b o e hb => ?_, fun b hb z => ?_, I.stack, I.stkFree⟩
    · have e1 : cenv.cells.lookup y = some c := e1
      have e2 : cenv.cells.lookup z = some c := e2
      rw [hcl] at e1 e2
      refine cells_inj (fun p hp => ?_) (fun y z c a b => I.ok.inj y z c (cm a).1 (cm b).1) (PySem.mem_of_lookup e1) (PySem.mem_of_lookup e2)
      rw [Heap.size_push]
      exact Nat.lt_succ_of_lt (cm (y := p.1) (c := p.2) hp).2
    · show ∃ c, cenv.cells.lookup y = some c
      have key : ∀ k, cenv.kindOf y = some k → (k = .cell ∨ k = .free) → ∃ c, cenv.cells.lookup y = some c := fun k hk hk' => by
        unfold Env.kindOf at hk
        rw [hsc] at hk
        obtain ⟨k', e, r⟩ := lookup_relS hk
        have : k' = .cell ∨ k' = .free := by
          rcases r with rfl | ⟨rfl, _⟩
          · exact hk'
          · exact .inr rfl
        rcases this with rfl | rfl
        · obtain ⟨c, hm⟩ := cells_has (n := (s.heap.push { cls := .type "dict", data := .dict #[] }).objs.size) (acc := cloFrom X.env.cells scope.names []) (PySem.mem_of_lookup e)
          obtain ⟨c', e'⟩ := mem_lookup hm
          exact ⟨c', by rw [hcl]; exact e'⟩
        · obtain ⟨c, h1, _⟩ := look e
          exact ⟨c, h1⟩
      rcases hy with hy | hy
      · exact key _ hy (.inl rfl)
      · exact key _ hy (.inr rfl)
    · have z : (scope.names.lookup y == some NameKind.cell) = true := z
      have z : scope.names.lookup y = some .cell := by simpa using z
      have e : cenv.cells.lookup y = some c := e
      rw [hcl] at e
      rcases cells_mem (PySem.mem_of_lookup e) with hm | ⟨_, h2, _⟩
      · rcases cloFrom_mem hm with hm | ⟨h1, _⟩
        · cases hm
        · have q := ok.uniq _ h1
          rw [z] at q; cases q
      · rw [Heap.size_push] at h2
        exact Nat.le_of_succ_le h2
    · show b ≠ cenv.locals
      rw [hL]; exact Nat.ne_of_lt (hfp b hb).2
    · have e : cenv.cells.lookup y = some c := e
      rcases mem e with ⟨h1, _⟩ | ⟨h1, _⟩
      · exact (hfp b hb).1.2.2.2.2.1 y c h1 z
      · have h2 : s.heap.objs.size + 1 ≤ b := by rw [← z]; exact h1
        exact absurd (Nat.lt_of_lt_of_le (hfp b hb).2 (Nat.le_of_succ_le h2)) (Nat.lt_irrefl _)
    · rcases (hfp b hb).1.2.2.2.1 with z | z
      · exact I.ok.noex b o e z
      · exact absurd (Nat.lt_of_lt_of_le (Heap.lt_size e) (Nat.le_trans I.ok.bsz z)) (Nat.lt_irrefl _)
    · rcases List.mem_cons.mp (I.stkSub b z) with z | z
      · exact (hfp b hb).1.2.1 z
      · exact (hfp b hb).1.2.2.1 z
  refine ⟨okB, rfl, I.bare, Un.kept kp, ⟨fun _ => none, ?_, fun i y av e1 e2 e3 => ?_⟩, fun y c e => ?_, ?_, fun y c e => ?_, fun p hp => ?_, I.hok.kept kp, by rw [wipe_length]; exact I.len⟩
  · show Heap.Ns _ cenv.locals _
    rw [hL]
    exact Heap.Ns.keeps (Heap.Ns.new ..) fun b o e => pushCells_keeps _ _ _ _ e
  · obtain ⟨e2, hne⟩ := wipe_some e2
    have hfr : scope.names.lookup y = some .free ∧ (cenv.kindOf y = some .cell ∨ cenv.kindOf y = some .free) := by
      have key : ∀ k, cenv.scope.names.lookup y = some k → k = .local ∨ k = .cell ∨ k = .free → scope.names.lookup y = some .free ∧ (cenv.kindOf y = some .cell ∨ cenv.kindOf y = some .free) := fun k hk hk' => by
        have hk0 := hk
        rw [hsc] at hk
        obtain ⟨k', e, r⟩ := lookup_relS hk
        have no : ¬ (k' = .local ∨ k' = .cell) := fun hh => by
          rcases ok.own _ (PySem.mem_of_lookup e) hh with e' | e'
          · obtain ⟨p, hp, hpy⟩ := List.mem_map.mp e'
            have e3 := ok.ix p hp
            have : p.1 = y := hpy
            rw [this] at e3
            exact hne (List.mem_map.mpr ⟨p, hp, nodup_ix hN e3 e1⟩)
          · exact e' (List.mem_of_getElem? e1)
        rcases r with rfl | ⟨rfl, rfl⟩
        · rcases hk' with rfl | rfl | rfl
          · exact absurd (.inl rfl) no
          · exact absurd (.inr rfl) no
          · exact ⟨e, .inr hk0⟩
        · exact ⟨e, .inl hk0⟩
      have e3 : Vis cenv.scope y := e3
      rcases e3 with e3 | e3 | e3
      · exact key _ e3 (.inl rfl)
      · exact key _ e3 (.inr (.inl rfl))
      · exact key _ e3 (.inr (.inr rfl))
    obtain ⟨m, hn, hl⟩ := I.loc
    have hvis : Vis X.env.scope y := (ok.free _ (PySem.mem_of_lookup hfr.1) rfl).elim (fun k => .inr (.inl k)) (fun k => .inr (.inr k))
    obtain ⟨w, r, q⟩ := hl i y av e1 e2 hvis
    refine ⟨w, r, .inr ⟨hfr.2, ?_⟩⟩
    obtain ⟨c, h1, h2⟩ := look hfr.1
    rcases q with ⟨k, _⟩ | ⟨_, c', e', z⟩
    · have k : X.env.scope.names.lookup y = some .local := k
      rcases ok.free _ (PySem.mem_of_lookup hfr.1) rfl with k' | k' <;> rw [show X.env.scope.names.lookup y = _ from k'] at k <;> cases k
    · rw [h2] at e'; cases e'
      exact ⟨c, h1, z.keeps kp⟩
  · have e : cenv.cells.lookup y = some c := e
    rcases mem e with ⟨h1, _⟩ | ⟨_, z⟩
    · obtain ⟨w, z⟩ := I.cell y c h1
      exact ⟨w, z.keeps kp⟩
    · exact ⟨_, z⟩
  · show H cenv.locals = none
    rw [hL]; exact I.hok.fresh (Nat.le_refl _)
  · have e : cenv.cells.lookup y = some c := e
    rcases mem e with ⟨h1, _⟩ | ⟨h1, _⟩
    · exact I.freeC y c h1
    · exact I.hok.fresh (Nat.le_of_succ_le h1)
  · exact absurd (show p ∈ ([] : List (Addr × Obj)) ++ [] from hp) (by simp)
/-- an item appended to a tracked list -/
theorem app_ok {E : Value → Shared → Prop} {D : Addr} {xs : List V} {y : V} {v : Value} {Q : Value → Shared → Prop} (I : Inv X pins σ H s) (hD : H D = some (.lst xs)) (hz : xs.length < sizeLine) (r : RelV y v)
    (h : ∀ s', Inv X pins σ (upd H D (.lst (xs ++ [y]))) s' → Q .none s') : wpAny (model X.prog X.w) X.A (call (.builtin "list.append") [.ref D, v]) Q E s := by
  obtain ⟨hz', its, n, ri, e⟩ := I.hok D _ hD
  have hl := ri.length
  refine append_at (hsz := by rw [List.size_toArray]; omega) e fun h' sb ho' => ?_
  refine h { s with heap := h' } (I.write (t' := s.toks) (by rw [hD]; trivial) (.inl rfl) (fun b u hb q => (sb.2 b hb).trans q) ⟨_, ho'⟩ ⟨by rw [List.length_append]; exact hz, its ++ [v], n + 1, ri.append (.cons r .nil), ?_⟩)
  rw [ho']
  simp
/-- a clause's tests -/
def PTs (X : Cx) (ifs : List Expr) (t : TT) : Prop :=
  ∀ (pins : List (Addr × Obj)) (s : Shared) (σ : St) (H : Hp) (Q : Bool → Hp → Prop), Inv X pins σ H s → t σ H Q →
    wpAny (model X.prog X.w) X.A (forIn ifs true fun c r => if r = true then do let ok ← isTrue c X.env (eval c X.env); pure (ForInStep.yield ok) else pure (ForInStep.yield r)) (TP X pins σ Q) X.xe s
def tYes : TT := fun _ H Q => Q true H
theorem pts_nil : PTs X [] tYes := fun _ _ _ H _ I h => wpAny_tests_nil ⟨H, I, h⟩
theorem pts_one {c : Expr} {t : TT} (h : PT X c t) : PTs X [c] t := fun pins s σ H Q I hw => wpAny_tests_one (h pins s σ H Q I hw)
end
theorem thnF {α : Type} {t : Sem α} {Q Q' : α → Shared → Prop} {M : Model} {A : Around} {E : Value → Shared → Prop} {s : Shared} (h : wpAny M A t Q (fun _ _ => False) s) (hQ : ∀ a s, Q a s → Q' a s) : wpAny M A t Q' E s := wpAny_mono h hQ fun _ _ z => False.elim z
/-- the loop of a list comprehension's block, the target of any form (codeAny_compLoop_tests asks a target that no tuple goes to; statement and proof follow it, PyProof/CompMap.lean:41-61, with the step letOwnedTupleGo kept) -/
theorem compLoop_any {prog : Program} {w : World} {A : Around} {R : Result → Shared → Prop} {s : Shared} {elt target iter : Expr} {ifs : List Expr} {scope : Scope} {pos : Pos} {it acc : Value} {env : Env} (I : Nat → Shared → Prop)
    (turn : ∀ n s, I n s → wpAny (model prog w) A (pyNext it) (fun r s₁ => match r with
      | none => R (.ok .next) s₁
      | some v => wpAny (model prog w) A (letOwnedTupleGo target it v) (fun _ s₁' => wpAny (model prog w) A (assign target env v) (fun _ s₂ =>
          wpAny (model prog w) A (forIn ifs true fun c r => if r = true then do let ok ← isTrue c env (eval c env); pure (ForInStep.yield ok) else pure (ForInStep.yield r)) (fun ok s₃ =>
            if ok = true then wpAny (model prog w) A (eval elt env) (fun x s₄ =>
              wpAny (model prog w) A (call (.builtin "list.append") [acc, x]) (fun _ s₅ => ∃ m, m < n ∧ I m s₅) (notedBy (model prog w) A env fun e s' => R (.error e) s') s₄) (notedBy (model prog w) A env fun e s' => R (.error e) s') s₃
            else ∃ m, m < n ∧ I m s₃) (notedBy (model prog w) A env fun e s' => R (.error e) s') s₂) (notedBy (model prog w) A env fun e s' => R (.error e) s') s₁') (notedBy (model prog w) A env fun e s' => R (.error e) s') s₁) (notedBy (model prog w) A env fun e s' => R (.error e) s') s)
    (n : Nat) (h : I n s) :
    codeAny (model prog w) A (.compLoop (.ListComp elt [⟨target, iter, ifs, 0⟩] scope pos) 0 it acc env) R s := by
  refine codeAny_loop rfl I (fun n s hI => ?_) n h
  show wpAny _ A ((compTurn (.ListComp elt [⟨target, iter, ifs, 0⟩] scope pos) 0 it acc env).onRaise (fun x => do noteFrame x env; theTreesLotGoes x)) _ _ s
  refine wpAny_noted ?_
  rw [compTurn_list]
  refine wpAny_bind (wpAny_standAt (wpAny_bind (wpAny_mono (turn n s hI) (fun r s₁ h₁ => ?_) fun _ _ h' => h')))
  cases r with
  | none => exact wpAny_pure h₁
  | some v =>
    refine wpAny_bind (wpAny_mono h₁ (fun _ s₁' h₁' => ?_) fun _ _ h' => h')
    refine wpAny_bind (wpAny_mono h₁' (fun _ s₂ h₂ => wpAny_bind (wpAny_mono h₂ (fun ok s₃ h₃ => ?_) fun _ _ h' => h')) fun _ _ h' => h')
    cases ok with
    | false => exact wpAny_pure ⟨rfl, h₃⟩
    | true =>
      exact wpAny_bind (wpAny_bind (wpAny_mono h₃ (fun x s₄ h₄ => wpAny_bind (wpAny_mono h₄ (fun _ s₅ h₅ => wpAny_pure (wpAny_pure ⟨rfl, h₅⟩)) fun _ _ h' => h')) fun _ _ h' => h'))
section
variable {X : Cx}
/-- [elt for target in iter if ..]: D the new list; W by the turn and a measure, Nx what a turn is to reach -/
def tLc (wi : TI) (g : TG) (tt : TT) (te : TE) (vs : List Nat) : TE := fun σ H Q => wi σ H fun J H1 => ∀ D, H1 D = none → ∃ W : Nat → Nat → Hp → Prop, (∃ m, W 0 m (upd H1 D (.lst []))) ∧ ∀ i m H, W i m H →
  (J.stop i H ∧ Q (.ref D) H) ∨ (J.go i H ∧ ∃ Nx : Hp → Prop, (∀ H', Nx H' → ∃ m', m' < m ∧ W (i + 1) m' H') ∧ ∀ x H', J.yld i H x H' → g x (wipe σ vs) H' fun σ2 H2 => wipe σ2 vs = wipe σ vs ∧ tt σ2 H2 fun b H3 =>
    if b = true then te σ2 H3 fun y H4 => ∃ acc, H4 D = some (.lst acc) ∧ acc.length < sizeLine ∧ Nx (upd H4 D (.lst (acc ++ [y]))) else Nx H3)
theorem lc_core {pins : List (Addr × Obj)} {s : Shared} {σ : St} {H : Hp} {Q : VK} {elt tg iter : Expr} {ifs : List Expr} {scope : Scope} {own : List (Str × Nat)} {pos pos' : Pos} {wi : TI} {g : TG} {tt : TT} {te : TE} {use : Option (Value → Sem Unit)} {Qf : Value → Shared → Prop}
    (hc : X.calm = true) (hN : X.N.Nodup) (I : Inv X pins σ H s) (hi : PI X tg iter wi) (ok : BlkOk X.N X.env.scope scope own)
    (hg : ∀ (s : Shared) (H : Hp) (C : Addr) (cl : List (Str × Addr)) (fp : List Addr), PG (X.blk s H scope (compEnvC scope cl C X.env) fp) tg g) (ht : ∀ (s : Shared) (H : Hp) (C : Addr) (cl : List (Str × Addr)) (fp : List Addr), PTs (X.blk s H scope (compEnvC scope cl C X.env) fp) ifs tt)
    (he : ∀ (s : Shared) (H : Hp) (C : Addr) (cl : List (Str × Addr)) (fp : List Addr), PE (X.blk s H scope (compEnvC scope cl C X.env) fp) elt te) (hs : ∀ x, foldedSetIterable iter X.env x = pure x)
    (h : tLc wi g tt te (own.map (·.2)) σ H Q)
    (hRR : ∀ D C s' m H', Inv X pins σ H' s' → Q (.ref D) H' → s'.heap.Ns C m → FpOk X pins H' C → compPost (model X.prog X.w) X.A X.xe use Qf (.ref D) C (.ok .next) s') :
    wpAny (model X.prog X.w) X.A (comprehension (.ListComp elt [⟨tg, iter, ifs, 0⟩] scope pos) scope X.env pos' (newList []) false (eval iter X.env) use) Qf X.xe s := by
  have hfree : ∀ y ∈ scope.names, y.2 = .free → ∃ c, X.env.cells.lookup y.1 = some c := fun y hy e => by
    rcases ok.free y hy e with k | k
    · exact I.ok.has _ (.inl k)
    · exact I.ok.has _ (.inr k)
  refine wpAny_comprehension_free (use := use) rfl hs (closure_ok hfree) ok.kind (fun y hy e => by rw [ok.uniq y hy, e])
    (thn (hi pins s σ H _ I h) fun xv s1 hx => thn hx fun itv s2 h2 => ?_)
  obtain ⟨it, fp, tn, J, H2, e, I2, T, st2, f2, q⟩ := h2
  subst e
  refine wpAny_newObj_type (newEnv_comp ?_) (by show 0 ≤ sizeLine; decide)
  generalize hD : s2.heap.objs.size = D
  have hDn : H2 D = none := I2.hok.fresh (Nat.le_of_eq hD)
  obtain ⟨W, ⟨m0, w0⟩, turn⟩ := q D hDn
  -- the new list
  generalize hs3 : ({ s2 with heap := s2.heap.push { cls := .type "list", data := .seq ([] : List Value).toArray } } : Shared) = s3
  have I3 : Inv X pins σ (upd H2 D (.lst [])) s3 := by
    rw [← hs3]
    refine I2.laid (t' := s2.toks) (fun b o e => Heap.get?_push_of_some _ e) (Nat.le_of_eq hD) ⟨Nat.zero_le _, [], 0, .nil, ?_⟩
    rw [← hD]
    exact Heap.get?_push_size _ rfl
  have h3 : s3.heap = s2.heap.push { cls := .type "list", data := .seq ([] : List Value).toArray } := by rw [← hs3]
  have sz : ∀ b ∈ fp, b < s2.heap.objs.size := fun b hb => by
    obtain ⟨o, e, _⟩ := T.obj _ _ st2 b hb
    exact Heap.lt_size e
  have f3 : ∀ b ∈ fp, FpOk X pins (upd H2 D (.lst [])) b ∧ b < s3.heap.objs.size := fun b hb => by
    have hlt := sz b hb
    refine ⟨⟨?_, (f2 b hb).2⟩, by rw [h3, Heap.size_push]; exact Nat.lt_succ_of_lt hlt⟩
    rw [upd_ne (by rw [← hD]; exact Nat.ne_of_lt hlt)]
    exact (f2 b hb).1
  have st3 : tn 0 s3.heap := T.keep _ _ _ st2 fun b _ o e => by rw [h3]; exact Heap.get?_push_of_some _ e
  have I4 := block_start I3 ok hN f3
  have pg := hg s3 (upd H2 D (.lst [])) s3.heap.objs.size (cellsFrom (s3.heap.objs.size + 1) scope.names (cloFrom X.env.cells scope.names [])) fp
  have pt := ht s3 (upd H2 D (.lst [])) s3.heap.objs.size (cellsFrom (s3.heap.objs.size + 1) scope.names (cloFrom X.env.cells scope.names [])) fp
  have pe := he s3 (upd H2 D (.lst [])) s3.heap.objs.size (cellsFrom (s3.heap.objs.size + 1) scope.names (cloFrom X.env.cells scope.names [])) fp
  show codeAny _ _ (.compStart (.ListComp elt [⟨tg, iter, ifs, 0⟩] scope pos) 0 (.ref it) (.ref D) (compEnvC scope (cellsFrom (s3.heap.objs.size + 1) scope.names (cloFrom X.env.cells scope.names [])) s3.heap.objs.size X.env)) (compPost (model X.prog X.w) X.A X.xe use Qf (.ref D) s3.heap.objs.size) { s3 with heap := pushCells (s3.heap.push { cls := .type "dict", data := .dict #[] }) scope.names }
  have nfp : ∀ b ∈ fp, (upd H2 D (.lst [])) b = none := fun b hb => (f3 b hb).1.1
  generalize hce : compEnvC scope (cellsFrom (s3.heap.objs.size + 1) scope.names (cloFrom X.env.cells scope.names [])) s3.heap.objs.size X.env = ce at I4 pg pt pe ⊢
  have cL : ce.locals = s3.heap.objs.size := by subst hce; rfl
  generalize hH3 : upd H2 D (.lst []) = H3 at I3 I4 pg pt pe w0 nfp f3
  generalize hs4 : ({ s3 with heap := pushCells (s3.heap.push { cls := .type "dict", data := .dict #[] }) scope.names } : Shared) = s4 at I4 ⊢
  have st4 : tn 0 s4.heap := T.keep _ _ _ st3 fun b _ o e => by rw [← hs4]; exact pushCells_keeps _ _ _ _ (Heap.get?_push_of_some _ e)
  have stat : ∀ {σ' : St} {H' : Hp} {s' : Shared}, Inv (X.blk s3 H3 scope ce fp) [] σ' H' s' → (∀ b ∈ fp, H' b = none) → ∀ b ∈ fp, FpOk (X.blk s3 H3 scope ce fp) [] H' b := fun {σ' H' s'} I' hn b hb =>
    ⟨hn b hb, (I'.ok.exf b hb).1, I'.ok.exfs b hb, .inl hb, fun x c e => (I'.ok.exf b hb).2 x c e, fun p hp => absurd (show p ∈ ([] : List (Addr × Obj)) ++ [] from hp) (by simp)⟩
  have loop : codeAny (model X.prog X.w) X.A (.compLoop (.ListComp elt [⟨tg, iter, ifs, 0⟩] scope pos) 0 (.ref it) (.ref D) ce) (compPost (model X.prog X.w) X.A X.xe use Qf (.ref D) s3.heap.objs.size) s4 := by
    refine compLoop_any (fun n s' => ∃ i H', Inv (X.blk s3 H3 scope ce fp) [] (wipe σ (own.map (·.2))) H' s' ∧ tn i s'.heap ∧ (∀ b ∈ fp, H' b = none) ∧ W i n H') ?_ m0 ⟨0, H3, I4, st4, nfp, w0⟩
    rintro n s5 ⟨i, H5, I5, st5, n5, w5⟩
    rcases turn i n H5 w5 with ⟨stop, qq⟩ | ⟨go, Nx, hNx, step⟩
    · have td := T.done (X.blk s3 H3 scope ce fp) rfl rfl rfl hc i [] s5 _ H5 (fun _ _ => False) I5 (stat I5 n5) st5 stop
      refine thnF td fun r s6 ⟨hr, I6⟩ => ?_
      subst hr
      -- back in the def's context
      have I7 : Inv X pins σ H5 s6 := I3.call' (ch := fp) I6.os I6.base I6.hok I6.bare fun b hb => ⟨(f3 b hb).1.2.2.2.1, (f3 b hb).1.2.1, (f3 b hb).1.2.2.2.2.1, (f3 b hb).1.2.2.2.2.2⟩
      have nC : H5 s3.heap.objs.size = none := by
        have z : H5 ce.locals = none := I6.free
        rw [cL] at z
        exact z
      obtain ⟨m, hn, _⟩ := I6.loc
      have hn : s6.heap.Ns ce.locals m := hn
      rw [cL] at hn
      exact hRR D s3.heap.objs.size s6 m H5 I7 qq hn (I3.fpOk (Nat.le_refl _) nC)
    · have ti := T.item (X.blk s3 H3 scope ce fp) rfl rfl rfl hc i [] s5 _ H5 (fun _ _ => False) I5 (stat I5 n5) st5 go
      refine thnF ti fun r s6 ⟨u, hr, h6⟩ => ?_
      subst hr
      refine thnF h6 fun _ s7 ⟨x, H7, I7, r7, y7, st7, n7⟩ => ?_
      have I7' := I7.pinned (stat I7 n7) (T.obj _ _ st7)
      refine thnF (pg _ s7 _ H7 x u _ I7' r7 (step x H7 y7)) fun _ s8 ⟨σ8, H8, I8, hw8, q8⟩ => ?_
      refine thnF (pt _ s8 σ8 H8 _ I8 q8) fun b s9 ⟨H9, I9, q9⟩ => ?_
      -- the turn's end
      have fin : ∀ {s' : Shared} {H' : Hp}, Inv (X.blk s3 H3 scope ce fp) ([] ++ pinsAt fp s7.heap) σ8 H' s' → Nx H' → ∃ m, m < n ∧ ∃ i H', Inv (X.blk s3 H3 scope ce fp) [] (wipe σ (own.map (·.2))) H' s' ∧ tn i s'.heap ∧ (∀ b ∈ fp, H' b = none) ∧ W i m H' := fun {s' H'} I' nx => by
        obtain ⟨m', hm, w'⟩ := hNx H' nx
        have pin' : ∀ b ∈ fp, ∀ o, s7.heap.get? b = some o → s'.heap.get? b = some o ∧ H' b = none := fun b hb o e =>
          let z := I'.pin (b, o) (List.mem_append_right _ (List.mem_append_right _ (mem_pinsAt hb e)))
          ⟨z.1, z.2.1⟩
        have hl : (wipe σ (own.map (·.2))).length = σ8.length := by rw [← hw8, wipe_length]
        refine ⟨m', hm, i + 1, H', (I'.unpinned (pins := [])).weak hl (fun j v e => ?_), T.keep _ _ _ st7 fun b hb o e => (pin' b hb o e).1, fun b hb => ?_, w'⟩
        · rw [← hw8] at e
          exact (wipe_some e).1
        · obtain ⟨o, e, _⟩ := T.obj _ _ st7 b hb
          exact (pin' b hb o e).2
      cases b with
      | false =>
        simp only [Bool.false_eq_true, if_false] at q9 ⊢
        exact fin I9 q9
      | true =>
        simp only [if_true] at q9 ⊢
        refine thnF (pe _ s9 σ8 H9 _ I9 q9) fun z s10 ⟨yv, H10, I10, r10, acc, hD10, hz10, nx⟩ => ?_
        exact app_ok (X := X.blk s3 H3 scope ce fp) I10 hD10 hz10 r10 fun s11 I11 => fin I11 nx
  exact codeAny_compStart_list loop (T.self X.A 0 _ _ _ st4 loop)
/-- as a value -/
theorem pe_lc {elt tg iter : Expr} {ifs : List Expr} {scope : Scope} {own : List (Str × Nat)} {pos : Pos} {wi : TI} {g : TG} {tt : TT} {te : TE} (hc : X.calm = true) (hN : X.N.Nodup) (hi : PI X tg iter wi) (ok : BlkOk X.N X.env.scope scope own)
    (hg : ∀ (s : Shared) (H : Hp) (C : Addr) (cl : List (Str × Addr)) (fp : List Addr), PG (X.blk s H scope (compEnvC scope cl C X.env) fp) tg g) (ht : ∀ (s : Shared) (H : Hp) (C : Addr) (cl : List (Str × Addr)) (fp : List Addr), PTs (X.blk s H scope (compEnvC scope cl C X.env) fp) ifs tt)
    (he : ∀ (s : Shared) (H : Hp) (C : Addr) (cl : List (Str × Addr)) (fp : List Addr), PE (X.blk s H scope (compEnvC scope cl C X.env) fp) elt te) (hs : ∀ x, foldedSetIterable iter X.env x = pure x := by intro _; rfl) :
    PE X (.ListComp elt [⟨tg, iter, ifs, 0⟩] scope pos) (tLc wi g tt te (own.map (·.2))) := by
  intro pins s σ H Q I h
  rw [eval_ListComp]
  refine lc_core hc hN I hi ok hg ht he hs h fun D C s' m H' I' q hn f => ⟨m, hn, fun h'' sb => ?_⟩
  obtain ⟨f0, f1, f2, f3, f4, f5⟩ := f
  exact ⟨.ref D, H', I'.turned (t' := s'.toks) (fun b o hb e => (sb.2 b hb).trans e) f0 f1 f3 f4 f5, rfl, q⟩
/-- name = [..] on one line, the name a local -/
theorem ps_setLc {i : Nat} {y : Str} {py : Pos} {elt tg iter : Expr} {ifs : List Expr} {scope : Scope} {own : List (Str × Nat)} {pos spos : Pos} {wi : TI} {g : TG} {tt : TT} {te : TE} (hc : X.calm = true) (hN : X.N.Nodup) (hy : X.N[i]? = some y) (hyl : X.env.scope.names.lookup y = some .local)
    (hsw : swapsWith (.ListComp elt [⟨tg, iter, ifs, 0⟩] scope pos) (some (.Name y py)) spos.line X.env = pure true) (hi : PI X tg iter wi) (ok : BlkOk X.N X.env.scope scope own)
    (hg : ∀ (s : Shared) (H : Hp) (C : Addr) (cl : List (Str × Addr)) (fp : List Addr), PG (X.blk s H scope (compEnvC scope cl C X.env) fp) tg g) (ht : ∀ (s : Shared) (H : Hp) (C : Addr) (cl : List (Str × Addr)) (fp : List Addr), PTs (X.blk s H scope (compEnvC scope cl C X.env) fp) ifs tt)
    (he : ∀ (s : Shared) (H : Hp) (C : Addr) (cl : List (Str × Addr)) (fp : List Addr), PE (X.blk s H scope (compEnvC scope cl C X.env) fp) elt te) (hs : ∀ x, foldedSetIterable iter X.env x = pure x := by intro _; rfl) :
    PS X (.Assign [.Name y py] (.ListComp elt [⟨tg, iter, ifs, 0⟩] scope pos) spos) (tAsg (tLc wi g tt te (own.map (·.2))) (gName i)) := by
  intro pins s σ H D I h
  rw [exec_Assign_Name_used _ _ _ _ hsw]
  refine wpAny_bind (wpAny_standAt (wpAny_bind ?_))
  show wpAny _ X.A (do let _ ← comprehension (.ListComp elt [⟨tg, iter, ifs, 0⟩] scope pos) scope X.env (firstIterPos [⟨tg, iter, ifs, 0⟩] pos) (newList []) false (eval iter X.env) (some (assign (.Name y py) X.env))) _ _ s
  have h : tLc wi g tt te (own.map (·.2)) σ H (fun x H1 => gName i x σ H1 D.nx) := h
  refine wpAny_bind (thn (lc_core (Qf := fun _ s' => SP X pins D .next s') hc hN I hi ok hg ht he hs h fun L C s' m H' I' q hn f => ?_) fun _ s' hq => wpAny_pure (wpAny_pure hq))
  show wpAny _ _ (assign (.Name y py) X.env (.ref L)) _ _ _
  refine wpAny_assign_Name (store_ok2 (v := V.ref L) I' hN hy (.inl hyl) rfl (fun s2 I2 ⟨a, sb, ha⟩ => ?_) (.inr hyl))
  obtain ⟨f0, f1, f2, f3, f4, f5⟩ := f
  have haC : C ≠ a := by
    rcases ha with z | z
    · rw [z]; exact f1
    · exact fun e => f4 y a z e.symm
  refine ⟨m, hn.sameBut sb haC, fun h3 sb3 => ?_⟩
  exact ⟨_, H', I2.turned (t' := s2.toks) (fun b o hb e => (sb3.2 b hb).trans e) f0 f1 f3 f4 f5, q⟩
theorem sw_true {elt : Expr} {gs : List Comprehension} {scope : Scope} {pos py : Pos} {y : Str} {l : Nat} {env : Env} (hk : env.scope.kind = .function) (hy : env.scope.names.lookup y = some .local) (hl : (py.line == pos.line) = true)
    (ha : (scope.names.any fun (n, k) => n == y && (k == .local || k == .cell)) = false) : swapsWith (.ListComp elt gs scope pos) (some (.Name y py)) l env = pure true := by
  have ky : env.kindOf y = some .local := hy
  have hb : env.blockKind = .function := by unfold Env.blockKind; rw [hk]; rfl
  unfold swapsWith
  simp only [hb, ky, ha, Expr.pos, hl]
  rfl
end
/-- over a range: Pv by the turn and the heap (the new list at D within) -/
theorem lc_range {lo : Int} {n : Nat} {g : TG} {tt : TT} {te : TE} {vs : List Nat} {σ : St} {H1 : Hp} {D : Addr} {Qd : Hp → Prop} (Pv : Nat → Hp → Prop) (h0 : Pv 0 (upd H1 D (.lst [])))
    (hs : ∀ i H, i < n → Pv i H → g (.int (lo + i)) (wipe σ vs) H fun σ2 H2 => wipe σ2 vs = wipe σ vs ∧ tt σ2 H2 fun b H3 =>
      if b = true then te σ2 H3 fun y H4 => ∃ acc, H4 D = some (.lst acc) ∧ acc.length < sizeLine ∧ Pv (i + 1) (upd H4 D (.lst (acc ++ [y]))) else Pv (i + 1) H3) (hd : ∀ H, Pv n H → Qd H) :
    ∃ W : Nat → Nat → Hp → Prop, (∃ m, W 0 m (upd H1 D (.lst []))) ∧ ∀ i m H, W i m H →
      ((Itr lo n).stop i H ∧ Qd H) ∨ ((Itr lo n).go i H ∧ ∃ Nx : Hp → Prop, (∀ H', Nx H' → ∃ m', m' < m ∧ W (i + 1) m' H') ∧ ∀ x H', (Itr lo n).yld i H x H' → g x (wipe σ vs) H' fun σ2 H2 => wipe σ2 vs = wipe σ vs ∧ tt σ2 H2 fun b H3 =>
        if b = true then te σ2 H3 fun y H4 => ∃ acc, H4 D = some (.lst acc) ∧ acc.length < sizeLine ∧ Nx (upd H4 D (.lst (acc ++ [y]))) else Nx H3) := by
  refine ⟨fun i m H => m = n - i ∧ i ≤ n ∧ Pv i H, ⟨n, by simp, Nat.zero_le _, h0⟩, ?_⟩
  rintro i m H ⟨rfl, hi, p⟩
  by_cases hlt : i < n
  · refine .inr ⟨hlt, Pv (i + 1), fun H' p' => ⟨n - (i + 1), by omega, rfl, hlt, p'⟩, fun x H' y => ?_⟩
    obtain ⟨e, y⟩ := y
    subst e y
    exact hs i _ hlt p
  · have e : i = n := by omega
    subst e
    exact .inl ⟨Nat.le_refl _, hd H p⟩
/-- over a list that the block leaves as it is -/
theorem lc_list {K : PySem.W.Frag} {a : Addr} {xs : List V} {g : TG} {tt : TT} {te : TE} {vs : List Nat} {σ : St} {H1 : Hp} {D : Addr} {Qd : Hp → Prop} (Pv : Nat → Hp → Prop) (h0 : Pv 0 (upd H1 D (.lst []))) (hl : ∀ i H, i ≤ xs.length → Pv i H → SqL K H a xs)
    (hs : ∀ i x H, xs[i]? = some x → Pv i H → g x (wipe σ vs) H fun σ2 H2 => wipe σ2 vs = wipe σ vs ∧ tt σ2 H2 fun b H3 =>
      if b = true then te σ2 H3 fun y H4 => ∃ acc, H4 D = some (.lst acc) ∧ acc.length < sizeLine ∧ Pv (i + 1) (upd H4 D (.lst (acc ++ [y]))) else Pv (i + 1) H3) (hd : ∀ H, Pv xs.length H → Qd H) :
    ∃ W : Nat → Nat → Hp → Prop, (∃ m, W 0 m (upd H1 D (.lst []))) ∧ ∀ i m H, W i m H →
      ((Itl K a).stop i H ∧ Qd H) ∨ ((Itl K a).go i H ∧ ∃ Nx : Hp → Prop, (∀ H', Nx H' → ∃ m', m' < m ∧ W (i + 1) m' H') ∧ ∀ x H', (Itl K a).yld i H x H' → g x (wipe σ vs) H' fun σ2 H2 => wipe σ2 vs = wipe σ vs ∧ tt σ2 H2 fun b H3 =>
        if b = true then te σ2 H3 fun y H4 => ∃ acc, H4 D = some (.lst acc) ∧ acc.length < sizeLine ∧ Nx (upd H4 D (.lst (acc ++ [y]))) else Nx H3) := by
  refine ⟨fun i m H => m = xs.length - i ∧ i ≤ xs.length ∧ Pv i H, ⟨xs.length, by simp, Nat.zero_le _, h0⟩, ?_⟩
  rintro i m H ⟨rfl, hi, p⟩
  have q := hl i H hi p
  by_cases hlt : i < xs.length
  · refine .inr ⟨⟨xs, xs[i], q, by simp [hlt]⟩, Pv (i + 1), fun H' p' => ⟨xs.length - (i + 1), by omega, rfl, hlt, p'⟩, fun x H' y => ?_⟩
    obtain ⟨e, y⟩ := y
    subst e
    exact hs i x _ (y xs q) p
  · have e : i = xs.length := by omega
    subst e
    exact .inl ⟨⟨xs, q, Nat.le_refl _⟩, hd H p⟩
def blkC (N : List Str) (sc scope : Scope) (own : List (Str × Nat)) : Bool :=
  (match scope.kind with | .function => true | _ => false) && (scope.names.all fun y => decide (scope.names.lookup y.1 = some y.2)) && (own.all fun p => decide (N[p.2]? = some p.1)) &&
    (scope.names.all fun y => match y.2 with
      | .free => (match sc.names.lookup y.1 with | some .cell => true | some .free => true | _ => false)
      | .local => decide (y.1 ∈ own.map (·.1)) || decide (y.1 ∉ N)
      | .cell => decide (y.1 ∈ own.map (·.1)) || decide (y.1 ∉ N)
      | _ => true)
theorem blkOk_by {N : List Str} {sc scope : Scope} {own : List (Str × Nat)} (h : blkC N sc scope own = true) : BlkOk N sc scope own := by
  unfold blkC at h
  simp only [Bool.and_eq_true, List.all_eq_true, decide_eq_true_eq] at h
  obtain ⟨⟨⟨h1, h2⟩, h3⟩, h4⟩ := h
  refine ⟨?_, h2, h3, fun y hy e => ?_, fun y hy e => ?_⟩
  · split at h1
    · assumption
    · cases h1
  · have q := h4 y hy
    simp only [e] at q
    split at q <;> first | exact .inl (by assumption) | exact .inr (by assumption) | cases q
  · have q := h4 y hy
    rcases e with e | e <;> (simp only [e, Bool.or_eq_true, decide_eq_true_eq] at q; exact q)
end L2
namespace L2
open PySem PySem.Spec PyProof.Rows
section
variable {prog : Program} {w : World} {A : Around} {R : Result → Shared → Prop} {s : Shared} {elt t0 i0 t1 i1 : Expr} {ifs0 ifs1 : List Expr} {scope : Scope} {pos : Pos} {it acc : Value} {env : Env}
end
section
variable {X : Cx}
end
end L2
namespace L2
open PySem PySem.Spec PyProof.Rows
section
variable {κ : Type} [DecidableEq κ]
end
section
variable {P : Program} {w : World} {H : Hp} {h : Heap} {a : Addr}
end
section
variable {X : Cx} {pins : List (Addr × Obj)} {σ : St} {H : Hp} {s : Shared} {a : Addr} {y v : V} {u r : Value} {o : Option V} {A : Around} {E : Value → Shared → Prop}
end
section
variable {X : Cx} {pins : List (Addr × Obj)} {σ : St} {H : Hp} {s : Shared} {a : Addr} {kvs : List (Key × V)} {k : Key} {u : Value} {A : Around} {E : Value → Shared → Prop}
end
section
variable {X : Cx} {o i e value : Expr} {pos pos' tpos : Pos} {td ty tv : TE}
end
section
variable {X : Cx} {pos : Pos}
end
section
variable {X : Cx} {pins : List (Addr × Obj)} {σ : St} {H : Hp} {s : Shared} {a : Addr} {y d : V} {u r : Value} {o : Option V} {A : Around} {E : Value → Shared → Prop}
end
section
variable {X : Cx} {o e f : Expr} {apos cpos : Pos} {td ty tx : TE}
end
section
variable {X : Cx} {pins : List (Addr × Obj)} {σ : St} {H : Hp} {s : Shared} {a : Addr} {kvs : List (Key × V)} {A : Around} {E : Value → Shared → Prop}
end
section
variable {X : Cx} {pins : List (Addr × Obj)} {σ : St} {H : Hp} {s : Shared} {a : Addr} {y : V} {u : Value} {A : Around} {E : Value → Shared → Prop}
end
end L2
namespace L2
open PySem PySem.Spec PyProof.Rows
section
variable {prog : Program} {w : World} {A : Around} {E : Value → Shared → Prop}
end
section
variable {X : Cx}
end
end L2
namespace L2
open PySem PySem.Spec PyProof.Rows
section
variable {X : Cx} {pins : List (Addr × Obj)} {σ : St} {H : Hp} {s : Shared} {h' : Heap}
/-- several records of ours have turned -/
theorem Inv.turnedL {t' : Nat} {ch : List Addr} (I : Inv X pins σ H s) (k : ∀ b o, b ∉ ch → s.heap.get? b = some o → h'.get? b = some o) (hf : ∀ b ∈ ch, FpOk X pins H b) : Inv X pins σ H { s with heap := h', toks := t' } := by
  have nit : ∀ b u, H b = some u → b ∉ ch := fun b u e z => by
    have q := (hf b z).1
    rw [q] at e; cases e
  refine I.step (g' := s.gens) (d' := s.drawn) (ch := ch) (fun b hb => ⟨(hf b hb).2.2.2.1, (hf b hb).2.1, (hf b hb).2.2.2.2.1, (hf b hb).2.2.2.2.2⟩) (fun b o _ _ hc e _ => k b o hc e) (fun b o _ _ hc e _ => ⟨o.slots, k b o hc e⟩)
    (fun _ _ _ _ n => n) (fun b o hc e => ⟨o, k b o hc e⟩) (fun _ _ e => e) (fun _ _ _ e => e) (fun b ps e => ⟨#[], by rw [e]; simp⟩) (fun m hm => ?_) (fun b u e => ?_) I.bare
  · obtain ⟨o, es, ep, ho, r⟩ := hm
    exact ⟨o, es, ep, k _ o (fun z => (hf _ z).2.1 rfl) ho, r⟩
  · refine (I.hok b u e).stay (fun c v hc q => k c v ?_ q) (fun _ q => q) fun _ _ q => q
    rcases hc with z | z
    · rw [z]; exact nit b u e
    · exact nit c _ z
/-- .. and one new object is laid -/
theorem Inv.turnedNew {t' : Nat} {ch : List Addr} {T : Addr} {ob : HO} (I : Inv X pins σ H s) (k : ∀ b o, b ∉ ch → s.heap.get? b = some o → h'.get? b = some o) (hf : ∀ b ∈ ch, FpOk X pins H b) (hT : s.heap.objs.size ≤ T)
    (new : ObjOk X.prog X.w (upd H T ob) h' T ob) : Inv X pins σ (upd H T ob) { s with heap := h', toks := t' } := by
  have hn : H T = none := I.hok.fresh hT
  have nit : ∀ b u, H b = some u → b ∉ ch := fun b u e z => by
    have q := (hf b z).1
    rw [q] at e; cases e
  refine I.step (g' := s.gens) (d' := s.drawn) (ch := ch) (fun b hb => ⟨(hf b hb).2.2.2.1, (hf b hb).2.1, (hf b hb).2.2.2.2.1, (hf b hb).2.2.2.2.2⟩) (fun b o _ _ hc e _ => k b o hc e) (fun b o _ _ hc e _ => ⟨o.slots, k b o hc e⟩)
    (fun b o _ e n => ?_) (fun b o hc e => ⟨o, k b o hc e⟩) (fun b xs e => ?_) (fun b o u e => ?_) (fun b ps e => ⟨#[], ?_⟩) (fun m hm => ?_) (fun b u e => ?_) I.bare
  · rw [upd_ne (Nat.ne_of_lt (Nat.lt_of_lt_of_le (Heap.lt_size e) hT))]; exact n
  · rw [upd_ne (ne_of_none e hn)]; exact e
  · rw [upd_ne (ne_of_none e hn)]; exact e
  · rw [upd_ne (ne_of_none e hn), e]; simp
  · obtain ⟨o, es, ep, ho, r⟩ := hm
    exact ⟨o, es, ep, k _ o (fun z => (hf _ z).2.1 rfl) ho, r⟩
  · by_cases hb : b = T
    · subst hb
      rw [upd_same] at e
      cases e
      exact new
    · rw [upd_ne hb] at e
      refine (I.hok b u e).stay (fun c v hc q => k c v ?_ q) (fun c q => by rw [upd_ne (ne_of_none q hn)]; exact q) fun c xs q => by rw [upd_ne (ne_of_none q hn)]; exact q
      rcases hc with z | z
      · rw [z]; exact nit b u e
      · exact nit c _ z
theorem Inv.lock {d : Addr} {u : HO} (I : Inv X pins σ H s) (h : H d = some u) (mu : Mut (some u)) : ∃ od, Inv X pins σ (upd H d (.frz od u)) s := by
  have x := I.hok d u h
  have ex : ∃ od, s.heap.get? d = some od := by
    cases u with
    | lst xs => obtain ⟨_, _, _, _, e⟩ := x; exact ⟨_, e⟩
    | dK kvs => obtain ⟨_, _, _, _, o, _, _, e, _⟩ := x; exact ⟨o, e⟩
    | dT kvs => obtain ⟨_, _, _, _, o, _, _, e, _⟩ := x; exact ⟨o, e⟩
    | set S n => obtain ⟨o, _, _, _, e, _⟩ := x; exact ⟨o, e⟩
    | ins C dx fs => obtain ⟨_, _, _, e, _⟩ := x; exact ⟨_, e⟩
    | ext φ => obtain ⟨_, ⟨_, e⟩, _⟩ := x; exact ⟨_, e⟩
    | _ => exact False.elim mu
  obtain ⟨od, e⟩ := ex
  have new : ObjOk X.prog X.w (upd H d (.frz od u)) s.heap d (.frz od u) := by
    refine ⟨e, x.stay (fun b v _ q => q) (fun b q => ?_) fun b xs q => ?_⟩
    · rw [upd_ne (fun z => by rw [z, h] at q; cases q; exact mu)]; exact q
    · rw [upd_ne (fun z => by rw [z, h] at q; cases q; exact mu)]; exact q
  exact ⟨od, I.write (x := d) (e := d) (t' := s.toks) (h' := s.heap) (by rw [h]; exact mu) (.inl rfl) (fun b v _ q => q) ⟨od, e⟩ new⟩
theorem Inv.nofrz {d : Addr} {u : HO} (I : Inv X pins σ H s) (h : H d = some u) (mu : Mut (some u)) : ∀ o' u', X.H_0 d ≠ some (.frz o' u') := fun o' u' e => by
  have q := I.base.frzs d o' u' e
  rw [h] at q
  cases q
  exact mu
theorem Inv.unlock {d : Addr} {od : Obj} {u : HO} (I : Inv X pins σ H s) (h : H d = some (.frz od u)) (hn : ∀ o' u', X.H_0 d ≠ some (.frz o' u')) : Inv X pins σ (upd H d u) s := by
  have neH : ∀ b o, H b = some o → (∀ o' u', o ≠ .frz o' u') → b ≠ d := fun b o e hne z => by
    rw [z, h] at e
    cases e
    exact hne _ _ rfl
  have neN : ∀ b, H b = none → b ≠ d := fun b e z => by rw [z, h] at e; cases e
  refine ⟨I.ok, I.os, I.bare, ⟨I.base.keep, I.base.slot, fun b o e n hx => ?_, I.base.there, fun b xs e => ?_, fun b o x e => ?_, fun b ps e => ?_⟩, I.loc, I.cell, ?_, fun x c e => ?_, fun p hp => ?_, fun b o e => ?_, I.len⟩
  · rw [upd_ne (neN b (I.base.free b o e n hx))]; exact I.base.free b o e n hx
  · have q := I.base.tups b xs e
    rw [upd_ne (neH b _ q (fun _ _ z => nomatch z))]; exact q
  · have q := I.base.frzs b o x e
    rw [upd_ne (fun z => by rw [z] at e; exact hn _ _ e)]; exact q
  · obtain ⟨m, q⟩ := I.base.tbls b ps e
    exact ⟨m, by rw [upd_ne (neH b _ q (fun _ _ z => nomatch z))]; exact q⟩
  · rw [upd_ne (neN _ I.free)]; exact I.free
  · rw [upd_ne (neN c (I.freeC x c e))]; exact I.freeC x c e
  · obtain ⟨e, n, r⟩ := I.pin p hp
    exact ⟨e, by rw [upd_ne (neN _ n)]; exact n, r⟩
  · by_cases hb : b = d
    · rw [hb, upd_same] at e
      cases e
      rw [hb]
      obtain ⟨_, x⟩ := I.hok d _ h
      exact x.stay (fun c v _ q => q) (fun c q => by rw [upd_ne (neH c _ q (fun _ _ z => nomatch z))]; exact q) fun c xs q => by rw [upd_ne (neH c _ q (fun _ _ z => nomatch z))]; exact q
    · rw [upd_ne hb] at e
      exact (I.hok b o e).stay (fun c v _ q => q) (fun c q => by rw [upd_ne (neH c _ q (fun _ _ z => nomatch z))]; exact q) fun c xs q => by rw [upd_ne (neH c _ q (fun _ _ z => nomatch z))]; exact q
end
def tLockE (t : TE) : TE := fun σ H Q => ∃ d u, H d = some u ∧ Mut (some u) ∧ ∀ od, t σ (upd H d (.frz od u)) fun v H' => H' d = some (.frz od u) ∧ Q v (upd H' d u)
section
variable {X : Cx}
theorem pe_lock {e : Expr} {t : TE} (h : PE X e t) : PE X e (tLockE t) := by
  intro pins s σ H Q I hw
  obtain ⟨d, u, hd, mu, hw⟩ := hw
  obtain ⟨od, I1⟩ := I.lock hd mu
  refine thn (h pins s σ _ _ I1 (hw od)) fun v s1 ⟨x, H1, I2, r, e2, q⟩ => ?_
  exact ⟨x, _, I2.unlock e2 (I.nofrz hd mu), r, q⟩
end
section
variable {X : Cx} {tg : Expr}
end
section
variable {X : Cx} {tg : Expr}
end
section
variable {prog : Program} {w : World} {A : Around} {E : Value → Shared → Prop} {s : Shared}
end
section
variable {X : Cx} {pins : List (Addr × Obj)} {σ : St} {H : Hp} {s : Shared} {d : Addr} {o : Obj}
end
section
variable {P : Program} {w : World} {K : PySem.W.Frag} {tg : Expr} {d : Addr} {o : Obj} {es : Array DictEntry} {ep : Nat}
end
section
variable {X : Cx} {tg e : Expr} {td : TE} {apos cpos : Pos}
end
/-- the list at a as it stands at each turn, each item in a new pair -/
def Ite (K : PySem.W.Frag) (a : Addr) : It :=
  ⟨fun i H => ∃ (xs : List V) (x : V), SqL K H a xs ∧ xs[i]? = some x, fun i H v H' => ∃ T x, v = .ref T ∧ H T = none ∧ H' = upd H T (.tup [.int (i : Nat), x]) ∧ ∀ xs, SqL K H a xs → xs[i]? = some x, fun i H => ∃ xs : List V, SqL K H a xs ∧ xs.length ≤ i⟩
theorem turn_enum {P : Program} {w : World} {K : PySem.W.Frag} {elts : List Expr} {kk : Nat} {tpos : Pos} (a e it : Addr) :
    Turn P w K (.Tuple elts kk tpos) (Ite K a) [e, it] e (fun i h => (∃ old, IsEnum h e it ((i : Nat) : Int) old) ∧ h.IsListIter it a i ∧ e ≠ it) where
  mem := by simp
  obj := fun i h st b hb => by
    obtain ⟨⟨old, he⟩, ⟨o, ho, hc, hd⟩, _⟩ := st
    have e' : b = e ∨ b = it := by simpa using hb
    rcases e' with z | z
    · rw [z]; exact ⟨_, he, fun v q => nomatch q⟩
    · rw [z]; exact ⟨o, ho, fun v q => by rw [hd] at q; cases q⟩
  keep := fun i h h' st k => let ⟨⟨old, he⟩, hi, hne⟩ := st; ⟨⟨old, k e (by simp) _ he⟩, hi.at fun o q => k it (by simp) o q, hne⟩
  item := by
    intro X hP hw hK hc i pins s σ H E I hf st hg
    subst hP hw hK
    obtain ⟨⟨old, he⟩, hit, hne⟩ := st
    obtain ⟨xs, x, hq, hx⟩ := hg
    obtain ⟨its, rv, p, hz⟩ := I.list hq
    obtain ⟨u, hu, ru⟩ := rv.get hx
    have hel : e < s.heap.objs.size := Heap.lt_size he
    have hil : it < s.heap.objs.size := by obtain ⟨_, q, _⟩ := hit; exact Heap.lt_size q
    refine wpAny_pyNext_enum_item he hit p.isList (x := u) (by simpa using hu) hne fun h' ho hit' hT hsz hk => ?_
    refine ⟨_, rfl, wpAny_letOwnedTupleGo_enum (s := { s with heap := h', toks := s.toks + 1 }) ho fun h'' he' sb => ?_⟩
    have hT2 : h''.get? s.heap.objs.size = some { cls := .type "tuple", data := .seq #[.int i s.toks, u] } := (sb.2 _ (Nat.ne_of_gt hel)).trans hT
    have new : ObjOk X.prog X.w (upd H s.heap.objs.size (.tup [.int (i : Nat), x])) h'' s.heap.objs.size (.tup [.int (i : Nat), x]) :=
      ⟨by show 2 ≤ sizeLine; decide, [.int i s.toks, u], .cons ⟨_, rfl⟩ (.cons ru .nil), ⟨_, hT2, rfl, _, rfl⟩⟩
    have I1 : Inv X pins σ (upd H s.heap.objs.size (.tup [.int (i : Nat), x])) { s with heap := h'', toks := s.toks + 1 } :=
      I.turnedNew (ch := [e, it]) (fun b ob hb q => (sb.2 b (fun z => hb (by simp [z]))).trans (hk b ob (fun z => hb (by simp [z])) (fun z => hb (by simp [z])) q)) hf (Nat.le_refl _) new
    refine ⟨.ref s.heap.objs.size, _, I1, rfl, ⟨_, x, rfl, I.hok.fresh (Nat.le_refl _), rfl, fun ys hy => by rw [I.list_inj hy hq]; exact hx⟩, ⟨⟨u, ?_⟩, hit'.at fun o q => (sb.2 it (Ne.symm hne)).trans q, hne⟩, fun b hb => ?_⟩
    · have e1 : ((i + 1 : Nat) : Int) = (i : Int) + 1 := by omega
      rw [e1]; exact he'
    · have hb' : b < s.heap.objs.size := by
        have e' : b = e ∨ b = it := by simpa using hb
        rcases e' with z | z
        · rw [z]; exact hel
        · rw [z]; exact hil
      rw [upd_ne (Nat.ne_of_lt hb')]
      exact (hf b hb).1
  done := by
    intro X hP hw hK hc i pins s σ H E I hf st hg
    subst hP hw hK
    obtain ⟨⟨old, he⟩, hit, hne⟩ := st
    obtain ⟨xs, hq, hx⟩ := hg
    obtain ⟨its, rv, p, hz⟩ := I.list hq
    obtain ⟨f0, f1, f2, f3, f4, f5⟩ := hf it (by simp)
    have hl := rv.length
    exact wpAny_pyNext_enum_end (I.ok.hd hc) he hit p.isList (by simp; omega) fun h' eb => ⟨rfl, I.turned (t' := s.toks) (fun b o hb q => eb b o hb q) f0 f1 f3 f4 f5⟩
  self := fun A i s Q E st h => let ⟨⟨_, he⟩, _⟩ := st; wpAny_pyIter_enum he h
def iEnum (K : PySem.W.Frag) (ta : TA) : TI := fun σ H R => ta σ H fun vs H1 => ∃ a xs, vs = [.ref a] ∧ SqL K H1 a xs ∧ R (Ite K a) H1
theorem pi_enum {X : Cx} {e : Expr} {ta : TA} {p pos tpos : Pos} {elts : List Expr} {kk : Nat} (hg : Gl X "enumerate") (hm : X.mg "enumerate" = none) (ha : PA X [e] ta) (hs : starEach [e] X.env = [(false, eval e X.env)] := by rfl) :
    PI X (.Tuple elts kk tpos) (.Call (.Name "enumerate" p) [e] [] pos) (iEnum X.K ta) := by
  intro pins s σ H R I h
  refine Call_ (ld_blt I hg hm boot_enumerate (PyProof.Rows.callWith_type1 (thn (ha pos pins s σ H _ I h) fun us s1 ⟨vs, H1, I1, r1, q1⟩ => ?_) hs rfl))
  obtain ⟨a, xs, ex, hq, q⟩ := q1
  subst ex
  cases r1 with
  | cons r rr =>
    cases rr
    cases r
    obtain ⟨its, rv, p', hz⟩ := I1.list hq
    refine call_enumerate_list p'.isList fun h' he hit hsz hk => wpAny_pyIter_enum he ?_
    have I2 : Inv X pins σ H1 { s1 with heap := h' } := I1.kept (t' := s1.toks) hk
    refine ⟨s1.heap.objs.size + 1, [s1.heap.objs.size + 1, s1.heap.objs.size], _, _, H1, rfl, I2, turn_enum a (s1.heap.objs.size + 1) s1.heap.objs.size, ⟨⟨.none, he⟩, hit, Nat.succ_ne_self _⟩, fun b hb => ?_, q⟩
    have e' : b = s1.heap.objs.size + 1 ∨ b = s1.heap.objs.size := by simpa using hb
    have hle : s1.heap.objs.size ≤ b := by
      rcases e' with z | z
      · rw [z]; exact Nat.le_add_right _ _
      · rw [z]; exact Nat.le_refl _
    exact I1.fpOk hle (I1.hok.fresh hle)
theorem boot_zip5 : bootBuiltins "zip" = some (.type "zip") := by decide +kernel
/-- the lists at a and b as they stand at each turn, the items in new pairs -/
def Itz (K : PySem.W.Frag) (a b : Addr) : It :=
  ⟨fun i H => ∃ (xs ys : List V) (x y : V), SqL K H a xs ∧ SqL K H b ys ∧ xs[i]? = some x ∧ ys[i]? = some y,
    fun i H v H' => ∃ T x y, v = .ref T ∧ H T = none ∧ H' = upd H T (.tup [x, y]) ∧ (∀ xs, SqL K H a xs → xs[i]? = some x) ∧ ∀ ys, SqL K H b ys → ys[i]? = some y,
    fun i H => ∃ xs ys : List V, SqL K H a xs ∧ SqL K H b ys ∧ (xs.length ≤ i ∨ ys.length ≤ i)⟩
theorem turn_zip {P : Program} {w : World} {K : PySem.W.Frag} {elts : List Expr} {kk : Nat} {tpos : Pos} {a b z TI TO i1 i2 : Addr} (D : ZipApart z TI TO i1 i2 a b) :
    Turn P w K (.Tuple elts kk tpos) (Itz K a b) [z, TI, TO, i1, i2] z (fun i h => IsZip h z TI TO .none ∧ IsPair h TI (.ref i1) (.ref i2) ∧ (∃ x y, IsPair h TO x y) ∧ h.IsListIter i1 a i ∧ h.IsListIter i2 b i) where
  mem := by simp
  obj := fun i h st c hc => by
    obtain ⟨hz, hTI, ⟨x, y, hTO⟩, ⟨o1, e1, _, d1⟩, ⟨o2, e2, _, d2⟩⟩ := st
    have e' : c = z ∨ c = TI ∨ c = TO ∨ c = i1 ∨ c = i2 := by simpa using hc
    rcases e' with q | q | q | q | q
    · rw [q]; exact ⟨_, hz, fun v q => nomatch q⟩
    · rw [q]; exact ⟨_, hTI, fun v q => nomatch q⟩
    · rw [q]; exact ⟨_, hTO, fun v q => nomatch q⟩
    · rw [q]; exact ⟨o1, e1, fun v q => by rw [d1] at q; cases q⟩
    · rw [q]; exact ⟨o2, e2, fun v q => by rw [d2] at q; cases q⟩
  keep := fun i h h' st k => by
    obtain ⟨hz, hTI, ⟨x, y, hTO⟩, h1, h2⟩ := st
    exact ⟨k z (by simp) _ hz, k TI (by simp) _ hTI, ⟨x, y, k TO (by simp) _ hTO⟩, h1.at fun o q => k i1 (by simp) o q, h2.at fun o q => k i2 (by simp) o q⟩
  item := by
    intro X hP hw hK hc i pins s σ H E I hf st hg
    subst hP hw hK
    obtain ⟨hz, hTI, ⟨x0, y0, hTO⟩, h1, h2⟩ := st
    obtain ⟨xs, ys, x, y, hqx, hqy, hx, hy⟩ := hg
    obtain ⟨its, rv, p, _⟩ := I.list hqx
    obtain ⟨its2, rv2, p2, _⟩ := I.list hqy
    obtain ⟨u, hu, ru⟩ := rv.get hx
    obtain ⟨u2, hu2, ru2⟩ := rv2.get hy
    have hzl : z < s.heap.objs.size := Heap.lt_size hz
    refine wpAny_pyNext_zip_item D hz hTI hTO h1 h2 p.isList p2.isList (x := u) (y := u2) (by simpa using hu) (by simpa using hu2) fun h' z' TO' h1' h2' hT hsz hk => ?_
    refine ⟨_, rfl, wpAny_letOwnedTupleGo_zip (s := { s with heap := h' }) z' fun h'' z'' sb => ?_⟩
    have hT2 : h''.get? s.heap.objs.size = some { cls := .type "tuple", data := .seq #[u, u2] } := (sb.2 _ (Nat.ne_of_gt hzl)).trans hT
    have new : ObjOk X.prog X.w (upd H s.heap.objs.size (.tup [x, y])) h'' s.heap.objs.size (.tup [x, y]) :=
      ⟨by show 2 ≤ sizeLine; decide, [u, u2], .cons ru (.cons ru2 .nil), ⟨_, hT2, rfl, _, rfl⟩⟩
    have I1 : Inv X pins σ (upd H s.heap.objs.size (.tup [x, y])) { s with heap := h'' } :=
      I.turnedNew (t' := s.toks) (ch := [z, TI, TO, i1, i2]) (fun c o hb q => (sb.2 c (fun q' => hb (by simp [q']))).trans (hk c o (fun q' => hb (by simp [q'])) (fun q' => hb (by simp [q'])) (fun q' => hb (by simp [q'])) (fun q' => hb (by simp [q'])) q)) hf (Nat.le_refl _) new
    refine ⟨.ref s.heap.objs.size, _, I1, rfl, ⟨_, x, y, rfl, I.hok.fresh (Nat.le_refl _), rfl, fun l hl => by rw [I.list_inj hl hqx]; exact hx, fun l hl => by rw [I.list_inj hl hqy]; exact hy⟩, ⟨z'', ?_, ⟨u, u2, ?_⟩, ?_, ?_⟩, fun c hcm => ?_⟩
    · exact (sb.2 _ D.TIz).trans (hk _ _ D.TIz D.TITO D.TIi1 D.TIi2 hTI)
    · exact (sb.2 _ D.TOz).trans TO'
    · exact h1'.at fun o q => (sb.2 _ D.i1z).trans q
    · exact h2'.at fun o q => (sb.2 _ D.i2z).trans q
    · have hlt : c < s.heap.objs.size := by
        have e' : c = z ∨ c = TI ∨ c = TO ∨ c = i1 ∨ c = i2 := by simpa using hcm
        rcases e' with q | q | q | q | q
        · rw [q]; exact hzl
        · rw [q]; exact Heap.lt_size hTI
        · rw [q]; exact Heap.lt_size hTO
        · rw [q]; obtain ⟨_, e1, _⟩ := h1; exact Heap.lt_size e1
        · rw [q]; obtain ⟨_, e2, _⟩ := h2; exact Heap.lt_size e2
      rw [upd_ne (Nat.ne_of_lt hlt)]
      exact (hf c hcm).1
  done := by
    intro X hP hw hK hc i pins s σ H E I hf st hg
    subst hP hw hK
    obtain ⟨hz, hTI, ⟨x0, y0, hTO⟩, h1, h2⟩ := st
    obtain ⟨xs, ys, hqx, hqy, hend⟩ := hg
    obtain ⟨its, rv, p, _⟩ := I.list hqx
    obtain ⟨its2, rv2, p2, _⟩ := I.list hqy
    have l1 := rv.length
    have l2 := rv2.length
    have he : its.toArray[i]? = none ∨ its2.toArray[i]? = none := by
      rcases hend with q | q
      · exact .inl (by simp; omega)
      · exact .inr (by simp; omega)
    exact wpAny_pyNext_zip_end (I.ok.hd hc) D hz hTI hTO h1 h2 p.isList p2.isList he fun h' hk => ⟨rfl, I.turnedL (t' := s.toks) (ch := [z, TI, TO, i1, i2]) (fun c o hb q =>
      hk c o (fun q' => hb (by simp [q'])) (fun q' => hb (by simp [q'])) (fun q' => hb (by simp [q'])) (fun q' => hb (by simp [q'])) q) hf⟩
  self := fun A i s Q E st h => wpAny_pyIter_zip st.1 h
def iZip (K : PySem.W.Frag) (ta : TA) : TI := fun σ H R => ta σ H fun vs H1 => ∃ a b xs ys, vs = [.ref a, .ref b] ∧ SqL K H1 a xs ∧ SqL K H1 b ys ∧ R (Itz K a b) H1
theorem pi_zip {X : Cx} {e e2 : Expr} {ta : TA} {p pos tpos : Pos} {elts : List Expr} {kk : Nat} (hg : Gl X "zip") (hm : X.mg "zip" = none) (ha : PA X [e, e2] ta)
    (hs : starEach [e, e2] X.env = (false, eval e X.env) :: starEach [e2] X.env := by rfl) (hpl : (backTo pos (starEach [e2] X.env)).any (·.1) = false := by rfl) :
    PI X (.Tuple elts kk tpos) (.Call (.Name "zip" p) [e, e2] [] pos) (iZip X.K ta) := by
  intro pins s σ H R I h
  refine Call_ (ld_blt I hg hm boot_zip5 (PyProof.Rows.callWith_type1 (thn (ha pos pins s σ H _ I h) fun us s1 ⟨vs, H1, I1, r1, q1⟩ => ?_) hs hpl))
  obtain ⟨a, b, xs, ys, ex, hqx, hqy, q⟩ := q1
  subst ex
  cases r1 with
  | cons r rr =>
    cases rr with
    | cons r' rr =>
      cases rr
      cases r
      cases r'
      obtain ⟨its, rv, p1, _⟩ := I1.list hqx
      obtain ⟨its2, rv2, p2, _⟩ := I1.list hqy
      have la : a < s1.heap.objs.size := p1.lt
      have lb : b < s1.heap.objs.size := p2.lt
      refine call_zip_2 p1.isList p2.isList fun h' hz hTI hTO h1 h2 hsz hk => wpAny_pyIter_zip hz ?_
      have I2 : Inv X pins σ H1 { s1 with heap := h' } := I1.kept (t' := s1.toks) hk
      refine ⟨s1.heap.objs.size + 4, [s1.heap.objs.size + 4, s1.heap.objs.size + 2, s1.heap.objs.size + 3, s1.heap.objs.size, s1.heap.objs.size + 1], _, _, H1, rfl, I2, turn_zip (PySem.W.ktu_apart s1.heap.objs.size a b la lb), ⟨hz, hTI, ⟨_, _, hTO⟩, h1, h2⟩, fun c hcm => ?_, q⟩
      have e' : c = s1.heap.objs.size + 4 ∨ c = s1.heap.objs.size + 2 ∨ c = s1.heap.objs.size + 3 ∨ c = s1.heap.objs.size ∨ c = s1.heap.objs.size + 1 := by simpa using hcm
      have hle : s1.heap.objs.size ≤ c := by
        rcases e' with z | z | z | z | z
        · rw [z]; exact Nat.le_add_right _ _
        · rw [z]; exact Nat.le_add_right _ _
        · rw [z]; exact Nat.le_add_right _ _
        · rw [z]; exact Nat.le_refl _
        · rw [z]; exact Nat.le_add_right _ _
      exact I1.fpOk hle (I1.hok.fresh hle)
end L2
section 
namespace Bits
open PySem PyProof.Rows
end Bits
end 
section 
namespace TL
open PySem PySem.Builtin PySem.Builtin.Str PySem.StrLaws
end TL
end 
namespace L2
open PySem PySem.Spec PyProof.Rows
section
variable {X : Cx} {pins : List (Addr × Obj)} {σ : St} {H : Hp} {s : Shared} {Q : VK}
end
section
variable {X : Cx}
end
section
variable {X : Cx} {o e : Expr} {to te : TE}
end
end L2
namespace L2
open PySem PySem.Spec PyProof.Rows
section
variable {X : Cx}
end
end L2
namespace Att
open PySem PySem.W PySem.Calls PyProof.Rows
section
variable {prog : Program} {w : World} {A : Around} {E : Value → Shared → Prop} {s : Shared} {K : Frag}
end
end Att
namespace L2
open PySem PySem.Spec PyProof.Rows
end L2
namespace L2
open PySem PySem.Spec PyProof.Rows
abbrev KOf {K : PySem.W.Frag} {h : Heap} (_ : K.In h) : PySem.W.Frag := K
end L2
namespace L2
open PySem PySem.Spec PyProof.Rows
/-- the j-th statement of a class's body -/
def inClass (s : Stmt) (j : Nat) : Stmt := match s with
  | .ClassDef _ _ _ body _ _ _ _ _ _ _ => body.getD j (.Pass ⟨0, 0, 0, 0⟩)
  | _ => .Pass ⟨0, 0, 0, 0⟩
def defArgs (s : Stmt) : Arguments := match s with
  | .FunctionDef _ a _ _ _ _ _ _ _ _ => a
  | _ => { posonlyargs := [], args := [], vararg := none, kwonlyargs := [], kw_defaults := [], kwarg := none, defaults := [] }
def defBody (s : Stmt) : List Stmt := match s with
  | .FunctionDef _ _ b _ _ _ _ _ _ _ => b
  | _ => []
def defScope (s : Stmt) : Scope := match s with
  | .FunctionDef _ _ _ _ _ _ sc _ _ _ => sc
  | _ => { kind := .function, names := [], isGenerator := false, isCoroutine := false }
abbrev CX0 : CXT := fun _ _ _ _ _ _ => False
abbrev E0 : XK := fun _ _ _ => False
theorem pass0 {X : Cx} : Passes CX0 X E0 := fun _ _ _ _ _ _ _ h => h.elim
structure Fun (K : PySem.W.Frag) (x qual : Str) (st : Stmt) (f : Addr) (fd : FuncData) : Prop where
  ex : ∃ (oc : Value) (od : Option Addr) (kV doc pm : Value) (an : Option Addr) (cdv ct : Value) (osl : Array (Option Value)),
    fd = PySem.W.fnOf x qual (defArgs st) (defBody st) (defScope st) .none kV doc pm an cdv ct ∧ K.lookup f = some ⟨oc, od, .func fd, osl⟩ ∧ PySem.W.codeIn K cdv qual = true
  kp : PySem.W.keepIn K (.ref f) = true
section
variable {P : Program} {w : World} {K : PySem.W.Frag} {mg : Str → Option Value} {base : Heap}
/-- THE RULE for a def: its body as a term of rules, and the reading of that term -/
theorem Fun.ok {x qual : Str} {st : Stmt} {f : Addr} {fd : FuncData} {N ps : List Str} {k : Nat} {sp : Sp} (F : Fun K x qual st f fd) (S : FnScope N ps (defScope st)) (len : ∀ vs H Q E, sp vs H Q E → vs.length = ps.length)
    (hbody : ∀ (cdv : Value) (A : Around) (outer : List Env) (s : Shared) (H : Hp) (vs : List V) (Q : VK) (E : XK), Room k (A.deeper (envOfC qual (defScope st) s.heap.objs.size f cdv)) → sp vs H Q E →
      ∃ t, PSs (cxOf CX0 P w K mg base N qual (defScope st) f cdv A outer s H E).nox (defBody st) t ∧ t { nx := fun _ H' => Q .non H', rt := Q } (start N vs) H) : FnOk P w K mg base CX0 (k + 1) f fd ps sp := by
  obtain ⟨oc, od, kV, doc, pm, an, cdv, ct, osl, rfl, lk, hcd⟩ := F.ex
  refine fn_of lk hcd S len fun A outer s H vs Q E hr hsp => ?_
  obtain ⟨t, h, q⟩ := hbody cdv A outer s H vs Q E hr hsp
  exact ⟨t, h.nox, q⟩
/-- how its arguments bind (no defaults): h is «fun _ _ _ _ _ _ us hl => match us, hl with | [_, _], _ => rfl», one _ a parameter -/
theorem Fun.binds {x qual : Str} {st : Stmt} {f : Addr} {fd : FuncData} {ps : List Str} (F : Fun K x qual st f fd)
    (h : ∀ (kV doc pm : Value) (an : Option Addr) (cdv ct : Value) (us : List Value), us.length = ps.length → bindArgs (PySem.W.fnOf x qual (defArgs st) (defBody st) (defScope st) .none kV doc pm an cdv ct) ⟨us, []⟩ = pure (ps.zip us)) : Binds K fd ps [] := by
  obtain ⟨oc, od, kV, doc, pm, an, cdv, ct, osl, rfl, lk, hcd⟩ := F.ex
  exact .all (h kV doc pm an cdv ct)
theorem fun_mk {x qual : Str} {st : Stmt} {f : Addr} {oc : Value} {od an : Option Addr} {osl : Array (Option Value)} {kV doc pm cdv ct : Value} (l : K.lookup f = some ⟨oc, od, .func (PySem.W.fnOf x qual (defArgs st) (defBody st) (defScope st) .none kV doc pm an cdv ct), osl⟩)
    (c : PySem.W.codeIn K cdv qual = true) (k : PySem.W.keepIn K (.ref f) = true) : Fun K x qual st f (PySem.W.fnOf x qual (defArgs st) (defBody st) (defScope st) .none kV doc pm an cdv ct) := ⟨⟨oc, od, kV, doc, pm, an, cdv, ct, osl, rfl, l, c⟩, k⟩
end
section
variable {X : Cx}
theorem pv (i : Nat) {x : Str} {pos : Pos} (hN : X.N[i]? = some x := by rfl) (hv : Vis X.env.scope x := by first | exact Or.inl rfl | exact Or.inr (Or.inl rfl) | exact Or.inr (Or.inr rfl)) (hd : (x == ("__debug__" : Str)) = false := by decide)
    (hcd : (x == ("__classdict__" : Str)) = false := by decide) : PE X (.Name x pos) (tVar i) := pe_var hN hv hd hcd
end
theorem ite2 {c A B : Prop} [Decidable c] (h1 : c → A) (h2 : ¬ c → B) : if c then A else B := by
  by_cases h : c
  · rw [if_pos h]
    exact h1 h
  · rw [if_neg h]
    exact h2 h
/-- all that was tracked is as it was -/
def Same (H H' : Hp) : Prop := ∀ b o, H b = some o → H' b = some o
theorem Same.refl (H : Hp) : Same H H := fun _ _ h => h
theorem Same.trans {H H1 H2 : Hp} (a : Same H H1) (b : Same H1 H2) : Same H H2 := fun c o h => b c o (a c o h)
theorem Same.free {H H' : Hp} (e : Same H H') {l : Addr} (h : H' l = Option.none) : H l = Option.none := by
  cases q : H l with
  | none => rfl
  | some o =>
    rw [e l o q] at h
    cases h
theorem Same.seq {K : PySem.W.Frag} {H H' : Hp} {a : Addr} {xs : List V} (e : Same H H') (h : SqL K H a xs) : SqL K H' a xs := by
  rcases h with (h | ⟨o, h⟩) | h
  · exact .inl (.inl (e _ _ h))
  · exact .inl (.inr ⟨o, e _ _ h⟩)
  · exact .inr h
section
variable {κ : Type} [DecidableEq κ]
end
theorem at_of {xs : List V} {z : Int} {j : Nat} {v : V} (e : z = (j : Int)) (h : xs[j]? = some v) : atI xs z = some v := by
  rw [e]
  exact atI_nat h
/-- a new instance and its __init__ leave all that was tracked as it was -/
theorem Same.made {H H1 : Hp} {x dx C : Addr} (nx : H x = Option.none) (nd : H dx = Option.none) (k : ∀ b o, (upd (upd H dx (.own x)) x (.ins C dx [])) b = some o → b ≠ x → H1 b = some o) : Same H H1 := fun b o e =>
  k b o (by rw [upd_ne (ne_of_none e nx), upd_ne (ne_of_none e nd)]; exact e) (ne_of_none e nx)
end L2
section
set_option Elab.async false
set_option linter.all false
set_option maxRecDepth 100000
set_option Elab.async false
set_option linter.all false
set_option maxRecDepth 100000
set_option maxHeartbeats 2000000
namespace L2
open PySem PySem.Spec PyProof.Rows
open PySem.W (WData Codec OpenSpec Well WellAll ReadsW ReadsAllW)
mutual
/-- x stands for the datum d, lists and tuples all the way -/
inductive Dw (K : PySem.W.Frag) (H : Hp) : V → WData → Prop
  | non : Dw K H .non .none
  | bl (b : Bool) : Dw K H (.bl b) (.bool b)
  | int (i : Int) : Dw K H (.int i) (.int i)
  | str (x : Str) : Dw K H (.str x) (.str x)
  | byt (b : Array UInt8) : Dw K H (.byt b) (.bytes b.toList)
  | lst {a : Addr} {xs : List V} {ds : List WData} : SqL K H a xs → DwAll K H xs ds → Dw K H (.ref a) (.list ds)
  | tup {a : Addr} {xs : List V} {ds : List WData} : SqT K H a xs → DwAll K H xs ds → Dw K H (.ref a) (.tuple ds)
inductive DwAll (K : PySem.W.Frag) (H : Hp) : List V → List WData → Prop
  | nil : DwAll K H [] []
  | cons {v : V} {vs : List V} {d : WData} {ds : List WData} : Dw K H v d → DwAll K H vs ds → DwAll K H (v :: vs) (d :: ds)
end
theorem dw_ints {K : PySem.W.Frag} {H : Hp} : ∀ ns : List Int, DwAll K H (ns.map V.int) (ns.map WData.int)
  | [] => .nil
  | n :: r => .cons (.int n) (dw_ints r)
theorem ints_dw {K : PySem.W.Frag} {H : Hp} : ∀ (ns : List Int) (xs : List V), DwAll K H xs (ns.map WData.int) → xs = ns.map V.int
  | [], xs, h => by
    cases h
    rfl
  | n :: r, xs, h => by
    cases h with
    | cons h1 h2 =>
      cases h1
      rw [ints_dw r _ h2] <;> rfl
section
variable {P : Program} {w : World} {K : PySem.W.Frag} {H : Hp} {h : Heap} {R : PySem.W.WRecords} {cl : Str → Option Addr}
theorem sqL_at {a : Addr} {xs : List V} (hok : HOk P w H h) (KX : K.In h) (q : SqL K H a xs) : ∃ (its : List Value) (o : Obj) (n : Nat), Vals xs its ∧ h.get? a = some o ∧ o.cls = .type "list" ∧ o.data = .seq its.toArray n := by
  rcases q with q | ⟨o, its, n, e, hc, _, hd, _, hv⟩
  · obtain ⟨_, its, n, hv, e⟩ := (show ObjOk P w H h a (.lst xs) from q.ok hok)
    exact ⟨its, _, n, hv, e, rfl, rfl⟩
  · exact ⟨its.toList, o, n, hv, KX _ _ e, hc, by simp [hd]⟩
theorem sqT_at {a : Addr} {xs : List V} (hok : HOk P w H h) (KX : K.In h) (q : SqT K H a xs) : ∃ (its : List Value) (o : Obj) (n : Nat), Vals xs its ∧ h.get? a = some o ∧ o.cls = .type "tuple" ∧ o.data = .seq its.toArray n := by
  rcases q with q | ⟨o, its, n, e, hc, hd, _, hv⟩
  · obtain ⟨_, its, hv, o, e, hc, n, hd⟩ := (show ObjOk P w H h a (.tup xs) from q.ok hok)
    exact ⟨its, o, n, hv, e, hc, hd⟩
  · exact ⟨its.toList, o, n, hv, KX _ _ e, hc, by simp [hd]⟩
mutual
theorem Dw.reads (hok : HOk P w H h) (KX : K.In h) : ∀ (d : WData) (v : V) (u : Value), Dw K H v d → RelV v u → ∃ as, ReadsW R cl h u d as
  | .none, _, _, x, r => by
    cases x
    cases r
    exact ⟨_, ReadsW.none⟩
  | .bool b, _, _, x, r => by
    cases x
    cases r
    exact ⟨_, ReadsW.bool b⟩
  | .int i, _, _, x, r => by
    cases x
    obtain ⟨t, rfl⟩ := r
    exact ⟨_, ReadsW.int i t⟩
  | .str s, _, _, x, r => by
    cases x
    obtain ⟨t, rfl⟩ := r
    exact ⟨_, ReadsW.str s t⟩
  | .bytes b, _, _, x, r => by
    cases x
    obtain ⟨t, rfl⟩ := r
    exact ⟨_, ReadsW.bytes _ t⟩
  | .list ds, _, _, x, r => by
    cases x with
    | lst hs ha =>
      cases r
      obtain ⟨its, o, n, rv, ho, hc, hd⟩ := sqL_at hok KX hs
      obtain ⟨as, hr⟩ := Dw.readsAll hok KX ds _ its ha rv
      exact ⟨_, ReadsW.list ho hc hd hr⟩
  | .tuple ds, _, _, x, r => by
    cases x with
    | tup hs ha =>
      cases r
      obtain ⟨its, o, n, rv, ho, hc, hd⟩ := sqT_at hok KX hs
      obtain ⟨as, hr⟩ := Dw.readsAll hok KX ds _ its ha rv
      exact ⟨_, ReadsW.tuple ho hc hd hr⟩
  | .float _, _, _, x, _ => by cases x
  | .dict _, _, _, x, _ => by cases x
  | .bytearray _, _, _, x, _ => by cases x
  | .set _, _, _, x, _ => by cases x
  | .frozenset _, _, _, x, _ => by cases x
  | .obj _ _, _, _, x, _ => by cases x
theorem Dw.readsAll (hok : HOk P w H h) (KX : K.In h) : ∀ (ds : List WData) (vs : List V) (us : List Value), DwAll K H vs ds → Vals vs us → ∃ as, ReadsAllW R cl h us ds as
  | [], _, _, x, r => by
    cases x
    cases r
    exact ⟨_, ReadsAllW.nil⟩
  | d :: ds, _, _, x, r => by
    cases x with
    | cons h1 h2 =>
      cases r with
      | cons r1 r2 =>
        obtain ⟨as, q1⟩ := Dw.reads hok KX d _ _ h1 r1
        obtain ⟨bs, q2⟩ := Dw.readsAll hok KX ds _ _ h2 r2
        exact ⟨_, ReadsAllW.cons q1 q2⟩
end
end
mutual
/-- data that a codec tells -/
def plW : WData → Bool
  | .none => true
  | .bool _ => true
  | .int _ => true
  | .str _ => true
  | .bytes _ => true
  | .list xs => plWs xs
  | .tuple xs => plWs xs
  | _ => false
def plWs : List WData → Bool
  | [] => true
  | x :: r => plW x && plWs r
end
theorem plWs_map {α : Type} {f : α → WData} (h : ∀ a, plW (f a) = true) : ∀ l : List α, plWs (l.map f) = true
  | [] => rfl
  | x :: r => by
    show (plW (f x) && plWs (r.map f)) = true
    rw [h x, plWs_map h r] <;> rfl
theorem pl_enc : ∀ (c : Codec) (a : c.denote), plW (c.enc a) = true
  | .unit, _ => rfl
  | .bool, _ => rfl
  | .int _ _, _ => rfl
  | .nat _ _, _ => rfl
  | .u8, _ => rfl
  | .bytes _ _, _ => rfl
  | .text _ _ _ _, _ => rfl
  | .list _ _ c, a => plWs_map (fun x => pl_enc c x) a
  | .pair c d, a => by
    show (plW (c.enc a.1) && (plW (d.enc a.2) && true)) = true
    rw [pl_enc c a.1, pl_enc d a.2] <;> rfl
  | .triple c d e, a => by
    show (plW (c.enc a.1) && (plW (d.enc a.2.1) && (plW (e.enc a.2.2) && true))) = true
    rw [pl_enc c a.1, pl_enc d a.2.1, pl_enc e a.2.2] <;> rfl
  | .option c, none => rfl
  | .option c, some x => pl_enc c x
theorem pl_encAll : ∀ (cs : List Codec) (a : Codec.denoteAll cs), plWs (Codec.encAll cs a) = true
  | [], _ => rfl
  | c :: cs, a => by
    show (plW (c.enc a.1) && plWs (Codec.encAll cs a.2)) = true
    rw [pl_enc c a.1, pl_encAll cs a.2] <;> rfl
theorem weight_mem : ∀ {xs : List WData} {d : WData}, d ∈ xs → d.weight ≤ WData.weightAll xs
  | [], d, h => absurd h (by simp)
  | x :: r, d, h => by
    show d.weight ≤ x.weight + 1 + WData.weightAll r
    rcases List.mem_cons.mp h with e | m
    · rw [e]
      omega
    · have z := weight_mem m
      omega
def toV : Value → V
  | .none => .non
  | .bool b => .bl b
  | .int i _ => .int i
  | .str x _ => .str x
  | .bytes b _ => .byt b
  | .ref a => .ref a
  | _ => .non
/-- a value of the arguments, its objects among A -/
def OkU (A : List Addr) : Value → Prop
  | .none => True
  | .bool _ => True
  | .int _ _ => True
  | .str _ _ => True
  | .bytes _ _ => True
  | .ref a => a ∈ A
  | _ => False
theorem OkU.mono {A B : List Addr} (h : ∀ a ∈ A, a ∈ B) : ∀ {u : Value}, OkU A u → OkU B u := fun {u} x => by
  cases u with
  | ref a => exact h a x
  | none => trivial
  | bool b => trivial
  | int i t => trivial
  | str s t => trivial
  | bytes b t => trivial
  | _ => exact False.elim x
theorem relV_toV {A : List Addr} {u : Value} (x : OkU A u) : RelV (toV u) u := by
  cases u with
  | ref a => rfl
  | none => rfl
  | bool b => rfl
  | int i t => exact ⟨t, rfl⟩
  | str s t => exact ⟨t, rfl⟩
  | bytes b t => exact ⟨t, rfl⟩
  | _ => exact False.elim x
theorem vals_toV {A : List Addr} : ∀ {vs : List Value}, (∀ u ∈ vs, OkU A u) → Vals (vs.map toV) vs
  | [], _ => .nil
  | u :: r, h => .cons (relV_toV (h u (List.mem_cons_self ..))) (vals_toV fun x hx => h x (List.mem_cons_of_mem _ hx))
/-- an object of the arguments -/
def ArgOb (h : Heap) (A : List Addr) (a : Addr) : Prop := ∃ vs : List Value, vs.length ≤ sizeLine ∧ (∀ u ∈ vs, OkU A u) ∧
  (h.get? a = some { cls := .type "list", data := .seq vs.toArray } ∨ h.get? a = some { cls := .type "tuple", data := .seq vs.toArray })
theorem ArgOb.mono {h : Heap} {A B : List Addr} {a : Addr} (k : ∀ a ∈ A, a ∈ B) (x : ArgOb h A a) : ArgOb h B a := by
  obtain ⟨vs, h1, h2, h3⟩ := x
  exact ⟨vs, h1, fun u hu => (h2 u hu).mono k, h3⟩
theorem wellAll_len {P : Params} {h : Heap} : ∀ {vs : List Value} {ds : List WData}, WellAll P h vs ds → vs.length = ds.length
  | _, _, .nil => rfl
  | _, _, .cons _ b => by
    show _ + 1 = _ + 1
    rw [wellAll_len b]
theorem well_list {P : Params} {h : Heap} {v : Value} {ds : List WData} (x : Well P h v (.list ds)) : ∃ (a : Addr) (vs : List Value), v = .ref a ∧ h.get? a = some { cls := .type "list", data := .seq vs.toArray } ∧ WellAll P h vs ds := by
  cases x with
  | list ho hall => exact ⟨_, _, rfl, ho, hall⟩
theorem well_tuple {P : Params} {h : Heap} {v : Value} {ds : List WData} (x : Well P h v (.tuple ds)) : ∃ (a : Addr) (vs : List Value), v = .ref a ∧ h.get? a = some { cls := .type "tuple", data := .seq vs.toArray } ∧ WellAll P h vs ds := by
  cases x with
  | tuple ho hall => exact ⟨_, _, rfl, ho, hall⟩
theorem well_cons {P : Params} {h : Heap} {us : List Value} {d : WData} {ds : List WData} (x : WellAll P h us (d :: ds)) : ∃ (v : Value) (vs : List Value), us = v :: vs ∧ Well P h v d ∧ WellAll P h vs ds := by
  cases x with
  | cons a b => exact ⟨_, _, rfl, a, b⟩
theorem line_of {n : Nat} (h : n ≤ 1048576) : n ≤ sizeLine := Nat.le_trans h (by decide)
section
variable {P : Params} {h : Heap}
mutual
theorem area_one : ∀ (d : WData) (v : Value), Well P h v d → plW d = true → d.weight ≤ 1048576 → ∃ A : List Addr, OkU A v ∧ ∀ a ∈ A, ArgOb h A a
  | .none, _, x, _, _ => by
    cases x
    exact ⟨[], trivial, fun a m => absurd m (by simp)⟩
  | .bool b, _, x, _, _ => by
    cases x
    exact ⟨[], trivial, fun a m => absurd m (by simp)⟩
  | .int i, _, x, _, _ => by
    cases x
    exact ⟨[], trivial, fun a m => absurd m (by simp)⟩
  | .str s, _, x, _, _ => by
    cases x
    exact ⟨[], trivial, fun a m => absurd m (by simp)⟩
  | .bytes b, _, x, _, _ => by
    cases x
    exact ⟨[], trivial, fun a m => absurd m (by simp)⟩
  | .list ds, _, x, p, z => by
    obtain ⟨a, vs, rfl, ho, hall⟩ := well_list x
    have z2 : WData.weightAll ds ≤ 1048576 := z
    obtain ⟨A, h1, h2⟩ := area_all ds _ hall p fun d hd => Nat.le_trans (weight_mem hd) z2
    have k : ∀ b ∈ A, b ∈ a :: A := fun b hb => List.mem_cons_of_mem _ hb
    refine ⟨a :: A, List.mem_cons_self .., fun b hb => ?_⟩
    rcases List.mem_cons.mp hb with e | m
    · rw [e]
      exact ⟨vs, line_of (by rw [wellAll_len hall]; exact Nat.le_trans (PySem.W.length_le_weightAllW ds) z2), fun u hu => (h1 u hu).mono k, .inl ho⟩
    · exact (h2 b m).mono k
  | .tuple ds, _, x, p, z => by
    obtain ⟨a, vs, rfl, ho, hall⟩ := well_tuple x
    have z2 : WData.weightAll ds ≤ 1048576 := z
    obtain ⟨A, h1, h2⟩ := area_all ds _ hall p fun d hd => Nat.le_trans (weight_mem hd) z2
    have k : ∀ b ∈ A, b ∈ a :: A := fun b hb => List.mem_cons_of_mem _ hb
    refine ⟨a :: A, List.mem_cons_self .., fun b hb => ?_⟩
    rcases List.mem_cons.mp hb with e | m
    · rw [e]
      exact ⟨vs, line_of (by rw [wellAll_len hall]; exact Nat.le_trans (PySem.W.length_le_weightAllW ds) z2), fun u hu => (h1 u hu).mono k, .inr ho⟩
    · exact (h2 b m).mono k
  | .float _, _, _, p, _ => Bool.noConfusion (show false = true from p)
  | .dict _, _, _, p, _ => Bool.noConfusion (show false = true from p)
  | .bytearray _, _, _, p, _ => Bool.noConfusion (show false = true from p)
  | .set _, _, _, p, _ => Bool.noConfusion (show false = true from p)
  | .frozenset _, _, _, p, _ => Bool.noConfusion (show false = true from p)
  | .obj _ _, _, _, p, _ => Bool.noConfusion (show false = true from p)
theorem area_all : ∀ (ds : List WData) (vs : List Value), WellAll P h vs ds → plWs ds = true → (∀ d ∈ ds, d.weight ≤ 1048576) → ∃ A : List Addr, (∀ u ∈ vs, OkU A u) ∧ ∀ a ∈ A, ArgOb h A a
  | [], _, x, _, _ => by
    cases x
    exact ⟨[], fun u m => absurd m (by simp), fun a m => absurd m (by simp)⟩
  | d :: ds, _, x, p, z => by
    obtain ⟨v, vs, rfl, x1, x2⟩ := well_cons x
    have q : plW d = true ∧ plWs ds = true := Bool.and_eq_true_iff.mp p
    obtain ⟨A, a1, a2⟩ := area_one d v x1 q.1 (z d (List.mem_cons_self ..))
    obtain ⟨B, b1, b2⟩ := area_all ds vs x2 q.2 fun e he => z e (List.mem_cons_of_mem _ he)
    have kA : ∀ b ∈ A, b ∈ A ++ B := fun b hb => List.mem_append.mpr (.inl hb)
    have kB : ∀ b ∈ B, b ∈ A ++ B := fun b hb => List.mem_append.mpr (.inr hb)
    refine ⟨A ++ B, fun u hu => ?_, fun b hb => ?_⟩
    · rcases List.mem_cons.mp hu with e | m
      · rw [e]
        exact a1.mono kA
      · exact (b1 u m).mono kB
    · rcases List.mem_append.mp hb with m | m
      · exact (a2 b m).mono kA
      · exact (b2 b m).mono kB
end
end
/-- what is tracked of an argument's object -/
def hoOf (o : Obj) : Option HO := match o.data with
  | .seq vs _ => if (o.cls == Value.type "list") = true then some (.frz o (.lst (vs.toList.map toV))) else some (.frz o (.tup (vs.toList.map toV)))
  | _ => none
def argH (K : PySem.W.Frag) (h : Heap) (A : List Addr) : Hp := fun b => if b ∈ A then (if (K.lookup b).isNone = true then (h.get? b).bind hoOf else none) else none
/-- nothing is tracked but what is known to the object -/
def OnlyF (H : Hp) : Prop := ∀ b, H b = none ∨ ∃ o u, H b = some (.frz o u)
theorem hoOf_lst (vs : List Value) : hoOf { cls := .type "list", data := .seq vs.toArray } = some (.frz { cls := .type "list", data := .seq vs.toArray } (.lst (vs.map toV))) := by
  show (if (Value.type "list" == Value.type "list") = true then some (HO.frz { cls := .type "list", data := .seq vs.toArray } (.lst (vs.toArray.toList.map toV))) else some (HO.frz { cls := .type "list", data := .seq vs.toArray } (.tup (vs.toArray.toList.map toV)))) = _
  rw [if_pos (beq_self_eq_true _)]
theorem hoOf_tup (vs : List Value) : hoOf { cls := .type "tuple", data := .seq vs.toArray } = some (.frz { cls := .type "tuple", data := .seq vs.toArray } (.tup (vs.map toV))) := by
  show (if (Value.type "tuple" == Value.type "list") = true then some (HO.frz { cls := .type "tuple", data := .seq vs.toArray } (.lst (vs.toArray.toList.map toV))) else some (HO.frz { cls := .type "tuple", data := .seq vs.toArray } (.tup (vs.toArray.toList.map toV)))) = _
  rw [if_neg (by decide)]
section
variable {P : Program} {w : World} {K : PySem.W.Frag} {h : Heap} {A : List Addr}
theorem argH_at {b : Addr} {o : Obj} (hb : b ∈ A) (hk : K.lookup b = none) (e : h.get? b = some o) : argH K h A b = hoOf o := by
  unfold argH
  rw [if_pos hb, hk, if_pos (show (none : Option Obj).isNone = true from rfl), e] <;> rfl
theorem of_argH {b : Addr} {u : HO} (q : argH K h A b = some u) : b ∈ A ∧ K.lookup b = none := by
  unfold argH at q
  by_cases hb : b ∈ A
  · rw [if_pos hb] at q
    cases hk : K.lookup b with
    | none => exact ⟨hb, rfl⟩
    | some o =>
      rw [hk, if_neg (by simp)] at q
      cases q
  · rw [if_neg hb] at q
    cases q
/-- what stands tracked -/
theorem argH_is (ar : ∀ a ∈ A, ArgOb h A a) {b : Addr} {u : HO} (q : argH K h A b = some u) : K.lookup b = none ∧ ∃ vs : List Value, vs.length ≤ sizeLine ∧ (∀ u ∈ vs, OkU A u) ∧
    ((h.get? b = some { cls := .type "list", data := .seq vs.toArray } ∧ u = .frz { cls := .type "list", data := .seq vs.toArray } (.lst (vs.map toV))) ∨
     (h.get? b = some { cls := .type "tuple", data := .seq vs.toArray } ∧ u = .frz { cls := .type "tuple", data := .seq vs.toArray } (.tup (vs.map toV)))) := by
  obtain ⟨hb, hk⟩ := of_argH q
  obtain ⟨vs, h1, h2, h3⟩ := ar b hb
  refine ⟨hk, vs, h1, h2, ?_⟩
  rcases h3 with e | e
  · rw [argH_at hb hk e, hoOf_lst] at q
    exact .inl ⟨e, (Option.some.inj q).symm⟩
  · rw [argH_at hb hk e, hoOf_tup] at q
    exact .inr ⟨e, (Option.some.inj q).symm⟩
theorem argH_only (ar : ∀ a ∈ A, ArgOb h A a) : OnlyF (argH K h A) := fun b => by
  cases q : argH K h A b with
  | none => exact .inl rfl
  | some u =>
    obtain ⟨_, vs, _, _, ⟨_, e⟩ | ⟨_, e⟩⟩ := argH_is ar q
    · exact .inr ⟨_, _, by rw [e]⟩
    · exact .inr ⟨_, _, by rw [e]⟩
theorem argH_ok (ar : ∀ a ∈ A, ArgOb h A a) : HOk P w (argH K h A) h := fun b u q => by
  obtain ⟨_, vs, h1, h2, ⟨e, rfl⟩ | ⟨e, rfl⟩⟩ := argH_is ar q
  · exact ⟨e, by rw [List.length_map]; exact h1, vs, _, vals_toV h2, e⟩
  · exact ⟨e, by rw [List.length_map]; exact h1, vs, vals_toV h2, _, e, rfl, _, rfl⟩
theorem seq_inj {c c' : Value} {vs us : List Value} (e : (some { cls := c, data := .seq vs.toArray } : Option Obj) = some { cls := c', data := .seq us.toArray }) : c = c' ∧ vs = us := by
  have e1 := Option.some.inj e
  have e2 : c = c' := congrArg Obj.cls e1
  have e3 : Data.seq vs.toArray = Data.seq us.toArray := congrArg Obj.data e1
  injection e3 with e4
  refine ⟨e2, ?_⟩
  have e5 := congrArg Array.toList e4
  simpa using e5
/-- a list argument -/
theorem argL (KX : K.In h) (ar : ∀ a ∈ A, ArgOb h A a) {a : Addr} {vs : List Value} (ha : a ∈ A) (e : h.get? a = some { cls := .type "list", data := .seq vs.toArray }) : (∀ u ∈ vs, OkU A u) ∧ SqL K (argH K h A) a (vs.map toV) := by
  obtain ⟨us, h1, h2, h3⟩ := ar a ha
  have hu : us = vs := by
    rcases h3 with q | q
    · rw [e] at q
      exact (seq_inj q).2.symm
    · rw [e] at q
      exact absurd (Value.type.inj (seq_inj q).1) (by decide)
  subst hu
  refine ⟨h2, ?_⟩
  cases hk : K.lookup a with
  | none => exact .inl (.inr ⟨_, by rw [argH_at ha hk e, hoOf_lst]⟩)
  | some o =>
    have e2 := KX a o hk
    rw [e] at e2
    obtain rfl := Option.some.inj e2
    exact .inr ⟨_, us.toArray, _, hk, rfl, rfl, rfl, by rw [List.size_toArray]; exact h1, by simpa using vals_toV h2⟩
theorem argT (KX : K.In h) (ar : ∀ a ∈ A, ArgOb h A a) {a : Addr} {vs : List Value} (ha : a ∈ A) (e : h.get? a = some { cls := .type "tuple", data := .seq vs.toArray }) : (∀ u ∈ vs, OkU A u) ∧ SqT K (argH K h A) a (vs.map toV) := by
  obtain ⟨us, h1, h2, h3⟩ := ar a ha
  have hu : us = vs := by
    rcases h3 with q | q
    · rw [e] at q
      exact absurd (Value.type.inj (seq_inj q).1) (by decide)
    · rw [e] at q
      exact (seq_inj q).2.symm
  subst hu
  refine ⟨h2, ?_⟩
  cases hk : K.lookup a with
  | none => exact .inl (.inr ⟨_, by rw [argH_at ha hk e, hoOf_tup]⟩)
  | some o =>
    have e2 := KX a o hk
    rw [e] at e2
    obtain rfl := Option.some.inj e2
    exact .inr ⟨_, us.toArray, _, hk, rfl, rfl, by rw [List.size_toArray]; exact h1, by simpa using vals_toV h2⟩
mutual
theorem dw_one {Pm : Params} (KX : K.In h) (ar : ∀ a ∈ A, ArgOb h A a) : ∀ (d : WData) (v : Value), Well Pm h v d → plW d = true → OkU A v → Dw K (argH K h A) (toV v) d
  | .none, _, x, _, _ => by
    cases x
    exact .non
  | .bool b, _, x, _, _ => by
    cases x
    exact .bl b
  | .int i, _, x, _, _ => by
    cases x
    exact .int i
  | .str s, _, x, _, _ => by
    cases x
    exact .str s
  | .bytes b, _, x, _, _ => by
    cases x
    have z := Dw.byt (K := K) (H := argH K h A) b.toArray
    exact z
  | .list ds, _, x, p, hu => by
    obtain ⟨a, vs, rfl, ho, hall⟩ := well_list x
    obtain ⟨h2, hs⟩ := argL KX ar hu ho
    exact .lst hs (dw_all KX ar ds _ hall p h2)
  | .tuple ds, _, x, p, hu => by
    obtain ⟨a, vs, rfl, ho, hall⟩ := well_tuple x
    obtain ⟨h2, hs⟩ := argT KX ar hu ho
    exact .tup hs (dw_all KX ar ds _ hall p h2)
  | .float _, _, _, p, _ => Bool.noConfusion (show false = true from p)
  | .dict _, _, _, p, _ => Bool.noConfusion (show false = true from p)
  | .bytearray _, _, _, p, _ => Bool.noConfusion (show false = true from p)
  | .set _, _, _, p, _ => Bool.noConfusion (show false = true from p)
  | .frozenset _, _, _, p, _ => Bool.noConfusion (show false = true from p)
  | .obj _ _, _, _, p, _ => Bool.noConfusion (show false = true from p)
theorem dw_all {Pm : Params} (KX : K.In h) (ar : ∀ a ∈ A, ArgOb h A a) : ∀ (ds : List WData) (vs : List Value), WellAll Pm h vs ds → plWs ds = true → (∀ u ∈ vs, OkU A u) → DwAll K (argH K h A) (vs.map toV) ds
  | [], _, x, _, _ => by
    cases x
    exact .nil
  | d :: ds, _, x, p, hu => by
    obtain ⟨v, vs, rfl, x1, x2⟩ := well_cons x
    have q : plW d = true ∧ plWs ds = true := Bool.and_eq_true_iff.mp p
    exact .cons (dw_one KX ar d v x1 q.1 (hu _ (List.mem_cons_self ..))) (dw_all KX ar ds vs x2 q.2 fun u m => hu u (List.mem_cons_of_mem _ m))
end
end
theorem spec_call {P : Program} {w : World} {K : PySem.W.Frag} {mg mb : Str → Option Value} {CX : CXT} {k : Nat} {fa : Addr} {fd : FuncData} {ps : List Str} {sp : Sp} {s₁ : Shared} {vals : List Value} {ds : List WData} {R : PySem.W.WRecords} {cl : Str → Option Addr} {d0 : WData}
    (KX : K.In s₁.heap) (hns : s₁.heap.Ns mainGlobals mg) (hb : s₁.heap.Ns builtinsNs mb) (hbb : ∀ x : Str, x ≠ "__name__" → mb x = bootBuiltins x) (hlim : s₁.heap.NoLimit) (hg : s₁.gens = #[])
    (hwl : WellAll w.params s₁.heap vals ds) (hpl : plWs ds = true) (hwt : ∀ d ∈ ds, d.weight ≤ 1048576) (hr : Room k callerA)
    (F : ∀ base : Heap, K.In base → base.Ns mainGlobals mg → FnOk P w K mg base CX k fa fd ps sp) (hbind : ∀ (s : Shared) (us : List Value), us.length = ps.length → BindsTo s fd ⟨us, []⟩ (ps.zip us)) (hlen : ds.length = ps.length)
    (hsp : ∀ (H : Hp) (xs : List V), OnlyF H → DwAll K H xs ds → sp xs H (fun v H' => Dw K H' v d0) fun _ _ _ => False)
    (hCX : ∀ H e s', CX [] H s₁ (fun _ _ _ => False) e s' → False) :
    codeAny (model P w) callerA (.call (.ref fa) ⟨vals, []⟩) (fun r s' => ∃ u as, r = .ok (.ret u) ∧ ReadsW R cl s'.heap u d0 as ∧ OldK s₁.heap s'.heap ∧ s'.os = s₁.os ∧ AllBare s'.gens) s₁ := by
  obtain ⟨A, ho, ar⟩ := area_all ds vals hwl hpl hwt
  have hO : OnlyF (argH K s₁.heap A) := argH_only ar
  have hok : HOk P w (argH K s₁.heap A) s₁.heap := argH_ok ar
  have hS := dw_all KX ar ds vals hwl hpl ho
  have hV := vals_toV ho
  have hK : ∀ b u, argH K s₁.heap A b = some u → K.lookup b = none := fun b u q => (argH_is ar q).1
  have noA : ∀ {b : Addr} {o : Obj} {es : Array DictEntry} {ep : Nat}, s₁.heap.get? b = some o → o.data = .dict es ep → argH K s₁.heap A b = none := fun {b o es ep} e d => by
    cases q : argH K s₁.heap A b with
    | none => rfl
    | some u =>
      obtain ⟨_, vs, _, _, ⟨e2, _⟩ | ⟨e2, _⟩⟩ := argH_is ar q
      · rw [e2] at e
        cases e
        have d' : Data.seq vs.toArray _ = Data.dict es ep := d
        cases d'
      · rw [e2] at e
        cases e
        have d' : Data.seq vs.toArray _ = Data.dict es ep := d
        cases d'
  generalize argH K s₁.heap A = H at hO hok hS hK noA
  have base_of : ∀ {b : Addr} {o : Obj}, s₁.heap.get? b = some o → H b = none → (hidT s₁.heap H).get? b = some o := fun e n => hidT_get e n
  have nsK : ∀ {b : Addr} {m : Str → Option Value}, s₁.heap.Ns b m → (hidT s₁.heap H).Ns b m := fun {b m} ⟨o, es, ep, e, d, r⟩ => ⟨o, es, ep, base_of e (noA e d), d, r⟩
  have nK : ∀ b o, K.lookup b = some o → H b = none := fun b o e => by
    cases q : H b with
    | none => rfl
    | some u =>
      rw [hK b u q] at e
      cases e
  have hKb : K.In (hidT s₁.heap H) := fun b o e => base_of (KX b o e) (nK b o e)
  have hM : Mod K mg (hidT s₁.heap H) := ⟨hKb, nsK hns, ⟨mb, nsK hb, hbb⟩, let ⟨mc, h1, h2⟩ := hlim; ⟨mc, nsK h1, h2⟩⟩
  have e0 : Env0 P w K mg (hidT s₁.heap H) callerA [] s₁ H := ⟨rfl, hM, fun b o e => of_hidT e, Nat.le_of_eq (hidT_size _ _), trivial, fun b hb => absurd (show b ∈ ([] : List Addr) from hb) (by simp), hok, .of_eq hg⟩
  have hl : vals.length = ps.length := by rw [wellAll_len hwl]; exact hlen
  refine codeAny_mono ((F _ hKb (nsK hns)).run callerA [] s₁ H ⟨vals, []⟩ vals (vals.map toV) _ _ hr e0 (hbind s₁ vals hl) hV (hsp H _ hO hS)) fun r s' x => ?_
  cases r with
  | error e => exact (hCX H e s' x).elim
  | ok fl =>
    cases fl with
    | next => exact False.elim x
    | brk => exact False.elim x
    | cont => exact False.elim x
    | ret u =>
      obtain ⟨v, H', os, bare, un, hok', r', q⟩ := x
      have kept : ∀ b o, s₁.heap.get? b = some o → s'.heap.get? b = some o := fun b o e => by
        cases q2 : H b with
        | none => exact un.keep b o e q2 (by intro z; exact absurd (show b ∈ ([] : List Addr) from z) (by simp)) (by simp)
        | some u2 =>
          rcases hO b with z | ⟨ob, u3, z⟩
          · rw [q2] at z
            cases z
          · have z2 := un.frzs b ob _ z
            obtain ⟨e1, _⟩ := hok b _ z
            obtain ⟨e2, _⟩ := hok' b _ z2
            rw [e] at e1
            cases e1
            exact e2
      have KX' : K.In s'.heap := fun b o e => kept b o (KX b o e)
      obtain ⟨as, hrd⟩ := Dw.reads (R := R) (cl := cl) hok' KX' d0 v u q r'
      exact ⟨u, as, rfl, hrd, OldK.of_keep kept, os, bare⟩
theorem layable_weight {ds : List WData} (h : WData.layableAll ds = true) : ∀ d ∈ ds, d.weight ≤ 1048576 := fun d hd =>
  (PySem.W.layableW_iff.mp (List.all_eq_true.mp h d hd)).2.2
theorem encAll_len : ∀ (cs : List Codec) (a : Codec.denoteAll cs), (Codec.encAll cs a).length = cs.length
  | [], _ => rfl
  | c :: cs, a => by
    show (Codec.encAll cs a.2).length + 1 = cs.length + 1
    rw [encAll_len cs a.2]
/-- the goal that k_headS leaves (case hc), from the promise of the row's def: whatever the arguments that the codecs let and the row asks for, the def gives what stands for enc (f ..) -/
theorem walk_spec {r : OpenSpec} {k : Nat} {q : Program} {loose : List Str} {XP : (Str → Option Value) → Heap → Prop} {YP : World → Heap → Prop} {d : DefRec} {K : Params → PySem.W.Frag} {CX : World → CXT} {ps : List Str} {sp : World → Sp}
    (hwell : r.wellSaid = true) (hdf : d.params.defaults = []) (hlen : r.args.length = ps.length) (hr : Room k callerA)
    (hY : ∀ (w : World) (h : Heap), YP w h → (K w.params).In h)
    (F : ∀ (w : World) (mg : Str → Option Value) (fa : Addr) (h : Heap), YP w h → (K w.params).In h → h.Ns mainGlobals mg → mg d.name = some (.ref fa) →
      ∃ fd : FuncData, (∀ (s : Shared) (us : List Value), us.length = ps.length → BindsTo s fd ⟨us, []⟩ (ps.zip us)) ∧
        ∀ base : Heap, (K w.params).In base → base.Ns mainGlobals mg → FnOk r.prog w (K w.params) mg base (CX w) k fa fd ps (sp w))
    (hsp : ∀ (w : World) (H : Hp) (xs : List V) (a : Codec.denoteAll r.args), OnlyF H → Codec.withinAll r.args a = true → Codec.app r.args r.asked a = true → DwAll (K w.params) H xs (Codec.encAll r.args a) →
      sp w xs H (fun v H' => Dw (K w.params) H' v (r.ret.enc (Codec.app r.args r.f a))) fun _ _ _ => False)
    (hCX : ∀ (w : World) (H : Hp) (s : Shared) (e : Value) (s' : Shared), CX w [] H s (fun _ _ _ => False) e s' → False) :
    PySem.W.WalkOS q loose XP YP r d [] (fun f vs => PySem.call f vs) := by
  intro w s_0 s₁ mg mb G Y fa o pm cd doc dV kV ho hd hcd hD hmg hg args vals as hpre hlay hrd hwl hlo
  obtain ⟨a, e1, e2⟩ := PySem.W.os_pre_some hpre
  obtain ⟨e3, hwi⟩ := Codec.encAll_of_decAll r.args args a e1
  subst e3
  have KX := hY w _ Y
  obtain ⟨fd, hb, hF⟩ := F w mg fa _ Y KX G.T.g hmg
  refine PySem.W.enter_call (codeAny_mono (spec_call (R := []) (cl := classAt s_0.heap) (d0 := r.ret.enc (Codec.app r.args r.f a)) KX G.T.g G.T.b G.T.builtins G.T.nolimit hg hwl (pl_encAll _ _) (layable_weight hlay) hr hF hb (by rw [encAll_len]; exact hlen)
    (fun H xs hO hS => hsp w H xs a hO hwi e2 hS) fun H e s' => hCX w H s₁ e s') fun r' s' hq => ?_)
  obtain ⟨u, as', rfl, h1, h2, h3, h4⟩ := hq
  exact ⟨.inl ⟨u, _, as', rfl, fun _ => rfl, h1, (OpenSpec.post_iff hwell hwi _ _).mpr rfl, fun z => Bool.noConfusion (show false = true from z)⟩, h2, h3, h4⟩
/-- the same where the promise hangs on the written part alone -/
theorem walk_specK {r : OpenSpec} {k : Nat} {q : Program} {loose : List Str} {XP : (Str → Option Value) → Heap → Prop} {YP : World → Heap → Prop} {d : DefRec} {K : Params → PySem.W.Frag} {CX : CXT} {ps : List Str} {sp : PySem.W.Frag → Sp}
    (hwell : r.wellSaid = true) (hdf : d.params.defaults = []) (hlen : r.args.length = ps.length) (hr : Room k callerA)
    (hY : ∀ (w : World) (h : Heap), YP w h → (K w.params).In h)
    (F : ∀ (w : World) (mg : Str → Option Value) (fa : Addr) (h : Heap), YP w h → (K w.params).In h → h.Ns mainGlobals mg → mg d.name = some (.ref fa) →
      ∃ fd : FuncData, (∀ (s : Shared) (us : List Value), us.length = ps.length → BindsTo s fd ⟨us, []⟩ (ps.zip us)) ∧
        ∀ base : Heap, (K w.params).In base → base.Ns mainGlobals mg → FnOk r.prog w (K w.params) mg base CX k fa fd ps (sp (K w.params)))
    (hsp : ∀ (K : PySem.W.Frag) (H : Hp) (xs : List V) (a : Codec.denoteAll r.args), OnlyF H → Codec.withinAll r.args a = true → Codec.app r.args r.asked a = true → DwAll K H xs (Codec.encAll r.args a) →
      sp K xs H (fun v H' => Dw K H' v (r.ret.enc (Codec.app r.args r.f a))) fun _ _ _ => False)
    (hCX : ∀ (H : Hp) (s : Shared) (e : Value) (s' : Shared), CX [] H s (fun _ _ _ => False) e s' → False) :
    PySem.W.WalkOS q loose XP YP r d [] (fun f vs => PySem.call f vs) :=
  walk_spec (K := K) (CX := fun _ => CX) (sp := fun w => sp (K w.params)) hwell hdf hlen hr hY F (fun w H xs a h1 h2 h3 h4 => hsp (K w.params) H xs a h1 h2 h3 h4) fun _ H s e s' => hCX H s e s'
end L2
-- rests on (row put in by the clerk, for the bench that shows a file only what it spells): KE.SpHead KE.OsShapes
end

end
section
set_option Elab.async false
set_option linter.all false
namespace Sd
open Km438
/-! ## sums -/
theorem foldl_add : ∀ (l : List Nat) (k : Nat), l.foldl (· + ·) k = k + l.sum
  | [], k => by simp
  | a :: l, k => by rw [List.foldl_cons, foldl_add l, List.sum_cons]; omega
theorem sum_eq (l : List Nat) : Km438.sum l = l.sum := by unfold Km438.sum; rw [foldl_add]; omega
theorem amount_nil : amount [] = 0 := rfl
theorem amount_cons (x : Nat × Nat) (l : Lots) : amount (x :: l) = x.2 + amount l := by
  unfold amount; rw [sum_eq, sum_eq, List.map_cons, List.sum_cons]
theorem amount_append (l k : Lots) : amount (l ++ k) = amount l + amount k := by
  unfold amount; rw [sum_eq, sum_eq, sum_eq, List.map_append, List.sum_append]
theorem amount_int : ∀ l : Lots, (l.map fun x => (x.2 : Int)).sum = (amount l : Int)
  | [] => rfl
  | x :: l => by rw [List.map_cons, List.sum_cons, amount_int l, amount_cons]; omega
theorem sum_int : ∀ l : List Nat, (l.map fun (x : Nat) => (x : Int)).sum = (l.sum : Int)
  | [] => rfl
  | x :: l => by rw [List.map_cons, List.sum_cons, sum_int l, List.sum_cons]; omega
/-! ## eating -/
theorem eat_nil (n : Nat) : eat n [] = ([], n) := rfl
theorem eat_le {n a : Nat} (e : Nat) (l : Lots) (h : a ≤ n) : eat n ((e, a) :: l) = eat (n - a) l := by rw [eat, if_pos h]
theorem eat_gt {n a : Nat} (e : Nat) (l : Lots) (h : ¬ a ≤ n) : eat n ((e, a) :: l) = ((e, a - n) :: l, 0) := by rw [eat, if_neg h]
theorem eat_lack : ∀ (l : Lots) (n : Nat), (eat n l).2 = n - amount l
  | [], n => by rw [eat_nil, amount_nil]; omega
  | (e, a) :: l, n => by
    by_cases h : a ≤ n
    · rw [eat_le e l h, eat_lack l, amount_cons]; show n - a - amount l = n - (a + amount l); omega
    · rw [eat_gt e l h, amount_cons]; show 0 = n - (a + amount l); omega
theorem eat_left : ∀ (l : Lots) (n : Nat), amount (eat n l).1 = amount l - n
  | [], n => by rw [eat_nil, amount_nil]; omega
  | (e, a) :: l, n => by
    by_cases h : a ≤ n
    · rw [eat_le e l h, eat_left l, amount_cons]; show amount l - (n - a) = a + amount l - n; omega
    · rw [eat_gt e l h, amount_cons, amount_cons]; show a - n + amount l = a + amount l - n; omega
def Pos (l : Lots) : Prop := ∀ x ∈ l, 0 < x.2
theorem Pos.tail {x : Nat × Nat} {l : Lots} (h : Pos (x :: l)) : Pos l := fun y hy => h y (List.mem_cons_of_mem _ hy)
theorem Pos.head {x : Nat × Nat} {l : Lots} (h : Pos (x :: l)) : 0 < x.2 := h x List.mem_cons_self
theorem eat_pos : ∀ {l : Lots} (n : Nat), Pos l → Pos (eat n l).1
  | [], n, h => h
  | (e, a) :: l, n, h => by
    by_cases q : a ≤ n
    · rw [eat_le e l q]; exact eat_pos (n - a) h.tail
    · rw [eat_gt e l q]
      intro x hx
      rcases List.mem_cons.mp hx with r | r
      · rw [r]; show 0 < a - n; omega
      · exact h.tail x r
theorem eat_mem : ∀ {l : Lots} {n : Nat} {x : Nat × Nat}, x ∈ (eat n l).1 → ∃ y ∈ l, x.1 = y.1
  | [], n, x, h => by rw [eat_nil] at h; cases h
  | (e, a) :: l, n, x, h => by
    by_cases q : a ≤ n
    · rw [eat_le e l q] at h
      obtain ⟨y, hy, r⟩ := eat_mem h
      exact ⟨y, List.mem_cons_of_mem _ hy, r⟩
    · rw [eat_gt e l q] at h
      rcases List.mem_cons.mp h with r | r
      · exact ⟨(e, a), List.mem_cons_self, by rw [r]⟩
      · exact ⟨x, List.mem_cons_of_mem _ r, rfl⟩
theorem eat_length : ∀ (l : Lots) (n : Nat), (eat n l).1.length ≤ l.length
  | [], n => Nat.le_refl _
  | (e, a) :: l, n => by
    by_cases q : a ≤ n
    · rw [eat_le e l q]; exact Nat.le_succ_of_le (eat_length l (n - a))
    · rw [eat_gt e l q]; exact Nat.le_refl _
theorem eat_zero : ∀ {l : Lots}, Pos l → eat 0 l = (l, 0)
  | [], _ => rfl
  | (e, a) :: l, h => by
    have h0 : 0 < a := h.head
    rw [eat_gt e l (by omega)]; rfl
theorem eat_min : ∀ (l : Lots) (n : Nat), Pos l → (eat (min n (amount l)) l).1 = (eat n l).1
  | [], n, _ => rfl
  | (e, a) :: l, n, h => by
    rw [amount_cons]
    by_cases q : a ≤ n
    · rw [eat_le e l q, eat_le e l (by show a ≤ min n (a + amount l); omega), ← eat_min l (n - a) h.tail]
      congr 2
      show min n (a + amount l) - a = min (n - a) (amount l)
      omega
    · rw [eat_gt e l q]
      have e1 : min n (a + amount l) = n := by omega
      show (eat (min n (a + amount l)) ((e, a) :: l)).1 = _
      rw [e1, eat_gt e l q]
/-- what the program's without makes -/
def without : Lots → Nat → Lots
  | [], _ => []
  | (e, a) :: l, n => if min n a < a then (e, a - min n a) :: without l (n - min n a) else without l (n - min n a)
theorem without_zero : ∀ {l : Lots}, Pos l → without l 0 = l
  | [], _ => rfl
  | (e, a) :: l, h => by
    have h0 : 0 < a := h.head
    have e1 : min 0 a = 0 := by omega
    rw [without, e1, if_pos h0, without_zero h.tail]; rfl
theorem without_eat : ∀ {l : Lots} (n : Nat), Pos l → without l n = (eat n l).1
  | [], _, _ => rfl
  | (e, a) :: l, n, h => by
    have h0 : 0 < a := h.head
    by_cases q : a ≤ n
    · have e1 : min n a = a := by omega
      rw [without, e1, if_neg (Nat.lt_irrefl _), eat_le e l q, without_eat _ h.tail]
    · have e1 : min n a = n := by omega
      rw [without, e1, if_pos (by omega), eat_gt e l q, Nat.sub_self, without_zero h.tail]
/-! ## what is still good -/
def Fresh (l : Lots) (t : Nat) : Prop := ∀ x ∈ l, t ≤ x.1
theorem fresh_of {l : Lots} {t : Nat} (h : Fresh l t) : fresh_ l t = l := by
  unfold fresh_
  exact List.filter_eq_self.mpr fun x hx => decide_eq_true (h x hx)
theorem fresh_fresh (l : Lots) (t : Nat) : Fresh (fresh_ l t) t := fun x hx => of_decide_eq_true (List.mem_filter.mp hx).2
theorem fresh_pos {l : Lots} (t : Nat) (h : Pos l) : Pos (fresh_ l t) := fun x hx => h x (List.mem_filter.mp hx).1
theorem fresh_length (l : Lots) (t : Nat) : (fresh_ l t).length ≤ l.length := List.length_filter_le _ _
theorem fresh_append (l k : Lots) (t : Nat) : fresh_ (l ++ k) t = fresh_ l t ++ fresh_ k t := List.filter_append _ _
def stale (l : Lots) (t : Nat) : Lots := l.filter fun x => decide (x.1 < t)
theorem stale_of {l : Lots} {t : Nat} (h : Fresh l t) : stale l t = [] := by
  unfold stale
  exact List.filter_eq_nil_iff.mpr fun x hx q => by
    have a := h x hx
    have b := of_decide_eq_true q
    omega
theorem fresh_stale (t : Nat) : ∀ l : Lots, amount (fresh_ l t) + amount (stale l t) = amount l
  | [] => rfl
  | x :: l => by
    have ih := fresh_stale t l
    unfold fresh_ stale at ih ⊢
    rw [List.filter_cons, List.filter_cons]
    by_cases h : t ≤ x.1
    · rw [if_pos (decide_eq_true h), if_neg (by intro q; have := of_decide_eq_true q; omega), amount_cons, amount_cons]; omega
    · rw [if_neg (by intro q; exact h (of_decide_eq_true q)), if_pos (decide_eq_true (by omega)), amount_cons, amount_cons]; omega
theorem eat_fresh {l : Lots} {t : Nat} (n : Nat) (h : Fresh l t) : Fresh (eat n l).1 t := fun x hx => by
  obtain ⟨y, hy, e⟩ := eat_mem hx
  rw [e]; exact h y hy
/-! ## what lacks, day by day -/
def lacks : List Nat → Nat → Lots → List Nat
  | [], _, _ => []
  | n :: r, t, l => (eat n l).2 :: lacks r (t + 1) (fresh_ (eat n l).1 (t + 1))
def firstPos : List Nat → Nat → Option Nat
  | [], _ => none
  | k :: r, t => if k = 0 then firstPos r (t + 1) else some t
theorem firstLack_fresh : ∀ (r : List Nat) (t : Nat) (l : Lots), firstLack r t (fresh_ l t) = firstLack r t l
  | [], _, _ => rfl
  | n :: r, t, l => by
    unfold firstLack
    rw [fresh_of (fresh_fresh l t)]
theorem firstLack_eq : ∀ (r : List Nat) (t : Nat) (l : Lots), Fresh l t → firstLack r t l = firstPos (lacks r t l) t
  | [], _, _, _ => rfl
  | n :: r, t, l, h => by
    rw [firstLack, lacks, firstPos, fresh_of h]
    show (if (eat n l).2 = 0 then firstLack r (t + 1) (eat n l).1 else some t) = _
    rw [← firstLack_eq r (t + 1) _ (fresh_fresh _ _), firstLack_fresh]
theorem lacks_length : ∀ (r : List Nat) (t : Nat) (l : Lots), (lacks r t l).length = r.length
  | [], _, _ => rfl
  | n :: r, t, l => by rw [lacks, List.length_cons, List.length_cons, lacks_length r]
theorem lacks_le : ∀ (r : List Nat) (t : Nat) (l : Lots), (lacks r t l).sum ≤ r.sum
  | [], _, _ => Nat.le_refl _
  | n :: r, t, l => by
    rw [lacks, List.sum_cons, List.sum_cons, eat_lack]
    have := lacks_le r (t + 1) (fresh_ (eat n l).1 (t + 1))
    omega
theorem firstPos_none : ∀ (ks : List Nat) (t : Nat), (firstPos ks t).isNone = ks.all (fun k => decide (k = 0))
  | [], _ => rfl
  | k :: r, t => by
    rw [firstPos, List.all_cons]
    by_cases h : k = 0
    · rw [if_pos h, firstPos_none r, decide_eq_true h, Bool.true_and]
    · rw [if_neg h, decide_eq_false h, Bool.false_and]; rfl
/-! ## so much loaded fills so much of what lacks -/
def ld (U n : Nat) : Lots := if n = 0 then [] else [(U, n)]
theorem ld_pos (U n : Nat) : Pos (ld U n) := fun x hx => by
  unfold ld at hx
  by_cases h : n = 0
  · rw [if_pos h] at hx; cases hx
  · rw [if_neg h] at hx
    have e := List.mem_singleton.mp hx
    rw [e]; show 0 < n; omega
theorem eat_ld (U n r : Nat) : eat r (ld U n) = (ld U (n - r), r - n) := by
  unfold ld
  by_cases h : n = 0
  · rw [if_pos h, if_pos (by omega), eat_nil, h]; rfl
  · rw [if_neg h]
    by_cases q : n ≤ r
    · rw [eat_le _ _ q, if_pos (by omega), eat_nil]
    · rw [eat_gt _ _ q, if_neg (by omega)]
      have e : r - n = 0 := by omega
      rw [e]
theorem eat_append : ∀ (l k : Lots) (m : Nat), Pos k → eat m (l ++ k) = ((eat m l).1 ++ (eat (eat m l).2 k).1, (eat (eat m l).2 k).2)
  | [], k, m, _ => rfl
  | (e, a) :: l, k, m, h => by
    show eat m ((e, a) :: (l ++ k)) = _
    by_cases q : a ≤ m
    · rw [eat_le e _ q, eat_le e _ q, eat_append l k (m - a) h]
    · rw [eat_gt e _ q, eat_gt e _ q]
      show _ = (_ ++ (eat 0 k).1, (eat 0 k).2)
      rw [eat_zero h]; rfl
theorem fresh_ld (U n t : Nat) : fresh_ (ld U n) t = ld U (if t ≤ U then n else 0) := by
  unfold ld fresh_
  by_cases h : n = 0
  · rw [if_pos h]
    by_cases q : t ≤ U
    · rw [if_pos q, if_pos h]; rfl
    · rw [if_neg q, if_pos rfl]; rfl
  · rw [if_neg h]
    by_cases q : t ≤ U
    · rw [if_pos q, if_neg h, List.filter_cons, if_pos (decide_eq_true q)]; rfl
    · rw [if_neg q, if_pos rfl, List.filter_cons, if_neg (by intro z; exact q (of_decide_eq_true z))]; rfl
def fill : List Nat → Nat → Nat → Nat → List Nat
  | [], _, _, _ => []
  | k :: ks, t, U, n => (k - n) :: fill ks (t + 1) U (if t + 1 ≤ U then n - k else 0)
theorem lacks_ld (U : Nat) : ∀ (r : List Nat) (t : Nat) (l : Lots) (n : Nat), lacks r t (l ++ ld U n) = fill (lacks r t l) t U n
  | [], _, _, _ => rfl
  | m :: r, t, l, n => by
    have e := eat_append l (ld U n) m (ld_pos U n)
    rw [eat_ld] at e
    rw [lacks, lacks, fill, e]
    show ((eat m l).2 - n) :: lacks r (t + 1) (fresh_ ((eat m l).1 ++ ld U (n - (eat m l).2)) (t + 1)) = _
    rw [fresh_append, fresh_ld, lacks_ld U r]
theorem fill_fill (U : Nat) : ∀ (ks : List Nat) (t a n : Nat), fill (fill ks t U a) t U n = fill ks t U (a + n)
  | [], _, _, _ => rfl
  | k :: ks, t, a, n => by
    rw [fill, fill, fill]
    have e : k - a - n = k - (a + n) := by omega
    rw [e, fill_fill U ks]
    have e2 : (if t + 1 ≤ U then a - k else 0) + (if t + 1 ≤ U then n - (k - a) else 0) = (if t + 1 ≤ U then a + n - k else 0) := by
      by_cases q : t + 1 ≤ U
      · rw [if_pos q, if_pos q, if_pos q]; omega
      · rw [if_neg q, if_neg q, if_neg q]
    rw [e2]
def zeros (ks : List Nat) : Bool := ks.all fun k => decide (k = 0)
theorem zeros_cons (k : Nat) (ks : List Nat) : zeros (k :: ks) = true ↔ k = 0 ∧ zeros ks = true := by
  unfold zeros; rw [List.all_cons, Bool.and_eq_true, decide_eq_true_eq]
theorem zeros_sum : ∀ {ks : List Nat}, zeros ks = true → ks.sum = 0
  | [], _ => rfl
  | k :: ks, h => by
    obtain ⟨a, b⟩ := (zeros_cons k ks).mp h
    rw [List.sum_cons, a, zeros_sum b]
theorem fill_none (U : Nat) : ∀ (ks : List Nat) (t : Nat), fill ks t U 0 = ks
  | [], _ => rfl
  | k :: ks, t => by
    have e : (if t + 1 ≤ U then 0 - k else 0) = 0 := by
      by_cases q : t + 1 ≤ U
      · rw [if_pos q]; omega
      · rw [if_neg q]
    rw [fill, e, fill_none U ks]; rfl
theorem fill_zeros (U : Nat) : ∀ (ks : List Nat) (t n : Nat), t ≤ U → (zeros (fill ks t U n) = true ↔ zeros (ks.drop (U + 1 - t)) = true ∧ (ks.take (U + 1 - t)).sum ≤ n)
  | [], t, n, _ => by
    rw [fill, List.drop_nil, List.take_nil]
    exact ⟨fun _ => ⟨rfl, Nat.zero_le _⟩, fun _ => rfl⟩
  | k :: ks, t, n, h => by
    rw [fill, zeros_cons]
    by_cases q : t + 1 ≤ U
    · rw [if_pos q, fill_zeros U ks (t + 1) (n - k) q]
      have e : U + 1 - t = (U + 1 - (t + 1)) + 1 := by omega
      rw [e, List.drop_succ_cons, List.take_succ_cons, List.sum_cons]
      constructor
      · rintro ⟨a, b, c⟩
        exact ⟨b, by omega⟩
      · rintro ⟨b, c⟩
        exact ⟨by omega, b, by omega⟩
    · rw [if_neg q, fill_none]
      have e : U + 1 - t = 1 := by omega
      rw [e]
      show k - n = 0 ∧ zeros ks = true ↔ zeros ks = true ∧ ([k] : List Nat).sum ≤ n
      rw [List.sum_cons, List.sum_nil]
      constructor
      · rintro ⟨a, b⟩
        exact ⟨b, by omega⟩
      · rintro ⟨b, c⟩
        exact ⟨by omega, b⟩
theorem snoc_of_getLast {α : Type} {l : List α} {x : α} (h : l.getLast? = some x) : l = l.dropLast ++ [x] := by
  cases l with
  | nil => cases h
  | cons a r =>
    rw [List.getLast?_eq_some_getLast (by simp)] at h
    have e := Option.some.inj h
    rw [← e]
    exact (List.dropLast_concat_getLast (by simp)).symm
/-- loading today fills what lacks -/
theorem lacks_with (g : Good) (r : List Nat) (t n : Nat) (hp : Pos g.lots) : lacks r t (g.with_ t n) = fill (lacks r t g.lots) t (t + g.life) n := by
  unfold Good.with_
  by_cases h : n = 0
  · rw [if_pos h, h, fill_none]
  · rw [if_neg h]
    cases e : g.lots.getLast? with
    | none =>
      have e2 : g.lots = [] := List.getLast?_eq_none_iff.mp e
      show lacks r t [(t + g.life, n)] = _
      rw [e2, ← lacks_ld]
      unfold ld
      rw [if_neg h]; rfl
    | some x =>
      have e2 := snoc_of_getLast e
      show lacks r t (if x.1 = t + g.life then g.lots.dropLast ++ [(x.1, x.2 + n)] else g.lots ++ [(t + g.life, n)]) = _
      by_cases q : x.1 = t + g.life
      · rw [if_pos q]
        have hx : 0 < x.2 := hp x (by rw [e2]; simp)
        have e3 : g.lots = g.lots.dropLast ++ ld (t + g.life) x.2 := by
          unfold ld
          rw [if_neg (by omega), ← q]; exact e2
        have e4 : lacks r t g.lots = fill (lacks r t g.lots.dropLast) t (t + g.life) x.2 := by
          rw [← lacks_ld]; exact congrArg (lacks r t) e3
        have e5 : ([(x.1, x.2 + n)] : Lots) = ld (t + g.life) (x.2 + n) := by
          unfold ld
          rw [if_neg (by omega), q]
        rw [e5, lacks_ld, e4, fill_fill]
      · rw [if_neg q, ← lacks_ld]
        unfold ld
        rw [if_neg h]
theorem with_fresh (g : Good) (t n : Nat) (h : Fresh g.lots t) : Fresh (g.with_ t n) t := by
  unfold Good.with_
  by_cases hn : n = 0
  · rw [if_pos hn]; exact h
  · rw [if_neg hn]
    cases e : g.lots.getLast? with
    | none =>
      intro x hx
      have e := List.mem_singleton.mp hx
      rw [e]; show t ≤ t + g.life; omega
    | some y =>
      show Fresh (if y.1 = t + g.life then g.lots.dropLast ++ [(y.1, y.2 + n)] else g.lots ++ [(t + g.life, n)]) t
      by_cases q : y.1 = t + g.life
      · rw [if_pos q]
        intro x hx
        rcases List.mem_append.mp hx with r | r
        · exact h x ((List.dropLast_sublist _).subset r)
        · have e := List.mem_singleton.mp r
          rw [e]; show t ≤ y.1; omega
      · rw [if_neg q]
        intro x hx
        rcases List.mem_append.mp hx with r | r
        · exact h x r
        · have e := List.mem_singleton.mp r
          rw [e]; show t ≤ t + g.life; omega
theorem with_pos (g : Good) (t n : Nat) (h : Pos g.lots) : Pos (g.with_ t n) := by
  unfold Good.with_
  by_cases hn : n = 0
  · rw [if_pos hn]; exact h
  · rw [if_neg hn]
    cases e : g.lots.getLast? with
    | none =>
      intro x hx
      have e := List.mem_singleton.mp hx
      rw [e]; show 0 < n; omega
    | some y =>
      show Pos (if y.1 = t + g.life then g.lots.dropLast ++ [(y.1, y.2 + n)] else g.lots ++ [(t + g.life, n)])
      by_cases q : y.1 = t + g.life
      · rw [if_pos q]
        intro x hx
        rcases List.mem_append.mp hx with r | r
        · exact h x ((List.dropLast_sublist _).subset r)
        · have e := List.mem_singleton.mp r
          rw [e]; show 0 < y.2 + n; omega
      · rw [if_neg q]
        intro x hx
        rcases List.mem_append.mp hx with r | r
        · exact h x r
        · have e := List.mem_singleton.mp r
          rw [e]; show 0 < n; omega
theorem with_amount (g : Good) (t n : Nat) : amount (g.with_ t n) = amount g.lots + n := by
  unfold Good.with_
  by_cases hn : n = 0
  · rw [if_pos hn]; omega
  · rw [if_neg hn]
    cases e : g.lots.getLast? with
    | none =>
      have e2 : g.lots = [] := List.getLast?_eq_none_iff.mp e
      show amount [(t + g.life, n)] = _
      rw [e2, amount_cons, amount_nil]; show n + 0 = 0 + n; omega
    | some y =>
      show amount (if y.1 = t + g.life then g.lots.dropLast ++ [(y.1, y.2 + n)] else g.lots ++ [(t + g.life, n)]) = _
      by_cases q : y.1 = t + g.life
      · rw [if_pos q, amount_append]
        have e3 : amount g.lots = amount g.lots.dropLast + y.2 := by
          have := congrArg amount (snoc_of_getLast e)
          rw [amount_append, amount_cons, amount_nil] at this
          omega
        rw [e3, amount_cons, amount_nil]; show _ + (y.2 + n + 0) = _; omega
      · rw [if_neg q, amount_append, amount_cons, amount_nil]; show _ + (n + 0) = _; omega
/-! ## the least to be loaded -/
theorem search_eq {p : Nat → Bool} {T : Nat} (hp : ∀ m, p m = true ↔ T ≤ m) : ∀ (f lo hi : Nat), lo ≤ T → T ≤ hi → hi - lo < 2 ^ f → search p f lo hi = T
  | 0, lo, hi, h1, h2, h3 => by
    rw [search]
    have : hi - lo < 1 := h3
    omega
  | f + 1, lo, hi, h1, h2, h3 => by
    rw [search]
    have h4 : hi - lo < 2 ^ f * 2 := h3
    by_cases a : hi ≤ lo
    · rw [if_pos a]; omega
    · rw [if_neg a]
      by_cases b : p ((lo + hi) / 2) = true
      · rw [if_pos b]
        exact search_eq hp f _ _ h1 ((hp _).mp b) (by omega)
      · rw [if_neg b]
        have c : ¬ T ≤ (lo + hi) / 2 := fun z => b ((hp _).mpr z)
        exact search_eq hp f _ _ (by omega) h2 (by omega)
/-! ## what spoils -/
def live (g : Good) : List Nat → Nat → Good
  | [], _ => g
  | n :: r, t => live (g.day n t) r (t + 1)
theorem day_lots (g : Good) (n t : Nat) : (g.day n t).lots = fresh_ (eat n g.lots).1 (t + 1) := rfl
theorem day_spoilt (g : Good) (n t : Nat) : (g.day n t).spoilt = g.spoilt + amount (stale (eat n g.lots).1 (t + 1)) := rfl
theorem day_lacked (g : Good) (n t : Nat) : (g.day n t).lacked = g.lacked + (eat n g.lots).2 := rfl
theorem spoils_fresh (r : List Nat) (t : Nat) (l : Lots) : spoils (r ++ [0]) t l = amount (stale l t) + spoils (r ++ [0]) t (fresh_ l t) := by
  have e0 : stale (fresh_ l t) t = [] := stale_of (fresh_fresh l t)
  have e1 : fresh_ (fresh_ l t) t = fresh_ l t := fresh_of (fresh_fresh l t)
  cases r with
  | nil =>
    show amount (stale l t) + spoils [] (t + 1) _ = amount (stale l t) + (amount (stale (fresh_ l t) t) + spoils [] (t + 1) _)
    rw [e0, amount_nil, spoils, spoils]
  | cons n r =>
    show amount (stale l t) + spoils (r ++ [0]) (t + 1) (eat n (fresh_ l t)).1 = amount (stale l t) + (amount (stale (fresh_ l t) t) + spoils (r ++ [0]) (t + 1) (eat n (fresh_ (fresh_ l t) t)).1)
    rw [e0, amount_nil, e1]; omega
theorem live_spoilt : ∀ (r : List Nat) (g : Good) (t : Nat), Fresh g.lots t → (live g r t).spoilt = g.spoilt + spoils (r ++ [0]) t g.lots
  | [], g, t, h => by
    show g.spoilt = g.spoilt + (amount (stale g.lots t) + spoils [] (t + 1) _)
    rw [stale_of h, amount_nil, spoils]; rfl
  | n :: r, g, t, h => by
    rw [live, live_spoilt r _ _ (by rw [day_lots]; exact fresh_fresh _ _), day_spoilt, day_lots]
    show _ = g.spoilt + (amount (stale g.lots t) + spoils (r ++ [0]) (t + 1) (eat n (fresh_ g.lots t)).1)
    rw [stale_of h, amount_nil, fresh_of h, spoils_fresh r (t + 1) (eat n g.lots).1]
    omega
theorem live_lacks : ∀ (r : List Nat) (g : Good) (t : Nat), (live g r t).lacked = g.lacked + (lacks r t g.lots).sum
  | [], g, t => rfl
  | n :: r, g, t => by
    rw [live, live_lacks r, day_lacked, day_lots, lacks, List.sum_cons]; omega
end Sd

end
section
set_option Elab.async false
set_option linter.all false
namespace Sd
open Km438
structure GoodOk (t : Nat) (g : Good) : Prop where
  per1 : 1 ≤ g.per
  per2 : g.per ≤ 1000
  life1 : 1 ≤ g.life
  life2 : g.life ≤ 100
  pos : Pos g.lots
  fresh : Fresh g.lots t
  few : g.lots.length ≤ 6
structure ShipOk (s : Ship) : Prop where
  last1 : 1 ≤ s.last
  last2 : s.last ≤ 60
  today : s.today ≤ s.last + 1
  plen : s.persons.length = s.last + 1
  pmost : ∀ n ∈ s.persons, n ≤ 5000
  ports : s.ports.Nodup
  pin : ∀ d ∈ s.ports, d ≤ s.last
  glen : s.goods.length ≤ 6
  goods : ∀ g ∈ s.goods, GoodOk s.today g
  full : s.full ≤ s.room
structure DeskOk (d : Desk) : Prop where
  now : ShipOk d.now
  past : ∀ s ∈ d.past, ShipOk s
  future : ∀ s ∈ d.future, ShipOk s
  few : d.past.length + d.future.length ≤ 30
theorem good_at {s : Ship} {g : Nat} {x : Good} (h : s.goods[g]? = some x) : s.good g = x := by
  unfold Ship.good
  rw [List.getD_eq_getElem?_getD, h]; rfl
theorem good_there {s : Ship} {g : Nat} (h : ¬ s.goods.length ≤ g) : ∃ x, s.goods[g]? = some x := ⟨_, List.getElem?_eq_getElem (by omega)⟩
theorem ShipOk.good {s : Ship} (o : ShipOk s) {g : Nat} {x : Good} (h : s.goods[g]? = some x) : GoodOk s.today x := o.goods x (List.mem_of_getElem? h)
/-! ## how full it is -/
theorem sum_map_set {α : Type} (f : α → Nat) : ∀ {l : List α} {i : Nat} {x : α} (y : α), l[i]? = some x → ((l.set i y).map f).sum + f x = (l.map f).sum + f y
  | [], i, x, y, h => by simp at h
  | a :: l, 0, x, y, h => by
    have e : a = x := Option.some.inj h
    subst e
    show f y + (l.map f).sum + f a = f a + (l.map f).sum + f y
    omega
  | a :: l, i + 1, x, y, h => by
    have ih := sum_map_set f (l := l) (i := i) (x := x) y h
    show f a + ((l.set i y).map f).sum + f x = f a + (l.map f).sum + f y
    omega
theorem full_eq (s : Ship) : s.full = (s.goods.map fun g => amount g.lots).sum := by unfold Ship.full; rw [sum_eq]
theorem full_set {s : Ship} {g : Nat} {x : Good} (y : Good) (h : s.goods[g]? = some x) : (s.setGood g y).full + amount x.lots = s.full + amount y.lots := by
  rw [full_eq, full_eq]
  exact sum_map_set (fun g : Good => amount g.lots) y h
theorem mem_set {α : Type} {l : List α} {i : Nat} {x y : α} (h : y ∈ l.set i x) : y = x ∨ y ∈ l := by
  rcases List.mem_or_eq_of_mem_set h with r | r
  · exact .inr r
  · exact .inl r
theorem ShipOk.set {s : Ship} (o : ShipOk s) {g : Nat} {x : Good} (y : Good) (h : s.goods[g]? = some x) (hy : GoodOk s.today y) (hf : s.full + amount y.lots ≤ s.room + amount x.lots) : ShipOk (s.setGood g y) := by
  refine ⟨o.last1, o.last2, o.today, o.plen, o.pmost, o.ports, o.pin, ?_, fun z hz => ?_, ?_⟩
  · show (s.goods.set g y).length ≤ 6
    rw [List.length_set]; exact o.glen
  · rcases mem_set (show z ∈ s.goods.set g y from hz) with r | r
    · rw [r]; exact hy
    · exact o.goods z r
  · have e := full_set y h
    show (s.setGood g y).full ≤ s.room
    omega
/-! ## a day -/
theorem eat_fresh_amount (l : Lots) (n t : Nat) : amount (fresh_ (eat n l).1 t) ≤ amount l := by
  have a := fresh_stale t (eat n l).1
  have b := eat_left l n
  omega
theorem GoodOk.day {g : Good} {t : Nat} (o : GoodOk t g) (n : Nat) : GoodOk (t + 1) (g.day n t) :=
  ⟨o.per1, o.per2, o.life1, o.life2, fresh_pos _ (eat_pos n o.pos), fresh_fresh _ _, Nat.le_trans (Nat.le_trans (fresh_length _ _) (eat_length _ _)) o.few⟩
theorem day_goods (s : Ship) : s.day.goods = s.goods.map fun g => g.day (s.persons.getD s.today 0 * g.per) s.today := by
  unfold Ship.day
  apply List.ext_getElem?
  intro i
  show ((List.range s.goods.length).map fun g => (s.good g).day (s.need g s.today) s.today)[i]? = _
  rw [List.getElem?_map, List.getElem?_map]
  by_cases h : i < s.goods.length
  · rw [List.getElem?_range h, List.getElem?_eq_getElem h]
    have e : s.good i = s.goods[i] := good_at (List.getElem?_eq_getElem h)
    show some ((s.good i).day (s.persons.getD s.today 0 * (s.good i).per) s.today) = _
    rw [e]; rfl
  · rw [List.getElem?_eq_none (by rw [List.length_range]; omega), List.getElem?_eq_none (by omega)]; rfl
theorem sum_map_le {α : Type} {f : α → Nat} {g : α → α} (h : ∀ x, f (g x) ≤ f x) : ∀ l : List α, ((l.map g).map f).sum ≤ (l.map f).sum
  | [] => Nat.le_refl _
  | a :: l => by
    show f (g a) + ((l.map g).map f).sum ≤ f a + (l.map f).sum
    have := sum_map_le h l
    have := h a
    omega
theorem ShipOk.day {s : Ship} (o : ShipOk s) (h : s.today ≤ s.last) : ShipOk s.day := by
  refine ⟨o.last1, o.last2, (by show s.today + 1 ≤ s.last + 1; omega), o.plen, o.pmost, o.ports, o.pin, ?_, fun z hz => ?_, ?_⟩
  · rw [day_goods, List.length_map]; exact o.glen
  · rw [day_goods] at hz
    obtain ⟨g, hg, e⟩ := List.mem_map.mp hz
    rw [← e]; exact (o.goods g hg).day _
  · rw [full_eq, day_goods]
    have a := sum_map_le (f := fun g : Good => amount g.lots) (g := fun g : Good => g.day (s.persons.getD s.today 0 * g.per) s.today) (fun x => eat_fresh_amount _ _ _) s.goods
    have b := o.full
    rw [full_eq] at b
    exact Nat.le_trans a b
theorem days_last : ∀ (n : Nat) (s : Ship), (s.days n).last = s.last ∧ (s.days n).room = s.room ∧ (s.days n).today = s.today + n ∧ (s.days n).persons = s.persons ∧ (s.days n).ports = s.ports ∧ (s.days n).goods.length = s.goods.length
  | 0, s => ⟨rfl, rfl, rfl, rfl, rfl, rfl⟩
  | n + 1, s => by
    obtain ⟨a, b, c, d, e, f⟩ := days_last n s.day
    have f2 : s.day.goods.length = s.goods.length := by rw [day_goods, List.length_map]
    exact ⟨a, b, by rw [Ship.days, c]; show s.today + 1 + n = s.today + (n + 1); omega, d, e, by rw [Ship.days, f, f2]⟩
theorem ShipOk.days : ∀ {n : Nat} {s : Ship}, ShipOk s → s.today + n ≤ s.last + 1 → ShipOk (s.days n)
  | 0, s, o, _ => o
  | n + 1, s, o, h => by
    rw [Ship.days]
    exact ShipOk.days (o.day (by omega)) (by show s.today + 1 + n ≤ s.last + 1; omega)
theorem days_succ : ∀ (n : Nat) (s : Ship), s.days (n + 1) = (s.days n).day
  | 0, s => rfl
  | n + 1, s => by
    rw [Ship.days, days_succ n s.day]; rfl
/-! ## every call keeps the desk in order -/
theorem opened_ok {a b c : Nat} (h : okStart a b c = true) : ShipOk (opened a b c) := by
  unfold okStart at h
  simp only [Bool.and_eq_true, decide_eq_true_eq] at h
  obtain ⟨h1, h2, h3, h4, h5⟩ := h
  refine ⟨h1, h2, Nat.zero_le _, by show (List.replicate (a + 1) c).length = a + 1; rw [List.length_replicate], fun n hn => ?_, by show ([0] : List Nat).Nodup; simp, fun d hd => ?_, Nat.zero_le _, fun g hg => (by cases hg), Nat.zero_le _⟩
  · rw [(List.mem_replicate.mp (show n ∈ List.replicate (a + 1) c from hn)).2]; exact h5
  · have e := List.mem_singleton.mp (show d ∈ [0] from hd)
    rw [e]; exact Nat.zero_le _
theorem DeskOk.become {d : Desk} {s : Ship} (o : DeskOk d) (h : ShipOk s) : DeskOk (d.become s) := by
  refine ⟨h, fun x hx => ?_, fun x hx => (by cases hx), ?_⟩
  · rcases List.mem_cons.mp (List.mem_of_mem_take (show x ∈ (d.now :: d.past).take PAST from hx)) with r | r
    · rw [r]; exact o.now
    · exact o.past x r
  · show ((d.now :: d.past).take PAST).length + 0 ≤ 30
    rw [List.length_take]
    exact Nat.min_le_left _ _
theorem nodup_filter {α : Type} {p : α → Bool} : ∀ {l : List α}, l.Nodup → (l.filter p).Nodup
  | [], _ => List.nodup_nil
  | a :: l, h => by
    obtain ⟨h1, h2⟩ := List.nodup_cons.mp h
    rw [List.filter_cons]
    by_cases q : p a = true
    · rw [if_pos q]
      exact List.nodup_cons.mpr ⟨fun z => h1 (List.mem_filter.mp z).1, nodup_filter h2⟩
    · rw [if_neg q]; exact nodup_filter h2
theorem nodup_snoc {α : Type} : ∀ {l : List α} {a : α}, l.Nodup → a ∉ l → (l ++ [a]).Nodup
  | [], a, _, _ => by simp
  | b :: l, a, h, q => by
    obtain ⟨h1, h2⟩ := List.nodup_cons.mp h
    show (b :: (l ++ [a])).Nodup
    refine List.nodup_cons.mpr ⟨fun z => ?_, nodup_snoc h2 fun z => q (List.mem_cons_of_mem _ z)⟩
    rcases List.mem_append.mp z with r | r
    · exact h1 r
    · exact q (by rw [List.mem_singleton.mp r]; exact List.mem_cons_self)
theorem with_length (g : Good) (t n : Nat) : g.lots.length ≤ (g.with_ t n).length ∨ True := .inr trivial
theorem act_ok {d : Desk} (o : DeskOk d) (c : Call) : DeskOk (act d c).1 := by
  cases c with
  | start a b c =>
    show DeskOk (if okStart a b c = false then (d, only (-22)) else (⟨opened a b c, [], []⟩, only 0)).1
    by_cases h : okStart a b c = false
    · rw [if_pos h]; exact o
    · rw [if_neg h]
      exact ⟨opened_ok (by cases e : okStart a b c with | true => rfl | false => exact absurd e h), fun x hx => (by cases hx), fun x hx => (by cases hx), Nat.zero_le _⟩
  | good p l =>
    simp only [act]
    by_cases h : p = 0 ∨ 1000 < p ∨ l = 0 ∨ 100 < l
    · rw [if_pos h]; exact o
    · rw [if_neg h]
      by_cases q : GOODS ≤ d.now.goods.length
      · rw [if_pos q]; exact o
      · rw [if_neg q]
        have hg : d.now.goods.length < 6 := Nat.lt_of_not_le q
        have w := o.now
        refine o.become ⟨w.last1, w.last2, w.today, w.plen, w.pmost, w.ports, w.pin, ?_, fun z hz => ?_, ?_⟩
        · show (d.now.goods ++ [_]).length ≤ 6
          rw [List.length_append]; show _ + 1 ≤ 6; omega
        · rcases List.mem_append.mp (show z ∈ d.now.goods ++ [_] from hz) with r | r
          · exact w.goods z r
          · rw [List.mem_singleton.mp r]
            exact ⟨by show 1 ≤ p; omega, by show p ≤ 1000; omega, by show 1 ≤ l; omega, by show l ≤ 100; omega, fun x hx => (by cases hx), fun x hx => (by cases hx), Nat.zero_le _⟩
        · have b := w.full
          rw [full_eq] at b ⊢
          show ((d.now.goods ++ [_]).map _).sum ≤ _
          rw [List.map_append, List.sum_append]
          show _ + (0 + 0) ≤ d.now.room
          omega
  | persons t n =>
    simp only [act]
    by_cases h : t < d.now.today ∨ d.now.last < t ∨ 5000 < n
    · rw [if_pos h]; exact o
    · rw [if_neg h]
      have w := o.now
      refine o.become ⟨w.last1, w.last2, w.today, ?_, fun z hz => ?_, w.ports, w.pin, w.glen, w.goods, w.full⟩
      · show (d.now.persons.set t n).length = _
        rw [List.length_set]; exact w.plen
      · rcases mem_set (show z ∈ d.now.persons.set t n from hz) with r | r
        · omega
        · exact w.pmost z r
  | port t p =>
    simp only [act]
    by_cases h : t ≤ d.now.today ∨ d.now.last < t ∨ 1 < p
    · rw [if_pos h]; exact o
    · rw [if_neg h]
      by_cases q : d.now.ports.contains t = (p == 1)
      · rw [if_pos q]; exact o
      · rw [if_neg q]
        have w := o.now
        refine o.become ⟨w.last1, w.last2, w.today, w.plen, w.pmost, ?_, fun z hz => ?_, w.glen, w.goods, w.full⟩
        · show (if p = 1 then d.now.ports ++ [t] else d.now.ports.filter fun x => x != t).Nodup
          by_cases e : p = 1
          · rw [if_pos e]
            refine nodup_snoc w.ports fun z => q ?_
            rw [List.contains_iff_mem.mpr z, e]; rfl
          · rw [if_neg e]; exact nodup_filter w.ports
        · have hz' : z ∈ (if p = 1 then d.now.ports ++ [t] else d.now.ports.filter fun x => x != t) := hz
          show z ≤ d.now.last
          by_cases e : p = 1
          · rw [if_pos e] at hz'
            rcases List.mem_append.mp hz' with r | r
            · exact w.pin z r
            · rw [List.mem_singleton.mp r]; omega
          · rw [if_neg e] at hz'
            exact w.pin z (List.mem_filter.mp hz').1
  | load g n =>
    simp only [act]
    cases e : d.now.goods[g]? with
    | none => exact o
    | some x =>
      show DeskOk (if n = 0 then (d, only (-22)) else if d.now.ports.contains d.now.today = false then (d, only (-16)) else if d.now.room < d.now.full + n ∨ MOST < x.loaded + n then (d, only (-62)) else if LOTS < (x.with_ d.now.today n).length then (d, only (-28)) else (_, _)).1
      by_cases h1 : n = 0
      · rw [if_pos h1]; exact o
      · rw [if_neg h1]
        by_cases h2 : d.now.ports.contains d.now.today = false
        · rw [if_pos h2]; exact o
        · rw [if_neg h2]
          by_cases h3 : d.now.room < d.now.full + n ∨ MOST < x.loaded + n
          · rw [if_pos h3]; exact o
          · rw [if_neg h3]
            by_cases h4 : LOTS < (x.with_ d.now.today n).length
            · rw [if_pos h4]; exact o
            · rw [if_neg h4]
              have w := o.now
              have k := w.good e
              refine o.become (w.set _ e ⟨k.per1, k.per2, k.life1, k.life2, with_pos x _ _ k.pos, with_fresh x _ _ k.fresh, Nat.le_of_not_lt h4⟩ ?_)
              show d.now.full + amount (x.with_ d.now.today n) ≤ d.now.room + amount x.lots
              rw [with_amount]; omega
  | give g n =>
    simp only [act]
    cases e : d.now.goods[g]? with
    | none => exact o
    | some x =>
      show DeskOk (if n = 0 then (d, only (-22)) else if amount x.lots < n then (d, only (-12)) else (_, _)).1
      by_cases h1 : n = 0
      · rw [if_pos h1]; exact o
      · rw [if_neg h1]
        by_cases h2 : amount x.lots < n
        · rw [if_pos h2]; exact o
        · rw [if_neg h2]
          have w := o.now
          have k := w.good e
          refine o.become (w.set _ e ⟨k.per1, k.per2, k.life1, k.life2, eat_pos n k.pos, eat_fresh n k.fresh, Nat.le_trans (eat_length _ _) k.few⟩ ?_)
          show d.now.full + amount (eat n x.lots).1 ≤ d.now.room + amount x.lots
          have := eat_left x.lots n
          have := w.full
          omega
  | ration g p =>
    simp only [act]
    cases e : d.now.goods[g]? with
    | none => exact o
    | some x =>
      show DeskOk (if p = 0 ∨ 1000 < p then (d, only (-22)) else (_, _)).1
      by_cases h1 : p = 0 ∨ 1000 < p
      · rw [if_pos h1]; exact o
      · rw [if_neg h1]
        have w := o.now
        have k := w.good e
        refine o.become (w.set _ e ⟨by show 1 ≤ p; omega, by show p ≤ 1000; omega, k.life1, k.life2, k.pos, k.fresh, k.few⟩ ?_)
        show d.now.full + amount x.lots ≤ d.now.room + amount x.lots
        have := w.full
        omega
  | days n =>
    simp only [act]
    by_cases h1 : n = 0 ∨ 60 < n
    · rw [if_pos h1]; exact o
    · rw [if_neg h1]
      by_cases h2 : d.now.last + 1 < d.now.today + n
      · rw [if_pos h2]; exact o
      · rw [if_neg h2]
        exact o.become (o.now.days (by omega))
  | back =>
    simp only [act]
    have op := o.past
    have ofw := o.few
    cases e : d.past with
    | nil => exact o
    | cons k r =>
      rw [e] at op ofw
      refine ⟨op k List.mem_cons_self, fun x hx => op x (List.mem_cons_of_mem _ hx), fun x hx => ?_, ?_⟩
      · rcases List.mem_cons.mp (show x ∈ d.now :: d.future from hx) with q | q
        · rw [q]; exact o.now
        · exact o.future x q
      · rw [List.length_cons] at ofw
        show r.length + (d.now :: d.future).length ≤ 30
        rw [List.length_cons]; omega
  | again =>
    simp only [act]
    have of_ := o.future
    have ofw := o.few
    cases e : d.future with
    | nil => exact o
    | cons k r =>
      rw [e] at of_ ofw
      refine ⟨of_ k List.mem_cons_self, fun x hx => ?_, fun x hx => of_ x (List.mem_cons_of_mem _ hx), ?_⟩
      · rcases List.mem_cons.mp (List.mem_of_mem_take (show x ∈ (d.now :: d.past).take PAST from hx)) with q | q
        · rw [q]; exact o.now
        · exact o.past x q
      · rw [List.length_cons] at ofw
        show ((d.now :: d.past).take PAST).length + r.length ≤ 30
        rw [List.length_take, List.length_cons]; omega
  | lasts g => exact o
  | least g => exact o
  | enough g n => exact o
  | need g a b => exact o
  | spoils g => exact o
  | stock g => exact o
  | lot g i => exact o
  | look g => exact o
  | who t => exact o
  | next => exact o
  | short => exact o
  | room => exact o
  | sums g => exact o
  | state => exact o
/-! ## the next port -/
theorem find_first {p : Nat → Bool} {n d : Nat} (hd : d < n) (hp : p d = true) (hb : ∀ e, e < d → p e = false) : (List.range n).find? p = some d := by
  rw [List.find?_range_eq_some]
  exact ⟨hp, List.mem_range.mpr hd, fun e he => by rw [hb e he]; rfl⟩
theorem next_found {s : Ship} {d : Nat} (h1 : s.today < d) (h2 : d ≤ s.last) (h3 : s.ports.contains d = true) (h4 : ∀ e, s.today < e → e < d → s.ports.contains e = false) : s.next = d := by
  unfold Ship.next
  rw [find_first (d := d) (by omega) (by rw [h3, decide_eq_true h1]; rfl) (fun e he => ?_)]
  · rfl
  · by_cases q : s.today < e
    · rw [h4 e q he, Bool.and_false]
    · rw [decide_eq_false q, Bool.false_and]
theorem next_none {s : Ship} (h : ∀ e, s.today < e → e ≤ s.last → s.ports.contains e = false) : s.next = s.last + 1 := by
  unfold Ship.next
  rw [List.find?_eq_none.mpr fun e he => ?_]
  · rfl
  · have h2 := List.mem_range.mp he
    by_cases q : s.today < e
    · rw [h e q (by omega), Bool.and_false]; exact Bool.false_ne_true
    · rw [decide_eq_false q, Bool.false_and]; exact Bool.false_ne_true
theorem next_le (s : Ship) : s.next ≤ s.last + 1 := by
  unfold Ship.next
  cases e : (List.range (s.last + 1)).find? fun t => decide (s.today < t) && s.ports.contains t with
  | none => exact Nat.le_refl _
  | some d =>
    have := List.mem_range.mp (List.mem_of_find?_eq_some e)
    show d ≤ s.last + 1
    omega
theorem next_gt {s : Ship} (h : s.today ≤ s.last) : s.today < s.next := by
  unfold Ship.next
  cases e : (List.range (s.last + 1)).find? fun t => decide (s.today < t) && s.ports.contains t with
  | none => show s.today < s.last + 1; omega
  | some d =>
    have := List.find?_some e
    exact of_decide_eq_true (Bool.and_eq_true _ _ ▸ this).1
theorem next_ge {s : Ship} (o : ShipOk s) : s.today ≤ s.next := by
  by_cases h : s.today ≤ s.last
  · exact Nat.le_of_lt (next_gt h)
  · have e : s.next = s.last + 1 := next_none fun e h1 h2 => by omega
    have := o.today
    omega
/-! ## what is needed -/
def needsOf (s : Ship) (per a b : Nat) : List Nat := (List.range (b - a)).map fun i => s.persons.getD (a + i) 0 * per
theorem needs_eq (s : Ship) (g a b : Nat) : s.needs g a b = needsOf s (s.good g).per a b := rfl
theorem needsOf_length (s : Ship) (per a b : Nat) : (needsOf s per a b).length = b - a := by unfold needsOf; rw [List.length_map, List.length_range]
theorem persons_le {s : Ship} (o : ShipOk s) (d : Nat) : s.persons.getD d 0 ≤ 5000 := by
  rw [List.getD_eq_getElem?_getD]
  cases e : s.persons[d]? with
  | none => exact Nat.zero_le _
  | some n => exact o.pmost n (List.mem_of_getElem? e)
theorem sum_le_mul {l : List Nat} {k : Nat} (h : ∀ x ∈ l, x ≤ k) : l.sum ≤ l.length * k := by
  induction l with
  | nil => exact Nat.zero_le _
  | cons a l ih =>
    rw [List.sum_cons, List.length_cons, Nat.succ_mul]
    have := ih fun x hx => h x (List.mem_cons_of_mem _ hx)
    have := h a List.mem_cons_self
    omega
theorem needs_small {s : Ship} (o : ShipOk s) {per a b : Nat} (hp : per ≤ 1000) (hb : b ≤ s.last + 1) : (needsOf s per a b).sum < 2 ^ 64 := by
  have h := sum_le_mul (l := needsOf s per a b) (k := 5000000) fun x hx => by
    obtain ⟨i, _, e⟩ := List.mem_map.mp hx
    rw [← e]
    exact Nat.mul_le_mul (persons_le o _) hp
  rw [needsOf_length] at h
  have h2 : b - a ≤ 61 := by have := o.last2; omega
  have h3 : (b - a) * 5000000 ≤ 61 * 5000000 := Nat.mul_le_mul_right _ h2
  have h4 : 61 * 5000000 < 2 ^ 64 := by decide
  omega
/-! ## enough, the least, lasting -/
theorem isNone_lack {r : List Nat} {t : Nat} {l : Lots} (h : Fresh l t) : (firstLack r t l).isNone = zeros (lacks r t l) := by
  rw [firstLack_eq r t l h, firstPos_none]; rfl
theorem enough_eq {s : Ship} {g : Nat} {x : Good} (o : ShipOk s) (e : s.goods[g]? = some x) (n : Nat) : s.enough g n = zeros (lacks (needsOf s x.per s.today s.next) s.today (x.with_ s.today n)) := by
  unfold Ship.enough
  rw [needs_eq, good_at e, isNone_lack (with_fresh x _ _ (o.good e).fresh)]
theorem enough_iff {s : Ship} {g : Nat} {x : Good} (o : ShipOk s) (e : s.goods[g]? = some x) (n : Nat) :
    s.enough g n = true ↔ zeros ((lacks (needsOf s x.per s.today s.next) s.today x.lots).drop (x.life + 1)) = true ∧ ((lacks (needsOf s x.per s.today s.next) s.today x.lots).take (x.life + 1)).sum ≤ n := by
  rw [enough_eq o e, lacks_with _ _ _ _ (o.good e).pos, fill_zeros _ _ _ _ (by omega)]
  have e1 : s.today + x.life + 1 - s.today = x.life + 1 := by omega
  rw [e1]
theorem sum_take_drop (l : List Nat) (n : Nat) : (l.take n).sum + (l.drop n).sum = l.sum := by
  rw [← List.sum_append, List.take_append_drop]
theorem least_eq {s : Ship} {g : Nat} {x : Good} (o : ShipOk s) (e : s.goods[g]? = some x) :
    s.least g = if zeros ((lacks (needsOf s x.per s.today s.next) s.today x.lots).drop (x.life + 1)) = true then some (lacks (needsOf s x.per s.today s.next) s.today x.lots).sum else none := by
  unfold Ship.least
  rw [sum_eq, needs_eq, good_at e]
  have hle := lacks_le (needsOf s x.per s.today s.next) s.today x.lots
  have hsm := needs_small o (a := s.today) (o.good e).per2 (next_le s)
  have hiff := enough_iff o e
  have hts := sum_take_drop (lacks (needsOf s x.per s.today s.next) s.today x.lots) (x.life + 1)
  by_cases hz : zeros ((lacks (needsOf s x.per s.today s.next) s.today x.lots).drop (x.life + 1)) = true
  · have hz0 := zeros_sum hz
    rw [if_pos ((hiff _).mpr ⟨hz, by omega⟩), if_pos hz]
    congr 1
    refine search_eq (T := (lacks (needsOf s x.per s.today s.next) s.today x.lots).sum) (fun m => ?_) 64 0 _ (Nat.zero_le _) hle (by omega)
    rw [hiff m]
    constructor
    · rintro ⟨_, b⟩; omega
    · intro b; exact ⟨hz, by omega⟩
  · rw [if_neg hz, if_neg fun q => hz ((hiff _).mp q).1]
/-! ## the ports as signs -/
def signs (s : Ship) : List Nat := (List.range (s.last + 1)).map fun d => bit (s.ports.contains d)
theorem signs_length (s : Ship) : (signs s).length = s.last + 1 := by unfold signs; rw [List.length_map, List.length_range]
theorem signs_at (s : Ship) {d : Nat} (h : d ≤ s.last) : (signs s)[d]? = some (bit (s.ports.contains d)) := by
  unfold signs
  rw [List.getElem?_map, List.getElem?_range (by omega)]; rfl
theorem signs_opened (a b c : Nat) : signs (opened a b c) = 1 :: List.replicate a 0 := by
  apply List.ext_getElem?
  intro i
  unfold signs
  rw [List.getElem?_map]
  show Option.map (fun d => bit (([0] : List Nat).contains d)) (List.range (a + 1))[i]? = _
  cases i with
  | zero => rw [List.getElem?_range (by omega)]; rfl
  | succ j =>
    rw [List.getElem?_cons_succ, List.getElem?_replicate]
    by_cases h : j < a
    · rw [List.getElem?_range (by omega), if_pos h]; rfl
    · rw [if_neg h, List.getElem?_eq_none (by rw [List.length_range]; omega)]; rfl
theorem signs_port {s : Ship} {t p : Nat} (h : t ≤ s.last) (hp : ¬ 1 < p) (hq : ¬ s.ports.contains t = (p == 1)) :
    signs { s with ports := if p = 1 then s.ports ++ [t] else s.ports.filter fun x => x != t } = (signs s).set t p := by
  apply List.ext_getElem?
  intro i
  rw [List.getElem?_set, signs_length]
  unfold signs
  rw [List.getElem?_map, List.getElem?_map]
  show Option.map (fun d => bit ((if p = 1 then s.ports ++ [t] else s.ports.filter fun x => x != t).contains d)) (List.range (s.last + 1))[i]? = _
  by_cases hi : i < s.last + 1
  · rw [List.getElem?_range hi]
    show some (bit ((if p = 1 then s.ports ++ [t] else s.ports.filter fun x => x != t).contains i)) = _
    by_cases e : t = i
    · subst e
      rw [if_pos rfl, if_pos hi]
      by_cases e1 : p = 1
      · rw [if_pos e1, List.contains_iff_mem.mpr (by simp), e1]; rfl
      · have e0 : p = 0 := by omega
        rw [if_neg e1, e0]
        have : (s.ports.filter fun x => x != t).contains t = false := by
          cases z : (s.ports.filter fun x => x != t).contains t with
          | false => rfl
          | true =>
            have := (List.mem_filter.mp (List.contains_iff_mem.mp z)).2
            simp at this
        rw [this]; rfl
    · rw [if_neg e]
      have : (if p = 1 then s.ports ++ [t] else s.ports.filter fun x => x != t).contains i = s.ports.contains i := by
        apply Bool.eq_iff_iff.mpr
        rw [List.contains_iff_mem, List.contains_iff_mem]
        by_cases e1 : p = 1
        · rw [if_pos e1, List.mem_append, List.mem_singleton]
          exact ⟨fun z => z.elim id fun q => absurd q.symm e, .inl⟩
        · rw [if_neg e1, List.mem_filter]
          exact ⟨fun z => z.1, fun z => ⟨z, bne_iff_ne.mpr fun q => e q.symm⟩⟩
      rw [this]; rfl
  · rw [List.getElem?_eq_none (by rw [List.length_range]; omega)]
    by_cases e : t = i
    · omega
    · rw [if_neg e]; rfl
theorem count_range (l : List Nat) : ∀ n, l.Nodup → (∀ d ∈ l, d < n) → ((List.range n).map fun d => bit (l.contains d)).sum = l.length := by
  intro n
  induction n generalizing l with
  | zero =>
    intro _ h
    cases l with
    | nil => rfl
    | cons a r => exact absurd (h a List.mem_cons_self) (Nat.not_lt_zero _)
  | succ n ih =>
    intro hn h
    rw [List.range_succ, List.map_append, List.sum_append]
    show _ + (bit (l.contains n) + 0) = _
    have key := ih (l.filter fun x => x != n) (nodup_filter hn) fun d hd => by
      have a := h d (List.mem_filter.mp hd).1
      have b := bne_iff_ne.mp (List.mem_filter.mp hd).2
      omega
    have e1 : ((List.range n).map fun d => bit (l.contains d)) = ((List.range n).map fun d => bit ((l.filter fun x => x != n).contains d)) := by
      apply List.map_congr_left
      intro d hd
      have hd' := List.mem_range.mp hd
      have : l.contains d = (l.filter fun x => x != n).contains d := by
        apply Bool.eq_iff_iff.mpr
        rw [List.contains_iff_mem, List.contains_iff_mem, List.mem_filter]
        exact ⟨fun z => ⟨z, bne_iff_ne.mpr (by omega)⟩, fun z => z.1⟩
      rw [this]
    rw [e1, key]
    by_cases q : n ∈ l
    · rw [List.contains_iff_mem.mpr q]
      have e2 : ∀ {l : List Nat}, l.Nodup → n ∈ l → (l.filter fun x => x != n).length + 1 = l.length := by
        intro l
        induction l with
        | nil => intro _ z; cases z
        | cons a r ih2 =>
          intro hn2 hm
          obtain ⟨g1, g2⟩ := List.nodup_cons.mp hn2
          rw [List.filter_cons]
          by_cases ea : a = n
          · subst ea
            have : (r.filter fun x => x != a) = r := List.filter_eq_self.mpr fun x hx => bne_iff_ne.mpr fun z => g1 (z ▸ hx)
            rw [if_neg (by simp), this, List.length_cons]
          · rw [if_pos (bne_iff_ne.mpr ea), List.length_cons, List.length_cons, ih2 g2 ((List.mem_cons.mp hm).resolve_left fun z => ea z.symm)]
      have := e2 hn q
      show _ + (1 + 0) = _
      omega
    · have e3 : (l.filter fun x => x != n) = l := List.filter_eq_self.mpr fun x hx => bne_iff_ne.mpr fun z => q (z ▸ hx)
      have e4 : l.contains n = false := by
        cases z : l.contains n with
        | false => rfl
        | true => exact absurd (List.contains_iff_mem.mp z) q
      rw [e3, e4]; rfl
theorem signs_sum {s : Ship} (o : ShipOk s) : (signs s).sum = s.ports.length := count_range s.ports _ o.ports fun d hd => Nat.lt_succ_of_le (o.pin d hd)
/-! ## bits -/
def bitsFrom : List Bool → Nat → Nat
  | [], _ => 0
  | b :: r, w => (if b = true then w else 0) + bitsFrom r (w * 2)
theorem foldl_bits : ∀ (l : List Nat) (k : Nat), l.foldl (fun w k => w + 2 ^ k) k = k + bits l
  | [], k => rfl
  | a :: l, k => by
    unfold bits
    rw [List.foldl_cons, List.foldl_cons, foldl_bits l (k + 2 ^ a), foldl_bits l (0 + 2 ^ a)]; omega
theorem bits_cons (a : Nat) (l : List Nat) : bits (a :: l) = 2 ^ a + bits l := by
  show (a :: l).foldl (fun w k => w + 2 ^ k) 0 = _
  rw [List.foldl_cons, foldl_bits]; omega
theorem bits_append (l k : List Nat) : bits (l ++ k) = bits l + bits k := by
  show (l ++ k).foldl (fun w k => w + 2 ^ k) 0 = _
  rw [List.foldl_append, foldl_bits]; rfl
theorem bitsFrom_snoc : ∀ (l : List Bool) (b : Bool) (w : Nat), bitsFrom (l ++ [b]) w = bitsFrom l w + (if b = true then w * 2 ^ l.length else 0)
  | [], b, w => by
    show (if b = true then w else 0) + 0 = 0 + (if b = true then w * 2 ^ 0 else 0)
    rw [Nat.pow_zero, Nat.mul_one]; omega
  | a :: l, b, w => by
    show (if a = true then w else 0) + bitsFrom (l ++ [b]) (w * 2) = (if a = true then w else 0) + bitsFrom l (w * 2) + _
    rw [bitsFrom_snoc l b (w * 2), List.length_cons, Nat.pow_succ]
    have : w * 2 * 2 ^ l.length = w * (2 ^ l.length * 2) := by rw [Nat.mul_assoc, Nat.mul_comm 2]
    rw [this]; omega
theorem bitsFrom_range (f : Nat → Bool) : ∀ n, bitsFrom ((List.range n).map f) 1 = bits ((List.range n).filter f)
  | 0 => rfl
  | n + 1 => by
    rw [List.range_succ, List.map_append, List.filter_append, bits_append]
    show bitsFrom (_ ++ [f n]) 1 = _
    rw [bitsFrom_snoc, bitsFrom_range f n, List.length_map, List.length_range, Nat.one_mul, List.filter_cons]
    by_cases h : f n = true
    · rw [if_pos h, if_pos h, List.filter_nil, bits_cons]; rfl
    · rw [if_neg h, if_neg h]; rfl
theorem without_snoc (e a : Nat) : ∀ (l : Lots) (n : Nat), without (l ++ [(e, a)]) n = without l n ++ (if min (n - amount l) a < a then [(e, a - min (n - amount l) a)] else [])
  | [], n => by
    show (if min n a < a then (e, a - min n a) :: without [] (n - min n a) else without [] (n - min n a)) = [] ++ _
    rw [amount_nil, Nat.sub_zero, List.nil_append]
    rfl
  | (e0, a0) :: l, n => by
    show (if min n a0 < a0 then (e0, a0 - min n a0) :: without (l ++ [(e, a)]) (n - min n a0) else without (l ++ [(e, a)]) (n - min n a0)) = (if min n a0 < a0 then (e0, a0 - min n a0) :: without l (n - min n a0) else without l (n - min n a0)) ++ _
    have e1 : n - min n a0 - amount l = n - amount ((e0, a0) :: l) := by rw [amount_cons]; show _ = n - (a0 + amount l); omega
    rw [without_snoc e a l, e1]
    by_cases h : min n a0 < a0
    · rw [if_pos h, if_pos h]; rfl
    · rw [if_neg h, if_neg h]
theorem lacks_snoc (m : Nat) : ∀ (r : List Nat) (t : Nat) (g : Good), lacks (r ++ [m]) t g.lots = lacks r t g.lots ++ [(eat m (live g r t).lots).2]
  | [], t, g => rfl
  | n :: r, t, g => by
    show (eat n g.lots).2 :: lacks (r ++ [m]) (t + 1) (fresh_ (eat n g.lots).1 (t + 1)) = ((eat n g.lots).2 :: lacks r (t + 1) (fresh_ (eat n g.lots).1 (t + 1))) ++ [(eat m (live (g.day n t) r (t + 1)).lots).2]
    have := lacks_snoc m r (t + 1) (g.day n t)
    rw [day_lots] at this
    rw [this]; rfl
theorem live_snoc (m : Nat) : ∀ (r : List Nat) (t : Nat) (g : Good), live g (r ++ [m]) t = (live g r t).day m (t + r.length)
  | [], t, g => rfl
  | n :: r, t, g => by
    show live (g.day n t) (r ++ [m]) (t + 1) = (live (g.day n t) r (t + 1)).day m (t + (r.length + 1))
    rw [live_snoc m r]
    have e : t + 1 + r.length = t + (r.length + 1) := by omega
    rw [e]
theorem live_pos : ∀ (r : List Nat) (t : Nat) (g : Good), Pos g.lots → Pos (live g r t).lots
  | [], t, g, h => h
  | n :: r, t, g, h => live_pos r (t + 1) _ (by rw [day_lots]; exact fresh_pos _ (eat_pos n h))
theorem live_few : ∀ (r : List Nat) (t : Nat) (g : Good), (live g r t).lots.length ≤ g.lots.length
  | [], t, g => Nat.le_refl _
  | n :: r, t, g => Nat.le_trans (live_few r (t + 1) _) (by rw [day_lots]; exact Nat.le_trans (fresh_length _ _) (eat_length _ _))
end Sd

end
section
set_option Elab.async false
set_option linter.all false
namespace Sd
open Km438 (Good Ship Desk Lots)
/-! ## the calls as one list -/
theorem shape_of {p : Int} {n k : Nat} (h : PyKm438.shape p = some (n, k)) : k = 0 ∧ 0 ≤ p ∧ p ≤ 23 := by
  unfold PyKm438.shape at h
  by_cases q0 : p = 0
  · rw [if_pos q0] at h; obtain ⟨_, e⟩ := Prod.mk.inj (Option.some.inj h); exact ⟨e.symm, by rw [q0]; decide⟩
  rw [if_neg q0] at h
  by_cases q1 : p = 1
  · rw [if_pos q1] at h; obtain ⟨_, e⟩ := Prod.mk.inj (Option.some.inj h); exact ⟨e.symm, by rw [q1]; decide⟩
  rw [if_neg q1] at h
  by_cases q2 : p = 2
  · rw [if_pos q2] at h; obtain ⟨_, e⟩ := Prod.mk.inj (Option.some.inj h); exact ⟨e.symm, by rw [q2]; decide⟩
  rw [if_neg q2] at h
  by_cases q3 : p = 3
  · rw [if_pos q3] at h; obtain ⟨_, e⟩ := Prod.mk.inj (Option.some.inj h); exact ⟨e.symm, by rw [q3]; decide⟩
  rw [if_neg q3] at h
  by_cases q4 : p = 4
  · rw [if_pos q4] at h; obtain ⟨_, e⟩ := Prod.mk.inj (Option.some.inj h); exact ⟨e.symm, by rw [q4]; decide⟩
  rw [if_neg q4] at h
  by_cases q5 : p = 5
  · rw [if_pos q5] at h; obtain ⟨_, e⟩ := Prod.mk.inj (Option.some.inj h); exact ⟨e.symm, by rw [q5]; decide⟩
  rw [if_neg q5] at h
  by_cases q6 : p = 6
  · rw [if_pos q6] at h; obtain ⟨_, e⟩ := Prod.mk.inj (Option.some.inj h); exact ⟨e.symm, by rw [q6]; decide⟩
  rw [if_neg q6] at h
  by_cases q7 : p = 7
  · rw [if_pos q7] at h; obtain ⟨_, e⟩ := Prod.mk.inj (Option.some.inj h); exact ⟨e.symm, by rw [q7]; decide⟩
  rw [if_neg q7] at h
  by_cases q8 : p = 8
  · rw [if_pos q8] at h; obtain ⟨_, e⟩ := Prod.mk.inj (Option.some.inj h); exact ⟨e.symm, by rw [q8]; decide⟩
  rw [if_neg q8] at h
  by_cases q9 : p = 9
  · rw [if_pos q9] at h; obtain ⟨_, e⟩ := Prod.mk.inj (Option.some.inj h); exact ⟨e.symm, by rw [q9]; decide⟩
  rw [if_neg q9] at h
  by_cases q10 : p = 10
  · rw [if_pos q10] at h; obtain ⟨_, e⟩ := Prod.mk.inj (Option.some.inj h); exact ⟨e.symm, by rw [q10]; decide⟩
  rw [if_neg q10] at h
  by_cases q11 : p = 11
  · rw [if_pos q11] at h; obtain ⟨_, e⟩ := Prod.mk.inj (Option.some.inj h); exact ⟨e.symm, by rw [q11]; decide⟩
  rw [if_neg q11] at h
  by_cases q12 : p = 12
  · rw [if_pos q12] at h; obtain ⟨_, e⟩ := Prod.mk.inj (Option.some.inj h); exact ⟨e.symm, by rw [q12]; decide⟩
  rw [if_neg q12] at h
  by_cases q13 : p = 13
  · rw [if_pos q13] at h; obtain ⟨_, e⟩ := Prod.mk.inj (Option.some.inj h); exact ⟨e.symm, by rw [q13]; decide⟩
  rw [if_neg q13] at h
  by_cases q14 : p = 14
  · rw [if_pos q14] at h; obtain ⟨_, e⟩ := Prod.mk.inj (Option.some.inj h); exact ⟨e.symm, by rw [q14]; decide⟩
  rw [if_neg q14] at h
  by_cases q15 : p = 15
  · rw [if_pos q15] at h; obtain ⟨_, e⟩ := Prod.mk.inj (Option.some.inj h); exact ⟨e.symm, by rw [q15]; decide⟩
  rw [if_neg q15] at h
  by_cases q16 : p = 16
  · rw [if_pos q16] at h; obtain ⟨_, e⟩ := Prod.mk.inj (Option.some.inj h); exact ⟨e.symm, by rw [q16]; decide⟩
  rw [if_neg q16] at h
  by_cases q17 : p = 17
  · rw [if_pos q17] at h; obtain ⟨_, e⟩ := Prod.mk.inj (Option.some.inj h); exact ⟨e.symm, by rw [q17]; decide⟩
  rw [if_neg q17] at h
  by_cases q18 : p = 18
  · rw [if_pos q18] at h; obtain ⟨_, e⟩ := Prod.mk.inj (Option.some.inj h); exact ⟨e.symm, by rw [q18]; decide⟩
  rw [if_neg q18] at h
  by_cases q19 : p = 19
  · rw [if_pos q19] at h; obtain ⟨_, e⟩ := Prod.mk.inj (Option.some.inj h); exact ⟨e.symm, by rw [q19]; decide⟩
  rw [if_neg q19] at h
  by_cases q20 : p = 20
  · rw [if_pos q20] at h; obtain ⟨_, e⟩ := Prod.mk.inj (Option.some.inj h); exact ⟨e.symm, by rw [q20]; decide⟩
  rw [if_neg q20] at h
  by_cases q21 : p = 21
  · rw [if_pos q21] at h; obtain ⟨_, e⟩ := Prod.mk.inj (Option.some.inj h); exact ⟨e.symm, by rw [q21]; decide⟩
  rw [if_neg q21] at h
  by_cases q22 : p = 22
  · rw [if_pos q22] at h; obtain ⟨_, e⟩ := Prod.mk.inj (Option.some.inj h); exact ⟨e.symm, by rw [q22]; decide⟩
  rw [if_neg q22] at h
  by_cases q23 : p = 23
  · rw [if_pos q23] at h; obtain ⟨_, e⟩ := Prod.mk.inj (Option.some.inj h); exact ⟨e.symm, by rw [q23]; decide⟩
  rw [if_neg q23] at h
  cases h
/-- a call: its number and its own numbers -/
def isCall (c : List (List Int)) : Prop := ∃ p a, c = [p :: a] ∧ PyKm438.shape p = some (a.length, 0)
theorem isCall_of {c : List (List Int)} (h : PyFlat.okCall PyKm438.shape c) : isCall c := by
  obtain ⟨p, a, xs, e, hs⟩ := h
  have hk := (shape_of hs).1
  have ex : xs = [] := List.length_eq_zero_iff.mp hk
  subst ex
  exact ⟨p, a, e, hs⟩
theorem whole_at {q : Nat} {a : List Int} (hq : q < 24) (hs : PyKm438.shape ((q : Nat) : Int) = some (a.length, 0)) : PyKm438.whole [((q : Nat) : Int) :: a] = [((q : Nat) : Int) :: a] := by
  have lenOf : ∀ {n : Nat}, some (n, 0) = some (a.length, 0) → n = a.length := fun {n} h => (Prod.mk.inj (Option.some.inj h)).1
  match q, hq, hs with
  | 0, _, hs => exact match a, (lenOf (show some (3, 0) = _ from hs)) with | [_, _, _], _ => rfl
  | 1, _, hs => exact match a, (lenOf (show some (2, 0) = _ from hs)) with | [_, _], _ => rfl
  | 2, _, hs => exact match a, (lenOf (show some (2, 0) = _ from hs)) with | [_, _], _ => rfl
  | 3, _, hs => exact match a, (lenOf (show some (2, 0) = _ from hs)) with | [_, _], _ => rfl
  | 4, _, hs => exact match a, (lenOf (show some (2, 0) = _ from hs)) with | [_, _], _ => rfl
  | 5, _, hs => exact match a, (lenOf (show some (2, 0) = _ from hs)) with | [_, _], _ => rfl
  | 6, _, hs => exact match a, (lenOf (show some (2, 0) = _ from hs)) with | [_, _], _ => rfl
  | 7, _, hs => exact match a, (lenOf (show some (1, 0) = _ from hs)) with | [_], _ => rfl
  | 8, _, hs => exact match a, (lenOf (show some (1, 0) = _ from hs)) with | [_], _ => rfl
  | 9, _, hs => exact match a, (lenOf (show some (1, 0) = _ from hs)) with | [_], _ => rfl
  | 10, _, hs => exact match a, (lenOf (show some (2, 0) = _ from hs)) with | [_, _], _ => rfl
  | 11, _, hs => exact match a, (lenOf (show some (3, 0) = _ from hs)) with | [_, _, _], _ => rfl
  | 12, _, hs => exact match a, (lenOf (show some (1, 0) = _ from hs)) with | [_], _ => rfl
  | 13, _, hs => exact match a, (lenOf (show some (1, 0) = _ from hs)) with | [_], _ => rfl
  | 14, _, hs => exact match a, (lenOf (show some (2, 0) = _ from hs)) with | [_, _], _ => rfl
  | 15, _, hs => exact match a, (lenOf (show some (1, 0) = _ from hs)) with | [_], _ => rfl
  | 16, _, hs => exact match a, (lenOf (show some (1, 0) = _ from hs)) with | [_], _ => rfl
  | 17, _, hs => exact match a, (lenOf (show some (0, 0) = _ from hs)) with | [], _ => rfl
  | 18, _, hs => exact match a, (lenOf (show some (0, 0) = _ from hs)) with | [], _ => rfl
  | 19, _, hs => exact match a, (lenOf (show some (0, 0) = _ from hs)) with | [], _ => rfl
  | 20, _, hs => exact match a, (lenOf (show some (1, 0) = _ from hs)) with | [_], _ => rfl
  | 21, _, hs => exact match a, (lenOf (show some (0, 0) = _ from hs)) with | [], _ => rfl
  | 22, _, hs => exact match a, (lenOf (show some (0, 0) = _ from hs)) with | [], _ => rfl
  | 23, _, hs => exact match a, (lenOf (show some (0, 0) = _ from hs)) with | [], _ => rfl
  | q + 24, hq, _ => omega
theorem whole_id {c : List (List Int)} (h : isCall c) : PyKm438.whole c = c := by
  obtain ⟨p, a, rfl, hs⟩ := h
  obtain ⟨_, h0, h1⟩ := shape_of hs
  obtain ⟨q, rfl⟩ : ∃ q : Nat, p = (q : Int) := ⟨p.toNat, by omega⟩
  exact whole_at (by omega) hs
theorem map_whole : ∀ cs : List (List (List Int)), (∀ c ∈ cs, isCall c) → cs.map PyKm438.whole = cs
  | [], _ => rfl
  | c :: cs, h => by rw [List.map_cons, whole_id (h c List.mem_cons_self), map_whole cs fun x hx => h x (List.mem_cons_of_mem _ hx)]
theorem put_one (p : Int) (a : List Int) (cs : List (List (List Int))) : PyFlat.put ([p :: a] :: cs) = p :: (a ++ PyFlat.put cs) := by
  show (p :: a ++ []) ++ PyFlat.put cs = _
  rw [List.append_nil]; rfl
theorem put_append : ∀ (a b : List (List (List Int))), PyFlat.put (a ++ b) = PyFlat.put a ++ PyFlat.put b
  | [], b => rfl
  | c :: a, b => by
    show PyFlat.put1 c ++ PyFlat.put (a ++ b) = (PyFlat.put1 c ++ PyFlat.put a) ++ PyFlat.put b
    rw [put_append a b, List.append_assoc]
def after {S : Type} (step : S → List (List Int) → S × List Int) : S → List (List (List Int)) → S
  | s, [] => s
  | s, c :: r => after step (step s c).1 r
theorem played_append {S : Type} (step : S → List (List Int) → S × List Int) : ∀ (a b : List (List (List Int))) (s : S), PyFlat.played step s (a ++ b) = PyFlat.played step s a ++ PyFlat.played step (after step s a) b
  | [], b, s => rfl
  | c :: a, b, s => by
    show (step s c).2 :: PyFlat.played step (step s c).1 (a ++ b) = _
    rw [played_append step a b]; rfl
theorem after_append {S : Type} (step : S → List (List Int) → S × List Int) : ∀ (a b : List (List (List Int))) (s : S), after step s (a ++ b) = after step (after step s a) b
  | [], b, s => rfl
  | c :: a, b, s => after_append step a b _
theorem told_append (a b : List (List Int)) : PyFlat.told (a ++ b) = PyFlat.told a ++ PyFlat.told b := by
  unfold PyFlat.told
  rw [List.flatMap_append]
theorem told_one (a : List Int) : PyFlat.told [a] = (a.length : Int) :: a := by
  show ((a.length : Int) :: a) ++ [] = _
  rw [List.append_nil]
abbrev stepN := Km438Neutral.step
theorem may_append : ∀ {a b : List (List (List Int))} {s : Km438Neutral.S}, Km438Neutral.may s (a ++ b) = true → Km438Neutral.may (after stepN s a) b = true
  | [], b, s, h => h
  | c :: a, b, s, h => by
    have h2 : (!((Km438Neutral.step s c).2.isEmpty) && Km438Neutral.may (Km438Neutral.step s c).1 (a ++ b)) = true := h
    exact may_append (a := a) (Bool.and_eq_true_iff.mp h2).2
theorem may_head {c : List (List Int)} {b : List (List (List Int))} {s : Km438Neutral.S} (h : Km438Neutral.may s (c :: b) = true) : (Km438Neutral.step s c).2 ≠ [] := by
  have h2 : (!((Km438Neutral.step s c).2.isEmpty) && Km438Neutral.may (Km438Neutral.step s c).1 b) = true := h
  intro e
  have := (Bool.and_eq_true_iff.mp h2).1
  rw [e] at this
  cases this
structure Asked (l : List Int) (cs : List (List (List Int))) : Prop where
  put : l = PyFlat.put cs
  call : ∀ c ∈ cs, isCall c
  nat : ∀ c ∈ cs, Km438Neutral.asked1 c = true
  may : Km438Neutral.may Km438Neutral.start cs = true
  few : cs.length ≤ 1000
  due : PyKm438.answers l = PyFlat.told (PyFlat.played stepN Km438Neutral.start cs)
theorem asked_of {l : List Int} (h : PyKm438.answers_asked l = true) : ∃ cs, Asked l cs := by
  unfold PyKm438.answers_asked at h
  cases e : PyFlat.calls PyKm438.shape l.length l with
  | none => rw [e] at h; cases h
  | some raw =>
    rw [e] at h
    have h2 : (!raw.isEmpty && PyFlat.atMost 1000 raw && PyInside.calls PyKm438.bound raw && Km438Neutral.asked (raw.map PyKm438.whole) && PyFlat.short 10000000 (PyKm438.answers l)) = true := h
    obtain ⟨e1, e2⟩ := PyFlat.put_calls _ _ _ e
    have hw := map_whole raw fun c hc => isCall_of (e2 c hc)
    rw [hw] at h2
    simp only [Bool.and_eq_true] at h2
    obtain ⟨⟨⟨⟨h1, h3⟩, h4⟩, h5⟩, h6⟩ := h2
    unfold Km438Neutral.asked at h5
    simp only [Bool.and_eq_true, List.all_eq_true] at h5
    obtain ⟨_, _, h8, h9⟩ := h5
    refine ⟨raw, e1, fun c hc => isCall_of (e2 c hc), h8, h9, of_decide_eq_true h3, ?_⟩
    unfold PyKm438.answers PyKm438.calls
    rw [e]
    show PyFlat.told (PyFlat.played Km438Neutral.step Km438Neutral.start (raw.map PyKm438.whole)) = _
    rw [hw]
/-- an answer has at most six numbers -/
theorem told_few (d : Desk) (x : Km438.Call) : (Km438Neutral.told (Km438.act d x).2).length ≤ 6 := by
  unfold Km438Neutral.told Km438Neutral.nums
  rw [List.length_cons, List.length_map]
  cases x <;> simp only [Km438.act, Km438.only] <;> (repeat' split) <;> simp
theorem step_few (s : Km438Neutral.S) (c : List (List Int)) : (stepN s c).2.length ≤ 6 := by
  unfold stepN Km438Neutral.step
  cases Km438Neutral.callOf c with
  | none => exact Nat.zero_le _
  | some x =>
    cases s with
    | some d => exact told_few d x
    | none =>
      dsimp only
      split
      · exact told_few _ x
      · exact Nat.zero_le _
theorem told_short : ∀ (cs : List (List (List Int))) (s : Km438Neutral.S), (PyFlat.told (PyFlat.played stepN s cs)).length ≤ 7 * cs.length
  | [], s => Nat.le_refl _
  | c :: cs, s => by
    show (PyFlat.told ([(stepN s c).2] ++ PyFlat.played stepN (stepN s c).1 cs)).length ≤ _
    rw [told_append, told_one, List.length_append, List.length_cons, List.length_cons]
    have := told_short cs (stepN s c).1
    have := step_few s c
    omega
end Sd

end
section
set_option Elab.async false
set_option linter.all false
set_option maxRecDepth 100000
set_option maxHeartbeats 2000000
namespace Sd
open PySem PySem.Spec PyProof.Rows L2
open Km438 (Good Ship Desk Lots)
/-! ## the objects -/
def nv (n : Nat) : V := .int (n : Int)
def lotF (x : Nat × Nat) : List (Str × V) := [("until", nv x.1), ("amount", nv x.2)]
def goodF (g : Good) (p : Addr) : List (Str × V) := [("per", nv g.per), ("life", nv g.life), ("lots", .ref p), ("loaded", nv g.loaded), ("eaten", nv g.eaten), ("spoilt", nv g.spoilt), ("given", nv g.given), ("lacked", nv g.lacked)]
def voyF (s : Ship) (pp qq gg : Addr) : List (Str × V) := [("last", nv s.last), ("room", nv s.room), ("today", nv s.today), ("persons", .ref pp), ("ports", .ref qq), ("goods", .ref gg)]
def shipF (v : V) (pl ul : Addr) : List (Str × V) := [("voyage", v), ("past", .ref pl), ("undone", .ref ul)]
/-- the classes' addresses -/
structure Cl where
  L : Addr
  G : Addr
  V : Addr
  S : Addr
def LotAt (c : Cl) (H : Hp) (b : Addr) (x : Nat × Nat) : Prop := ∃ dx, H b = some (.ins c.L dx (lotF x))
def LotsAt (c : Cl) (H : Hp) (p : Addr) (l : Lots) : Prop := ∃ bs : List Addr, H p = some (.lst (bs.map V.ref)) ∧ Paired (LotAt c H) bs l
structure GoodAt (c : Cl) (H : Hp) (a p : Addr) (g : Good) : Prop where
  obj : ∃ dx, H a = some (.ins c.G dx (goodF g p))
  lots : LotsAt c H p g.lots
abbrev GoodsAt (c : Cl) (H : Hp) : List (Addr × Addr) → List Good → Prop := Paired fun x g => GoodAt c H x.1 x.2 g
structure VoyAt (c : Cl) (H : Hp) (v : Addr) (s : Ship) (pp qq gg : Addr) (as : List (Addr × Addr)) : Prop where
  obj : ∃ dv, H v = some (.ins c.V dv (voyF s pp qq gg))
  pers : H pp = some (.lst (s.persons.map nv))
  port : H qq = some (.lst ((signs s).map nv))
  gods : H gg = some (.lst (as.map fun x => V.ref x.1))
  good : GoodsAt c H as s.goods
  nd : (as.map (·.1)).Nodup
  pq : pp ≠ qq
  gl : ∀ x ∈ as, x.2 ≠ gg
def VoyX (c : Cl) (H : Hp) (v : Addr) (s : Ship) : Prop := ∃ pp qq gg as, VoyAt c H v s pp qq gg as
/-- the heap without what stands at D -/
def hide (H : Hp) (D : Addr) : Hp := fun b => if b = D then none else H b
/-- the heap without two places -/
def hid (H : Hp) (p u : Addr) : Hp := hide (hide H p) u
/-- the ship at a: its voyages stand beside its two lists -/
def DeskAt (c : Cl) (H : Hp) (a : Addr) (d : Desk) : Prop := ∃ da v pl ul, ∃ vs us : List Addr,
  H a = some (.ins c.S da (shipF (.ref v) pl ul)) ∧ H pl = some (.lst (vs.map V.ref)) ∧ H ul = some (.lst (us.map V.ref)) ∧ pl ≠ ul ∧
    VoyX c (hid H pl ul) v d.now ∧ Paired (VoyX c (hid H pl ul)) vs d.past.reverse ∧ Paired (VoyX c (hid H pl ul)) us d.future.reverse
/-! ## pairs -/
theorem Paired.get1 {α β : Type} {F : α → β → Prop} : ∀ {l : List α} {k : List β} {i : Nat} {y : β}, Paired F l k → k[i]? = some y → ∃ x, l[i]? = some x ∧ F x y
  | _, _, _, _, .nil, e => by simp at e
  | _, _, 0, _, .cons r _, e => by simp at e; subst e; exact ⟨_, rfl, r⟩
  | _, _, i + 1, y, .cons _ t, e => by
    obtain ⟨x, h1, h2⟩ := Paired.get1 (i := i) (y := y) t (by simpa using e)
    exact ⟨x, by simpa using h1, h2⟩
theorem Paired.get2 {α β : Type} {F : α → β → Prop} : ∀ {l : List α} {k : List β} {i : Nat} {x : α}, Paired F l k → l[i]? = some x → ∃ y, k[i]? = some y ∧ F x y
  | _, _, _, _, .nil, e => by simp at e
  | _, _, 0, _, .cons r _, e => by simp at e; subst e; exact ⟨_, rfl, r⟩
  | _, _, i + 1, y, .cons _ t, e => by
    obtain ⟨x, h1, h2⟩ := Paired.get2 (i := i) (x := y) t (by simpa using e)
    exact ⟨x, by simpa using h1, h2⟩
theorem Paired.len {α β : Type} {F : α → β → Prop} {l : List α} {k : List β} (r : Paired F l k) : l.length = k.length := Paired.length r
theorem Paired.app {α β : Type} {F : α → β → Prop} : ∀ {l l' : List α} {k k' : List β}, Paired F l k → Paired F l' k' → Paired F (l ++ l') (k ++ k')
  | _, _, _, _, .nil, s => s
  | _, _, _, _, .cons r t, s => .cons r (Paired.app t s)
theorem Paired.one {α β : Type} {F : α → β → Prop} {x : α} {y : β} (h : F x y) : Paired F [x] [y] := .cons h .nil
theorem Paired.take {α β : Type} {F : α → β → Prop} : ∀ {l : List α} {k : List β} (n : Nat), Paired F l k → Paired F (l.take n) (k.take n)
  | _, _, 0, _ => .nil
  | _, _, _ + 1, .nil => .nil
  | _, _, n + 1, .cons r t => .cons r (Paired.take n t)
theorem Paired.drop {α β : Type} {F : α → β → Prop} : ∀ {l : List α} {k : List β} (n : Nat), Paired F l k → Paired F (l.drop n) (k.drop n)
  | _, _, 0, h => h
  | _, _, _ + 1, .nil => .nil
  | _, _, n + 1, .cons _ t => Paired.drop n t
theorem Paired.setAt {α β : Type} {F : α → β → Prop} {x : α} {y : β} (h : F x y) : ∀ {l : List α} {k : List β} (i : Nat), Paired F l k → Paired F (l.set i x) (k.set i y)
  | _, _, _, .nil => .nil
  | _, _, 0, .cons _ t => .cons h t
  | _, _, i + 1, .cons q t => .cons q (Paired.setAt h i t)
theorem Paired.mono {α β : Type} {F G : α → β → Prop} {l : List α} {k : List β} (r : Paired F l k) (f : ∀ a b, F a b → G a b) : Paired G l k := Paired.mapP r f
/-! ## what stays -/
/-- all that stood stands, but at M -/
def Kp (M : List Addr) (H H' : Hp) : Prop := ∀ b o, H b = some o → b ∉ M → H' b = some o
theorem Kp.same {H H' : Hp} (s : Same H H') (M : List Addr) : Kp M H H' := fun b o h _ => s b o h
theorem Kp.nil {H H' : Hp} (k : Kp [] H H') : Same H H' := fun b o h => k b o h (by simp)
theorem Kp.trans {M : List Addr} {H H1 H2 : Hp} (a : Kp M H H1) (b : Kp M H1 H2) : Kp M H H2 := fun x o h n => b x o (a x o h n) n
theorem Kp.mono {M N : List Addr} {H H1 : Hp} (a : Kp M H H1) (s : ∀ x ∈ M, x ∈ N) : Kp N H H1 := fun x o h n => a x o h fun z => n (s x z)
/-- what was not there may change -/
theorem Kp.fresh {M : List Addr} {H H1 H2 : Hp} (a : Same H H1) (k : Kp M H1 H2) (f : ∀ m ∈ M, H m = none) : Same H H2 := fun b o h => k b o (a b o h) fun z => by rw [f b z] at h; cases h
theorem Kp.drop {M N : List Addr} {H H1 H2 : Hp} (a : Kp N H H1) (k : Kp M H1 H2) (f : ∀ m ∈ M, H m = none ∨ m ∈ N) : Kp N H H2 := fun b o h n => k b o (a b o h n) fun z => by
  rcases f b z with q | q
  · rw [q] at h; cases h
  · exact n q
theorem Kp.upd {H : Hp} (a : Addr) (o : HO) : Kp [a] H (upd H a o) := fun b u h n => by rw [upd_ne (fun z => n (by simp [z]))]; exact h
theorem Same.upd {H : Hp} {a : Addr} (o : HO) (h : H a = none) : Same H (upd H a o) := fun b u e => by rw [upd_ne (ne_of_none e h)]; exact e
theorem hide_ne {H : Hp} {D b : Addr} (h : b ≠ D) : hide H D b = H b := if_neg h
theorem hide_at {H : Hp} {D : Addr} : hide H D D = none := if_pos rfl
theorem hide_kp (H : Hp) (D : Addr) : Kp [D] H (hide H D) := fun b o e n => by rw [hide_ne fun z => n (by simp [z])]; exact e
theorem hide_same {H H' : Hp} {D : Addr} (h : ∀ b, b ≠ D → H' b = H b) : Same (hide H D) (hide H' D) := fun b o e => by
  by_cases q : b = D
  · subst q
    unfold hide at e
    rw [if_pos rfl] at e
    cases e
  · rw [hide_ne q] at e ⊢
    rw [h b q]; exact e
theorem hide_in {H H' : Hp} {D : Addr} (h : ∀ b, b ≠ D → H' b = H b) : Same (hide H D) H' := fun b o e => by
  by_cases q : b = D
  · subst q
    unfold hide at e
    rw [if_pos rfl] at e
    cases e
  · rw [hide_ne q] at e
    rw [h b q]; exact e
theorem hid_ne {H : Hp} {p u b : Addr} (h1 : b ≠ p) (h2 : b ≠ u) : hid H p u b = H b := (hide_ne h2).trans (hide_ne h1)
theorem hid_of {H : Hp} {p u b : Addr} {o : HO} (e : hid H p u b = some o) : b ≠ p ∧ b ≠ u ∧ H b = some o := by
  by_cases q : b = u
  · rw [q] at e
    exact absurd ((hide_at (H := hide H p) (D := u)).symm.trans e) (by simp)
  · have e1 : hide H p b = some o := (hide_ne q).symm.trans e
    by_cases r : b = p
    · rw [r] at e1
      exact absurd ((hide_at (H := H) (D := p)).symm.trans e1) (by simp)
    · exact ⟨r, q, (hide_ne r).symm.trans e1⟩
theorem hid_in {H : Hp} {p u : Addr} : Same (hid H p u) H := fun b o e => (hid_of e).2.2
theorem hid_kp {M : List Addr} {H H' : Hp} {p u : Addr} (k : Kp M H H') : Kp M (hid H p u) (hid H' p u) := fun b o e n => by
  obtain ⟨h1, h2, h3⟩ := hid_of e
  rw [hid_ne h1 h2]
  exact k b o h3 n
theorem hid_same {H H' : Hp} {p u : Addr} (k : Same H H') : Same (hid H p u) (hid H' p u) := fun b o e => by
  obtain ⟨h1, h2, h3⟩ := hid_of e
  rw [hid_ne h1 h2]
  exact k b o h3
/-- what stood while the two places were free -/
theorem hid_fr {M : List Addr} {H H' : Hp} {p u : Addr} (k : Kp M H H') (hp : H p = none) (hu : H u = none) : Kp M H (hid H' p u) := fun b o e n => by
  rw [hid_ne (fun z => by rw [z, hp] at e; cases e) (fun z => by rw [z, hu] at e; cases e)]
  exact k b o e n
/-- the two places are written: the rest is as it was -/
theorem hid_but {H H' : Hp} {p u : Addr} (h : ∀ b, b ≠ p → b ≠ u → H' b = H b) : hid H' p u = hid H p u := by
  funext b
  by_cases q : b = u
  · rw [q]; exact hide_at.trans hide_at.symm
  · by_cases r : b = p
    · rw [r]
      by_cases t : p = u
      · rw [t]; exact hide_at.trans hide_at.symm
      · exact ((hide_ne t).trans hide_at).trans ((hide_ne t).trans hide_at).symm
    · rw [hid_ne r q, hid_ne r q, h b r q]
theorem ins_ne {C C' d d' : Addr} {fs fs' : List (Str × V)} (h : fs.length ≠ fs'.length) : HO.ins C d fs ≠ HO.ins C' d' fs' := fun z => by
  injection z with _ _ z
  exact h (congrArg List.length z)
theorem lst_ne_ins {C d : Addr} {fs : List (Str × V)} {xs : List V} : HO.lst xs ≠ HO.ins C d fs := fun z => by cases z
theorem refs_ne_ints {l : List Nat} {bs : List Addr} (h : l ≠ []) : HO.lst (bs.map V.ref) ≠ HO.lst (l.map nv) := fun z => by
  injection z with z
  cases l with
  | nil => exact h rfl
  | cons a r =>
    cases bs with
    | nil => cases z
    | cons b bs =>
      have e := (List.cons.inj z).1
      cases e
/-- the frame of a thing: M holds nothing of these kinds -/
structure Off (c : Cl) (M : List Addr) (H : Hp) : Prop where
  lot : ∀ m ∈ M, ∀ dx x, H m ≠ some (.ins c.L dx (lotF x))
  refs : ∀ m ∈ M, ∀ bs : List Addr, H m ≠ some (.lst (bs.map V.ref))
section
variable {c : Cl} {H H' : Hp} {M : List Addr} {a b p : Addr} {g : Good} {l : Lots} {x : Nat × Nat} {s : Ship} {v : Addr}
theorem LotAt.kp (k : Kp M H H') (f : Off c M H) (h : LotAt c H b x) : LotAt c H' b x := by
  obtain ⟨dx, e⟩ := h
  exact ⟨dx, k b _ e fun z => f.lot b z dx x e⟩
theorem LotsAt.kp (k : Kp M H H') (f : Off c M H) (h : LotsAt c H p l) : LotsAt c H' p l := by
  obtain ⟨bs, e, r⟩ := h
  exact ⟨bs, k p _ e fun z => f.refs p z bs e, Paired.mono r fun b x q => LotAt.kp k f q⟩
theorem GoodAt.kp (k : Kp M H H') (f : Off c M H) (ha : a ∉ M) (h : GoodAt c H a p g) : GoodAt c H' a p g := by
  obtain ⟨⟨dx, e⟩, r⟩ := h
  exact ⟨⟨dx, k a _ e ha⟩, r.kp k f⟩
theorem LotAt.same (k : Same H H') (h : LotAt c H b x) : LotAt c H' b x := by
  obtain ⟨dx, e⟩ := h
  exact ⟨dx, k b _ e⟩
theorem LotsAt.same (k : Same H H') (h : LotsAt c H p l) : LotsAt c H' p l := by
  obtain ⟨bs, e, r⟩ := h
  exact ⟨bs, k p _ e, Paired.mono r fun b x q => LotAt.same k q⟩
theorem GoodAt.same (k : Same H H') (h : GoodAt c H a p g) : GoodAt c H' a p g := by
  obtain ⟨⟨dx, e⟩, r⟩ := h
  exact ⟨⟨dx, k a _ e⟩, r.same k⟩
theorem VoyAt.same {pp qq gg : Addr} {as : List (Addr × Addr)} (k : Same H H') (h : VoyAt c H v s pp qq gg as) : VoyAt c H' v s pp qq gg as := by
  obtain ⟨⟨dv, e⟩, h1, h2, h3, h4, h5, h6, h7⟩ := h
  exact ⟨⟨dv, k v _ e⟩, k _ _ h1, k _ _ h2, k _ _ h3, Paired.mono h4 fun x g q => q.same k, h5, h6, h7⟩
theorem VoyX.same (k : Same H H') (h : VoyX c H v s) : VoyX c H' v s := by
  obtain ⟨pp, qq, gg, as, h⟩ := h
  exact ⟨pp, qq, gg, as, h.same k⟩
/-- an instance that is no lot -/
theorem Off.ins {C d : Addr} {fs : List (Str × V)} (e : H a = some (.ins C d fs)) (h : fs.length ≠ 2) : Off c [a] H := by
  refine ⟨fun m hm dx x z => ?_, fun m hm bs z => ?_⟩
  · have e2 := List.mem_singleton.mp hm
    subst e2
    rw [e] at z
    exact ins_ne (show fs.length ≠ (lotF x).length from h) (Option.some.inj z)
  · have e2 := List.mem_singleton.mp hm
    subst e2
    rw [e] at z
    exact lst_ne_ins (Option.some.inj z).symm
theorem Off.ints {q : Addr} {l : List Nat} (e : H q = some (.lst (l.map nv))) (h : l ≠ []) : Off c [q] H := by
  refine ⟨fun m hm dx x z => ?_, fun m hm bs z => ?_⟩
  · have e2 := List.mem_singleton.mp hm
    subst e2
    rw [e] at z
    exact lst_ne_ins (Option.some.inj z)
  · have e2 := List.mem_singleton.mp hm
    subst e2
    rw [e] at z
    exact refs_ne_ints h (Option.some.inj z).symm
theorem GoodAt.lt8 (h : GoodAt c H a p g) (C d : Addr) (fs : List (Str × V)) (e : H b = some (.ins C d fs)) (hf : fs.length ≠ 8) : a ≠ b := by
  obtain ⟨dx, q⟩ := h.obj
  exact ne_of q e (ins_ne (show (goodF g p).length ≠ fs.length from fun z => hf z.symm))
/-- an object that is a ship (three values) changes: every voyage stays -/
theorem VoyAt.keepS {pp qq gg : Addr} {as : List (Addr × Addr)} {C d : Addr} {fs : List (Str × V)} (k : Kp [a] H H') (ea : H a = some (.ins C d fs)) (hf : fs.length = 3) (h : VoyAt c H v s pp qq gg as) : VoyAt c H' v s pp qq gg as := by
  have of_ : Off c [a] H := Off.ins ea (by omega)
  obtain ⟨⟨dv, e⟩, h1, h2, h3, h4, h5, h6, h7⟩ := h
  have nl : ∀ {q : Addr} {xs : List V}, H q = some (.lst xs) → q ∉ [a] := fun {q xs} e2 z => ne_of e2 ea lst_ne_ins (List.mem_singleton.mp z)
  refine ⟨⟨dv, k v _ e fun z => ne_of e ea (ins_ne (by show 6 ≠ fs.length; omega)) (List.mem_singleton.mp z)⟩, k _ _ h1 (nl h1), k _ _ h2 (nl h2), k _ _ h3 (nl h3), Paired.mono h4 fun x g q => ?_, h5, h6, h7⟩
  exact q.kp k of_ fun z => GoodAt.lt8 q C d fs ea (by omega) (List.mem_singleton.mp z)
theorem VoyX.keepS {C d : Addr} {fs : List (Str × V)} (k : Kp [a] H H') (ea : H a = some (.ins C d fs)) (hf : fs.length = 3) (h : VoyX c H v s) : VoyX c H' v s := by
  obtain ⟨pp, qq, gg, as, h⟩ := h
  exact ⟨pp, qq, gg, as, h.keepS k ea hf⟩
theorem nd_set {α : Type} : ∀ {l : List (α × α)} {i : Nat} {x : α} {p p' : α}, l[i]? = some (x, p) → (l.set i (x, p')).map (·.1) = l.map (·.1)
  | [], i, x, p, p', h => by simp at h
  | y :: l, 0, x, p, p', h => by
    have e : y = (x, p) := Option.some.inj h
    subst e
    rfl
  | y :: l, i + 1, x, p, p', h => by
    show y.1 :: (l.set i (x, p')).map (·.1) = y.1 :: l.map (·.1)
    rw [nd_set (l := l) (i := i) (p := p) h]
theorem map_refs (as : List (Addr × Addr)) : (as.map fun x => V.ref x.1) = (as.map (·.1)).map V.ref := by rw [List.map_map]; rfl
/-- goods but one stay -/
theorem goods_set {i : Nat} {p' : Addr} {g' : Good} {as : List (Addr × Addr)} {gs : List Good} (r : GoodsAt c H as gs) (nd : (as.map (·.1)).Nodup) (hi : as[i]? = some (a, p)) (k : Kp [a] H H') (of_ : Off c [a] H) (h' : GoodAt c H' a p' g') :
    GoodsAt c H' (as.set i (a, p')) (gs.set i g') := by
  have go : ∀ {as : List (Addr × Addr)} {gs : List Good} {i : Nat}, GoodsAt c H as gs → (as.map (·.1)).Nodup → as[i]? = some (a, p) → GoodsAt c H' (as.set i (a, p')) (gs.set i g') := by
    intro as gs i r
    induction r generalizing i with
    | nil => intro _ h; simp at h
    | cons q t ih =>
      rename_i y g as gs
      intro nd h
      obtain ⟨n1, n2⟩ := List.nodup_cons.mp (show (y.1 :: as.map (·.1)).Nodup from nd)
      cases i with
      | zero =>
        have e : y = (a, p) := Option.some.inj h
        subst e
        refine .cons h' ?_
        have all : ∀ {as : List (Addr × Addr)} {gs : List Good}, GoodsAt c H as gs → a ∉ as.map (·.1) → GoodsAt c H' as gs := by
          intro as gs r
          induction r with
          | nil => intro _; exact .nil
          | cons q t ih =>
            intro n
            exact .cons (q.kp k of_ fun z => n (List.mem_cons.mpr (.inl (List.mem_singleton.mp z).symm))) (ih fun z => n (List.mem_cons_of_mem _ z))
        exact all t n1
      | succ j =>
        have hj : as[j]? = some (a, p) := h
        refine .cons (q.kp k of_ fun z => n1 ?_) (ih n2 hj)
        rw [List.mem_singleton.mp z]
        exact List.mem_map.mpr ⟨(a, p), List.mem_of_getElem? hj, rfl⟩
  exact go r nd hi
/-- one good of a voyage changes -/
theorem VoyAt.setGood {pp qq gg : Addr} {as : List (Addr × Addr)} {i : Nat} {p' : Addr} {g' : Good} (h : VoyAt c H v s pp qq gg as) (hi : as[i]? = some (a, p)) (k : Kp [a] H H') (h' : GoodAt c H' a p' g') (hp : p' ≠ gg) :
    VoyAt c H' v (s.setGood i g') pp qq gg (as.set i (a, p')) := by
  obtain ⟨⟨dv, e⟩, h1, h2, h3, h4, h5, h6, h7⟩ := h
  obtain ⟨g, hg, q⟩ := Paired.get2 h4 hi
  obtain ⟨dg, ea⟩ := q.obj
  have of_ : Off c [a] H := Off.ins ea (by show 8 ≠ 2; decide)
  have nl : ∀ {q : Addr} {xs : List V}, H q = some (.lst xs) → q ∉ [a] := fun {q xs} e2 z => ne_of e2 ea lst_ne_ins (List.mem_singleton.mp z)
  refine ⟨⟨dv, k v _ e fun z => ne_of e ea (ins_ne (by show 6 ≠ 8; decide)) (List.mem_singleton.mp z)⟩, k _ _ h1 (nl h1), k _ _ h2 (nl h2), ?_, goods_set h4 h5 hi k of_ h', by rw [nd_set hi]; exact h5, h6, fun x hx => ?_⟩
  · rw [map_refs, nd_set hi, ← map_refs]
    exact k _ _ h3 (nl h3)
  · rcases mem_set hx with r | r
    · rw [r]; exact hp
    · exact h7 x r
/-- the persons, or the ports, of a voyage change -/
theorem VoyAt.setPersons {pp qq gg : Addr} {as : List (Addr × Addr)} {l : List Nat} (h : VoyAt c H v s pp qq gg as) (hl : s.persons ≠ []) : VoyAt c (upd H pp (.lst (l.map nv))) v { s with persons := l } pp qq gg as := by
  obtain ⟨⟨dv, e⟩, h1, h2, h3, h4, h5, h6, h7⟩ := h
  have of_ : Off c [pp] H := Off.ints h1 hl
  have k : Kp [pp] H (upd H pp (.lst (l.map nv))) := Kp.upd _ _
  refine ⟨⟨dv, k v _ e fun z => ne_of h1 e lst_ne_ins (List.mem_singleton.mp z).symm⟩, upd_same, k _ _ h2 fun z => h6 (List.mem_singleton.mp z).symm, k _ _ h3 fun z => ?_, Paired.mono h4 fun x g q => ?_, h5, h6, h7⟩
  · rw [List.mem_singleton.mp z, map_refs] at h3
    exact of_.refs pp (by simp) _ h3
  · obtain ⟨dg, ea⟩ := q.obj
    exact q.kp k of_ fun z => ne_of h1 ea lst_ne_ins (List.mem_singleton.mp z).symm
theorem VoyAt.setPorts {pp qq gg : Addr} {as : List (Addr × Addr)} {l ps : List Nat} (h : VoyAt c H v s pp qq gg as) (hl : signs { s with ports := ps } = l) : VoyAt c (upd H qq (.lst (l.map nv))) v { s with ports := ps } pp qq gg as := by
  obtain ⟨⟨dv, e⟩, h1, h2, h3, h4, h5, h6, h7⟩ := h
  have of_ : Off c [qq] H := Off.ints h2 (fun z => by have := signs_length s; rw [z] at this; simp at this)
  have k : Kp [qq] H (upd H qq (.lst (l.map nv))) := Kp.upd _ _
  refine ⟨⟨dv, k v _ e fun z => ne_of h2 e lst_ne_ins (List.mem_singleton.mp z).symm⟩, k _ _ h1 fun z => h6 (List.mem_singleton.mp z), by rw [hl]; exact upd_same, k _ _ h3 fun z => ?_, Paired.mono h4 fun x g q => ?_, h5, h6, h7⟩
  · rw [List.mem_singleton.mp z, map_refs] at h3
    exact of_.refs qq (by simp) _ h3
  · obtain ⟨dg, ea⟩ := q.obj
    exact q.kp k of_ fun z => ne_of h2 ea lst_ne_ins (List.mem_singleton.mp z).symm
/-- a list that is none of a voyage's own goes -/
theorem VoyAt.hide1 {D pp qq gg : Addr} {as : List (Addr × Addr)} {xs : List V} (h : VoyAt c H v s pp qq gg as) (hD : H D = some (.lst xs)) (n1 : pp ≠ D) (n2 : qq ≠ D) (n3 : gg ≠ D) (n4 : ∀ x ∈ as, x.2 ≠ D) : VoyAt c (hide H D) v s pp qq gg as := by
  obtain ⟨⟨dv, e⟩, h1, h2, h3, h4, h5, h6, h7⟩ := h
  have ni : ∀ {q C d : Addr} {fs : List (Str × V)}, H q = some (.ins C d fs) → q ≠ D := fun {q C d fs} e2 => ne_of e2 hD fun z => lst_ne_ins z.symm
  have all : ∀ {as' : List (Addr × Addr)} {gs : List Good}, GoodsAt c H as' gs → (∀ x ∈ as', x.2 ≠ D) → GoodsAt c (hide H D) as' gs := by
    intro as' gs r n
    induction r with
    | nil => exact .nil
    | cons q t ih =>
      refine .cons ?_ (ih fun x hx => n x (List.mem_cons_of_mem _ hx))
      obtain ⟨⟨dx, e1⟩, bs, e2, r2⟩ := q
      refine ⟨⟨dx, by rw [hide_ne (ni e1)]; exact e1⟩, bs, by rw [hide_ne (n _ List.mem_cons_self)]; exact e2, Paired.mono r2 fun b y q2 => ?_⟩
      obtain ⟨dl, e3⟩ := q2
      exact ⟨dl, by rw [hide_ne (ni e3)]; exact e3⟩
  exact ⟨⟨dv, by rw [hide_ne (ni e)]; exact e⟩, by rw [hide_ne n1]; exact h1, by rw [hide_ne n2]; exact h2, by rw [hide_ne n3]; exact h3, all h4 n4, h5, h6, h7⟩
theorem VoyAt.stands {pp qq gg : Addr} {as : List (Addr × Addr)} (h : VoyAt c H v s pp qq gg as) : ∀ m ∈ v :: pp :: qq :: gg :: as.map (·.1), ∃ o, H m = some o := fun m hm => by
  obtain ⟨dv, ho⟩ := h.obj
  rcases List.mem_cons.mp hm with z | hm
  · rw [z]; exact ⟨_, ho⟩
  rcases List.mem_cons.mp hm with z | hm
  · rw [z]; exact ⟨_, h.pers⟩
  rcases List.mem_cons.mp hm with z | hm
  · rw [z]; exact ⟨_, h.port⟩
  rcases List.mem_cons.mp hm with z | hm
  · rw [z]; exact ⟨_, h.gods⟩
  obtain ⟨x, hx, z⟩ := List.mem_map.mp hm
  obtain ⟨j, hj⟩ := List.getElem?_of_mem hx
  obtain ⟨gj, _, gJ⟩ := Paired.get2 h.good hj
  obtain ⟨dj, oj⟩ := gJ.obj
  rw [← z]; exact ⟨_, oj⟩
/-- the lots' lists of as' are of as, or new -/
def Fr (H : Hp) (as as' : List (Addr × Addr)) : Prop := ∀ x ∈ as', x.2 ∈ as.map (·.2) ∨ H x.2 = none
theorem Fr.refl {as : List (Addr × Addr)} : Fr H as as := fun x hx => .inl (List.mem_map.mpr ⟨x, hx, rfl⟩)
theorem Fr.set {as as' : List (Addr × Addr)} {i : Nat} {q : Addr} (h : Fr H as as') (hq : q ∈ as.map (·.2) ∨ H q = none) : Fr H as (as'.set i (a, q)) := fun x hx => by
  rcases mem_set hx with r | r
  · rw [r]; exact hq
  · exact h x r
theorem Fr.snoc {as as' : List (Addr × Addr)} {q : Addr} (h : Fr H as as') (hq : H q = none) : Fr H as (as' ++ [(a, q)]) := fun x hx => by
  rcases List.mem_append.mp hx with r | r
  · exact h x r
  · rw [List.mem_singleton.mp r]; exact .inr hq
theorem Fr.trans {as as1 as2 : List (Addr × Addr)} (h : Fr H as as1) (h1 : Fr H' as1 as2) (f : ∀ q, H' q = none → H q = none) : Fr H as as2 := fun x hx => by
  rcases h1 x hx with r | r
  · obtain ⟨y, hy, e⟩ := List.mem_map.mp r
    rw [← e]; exact h y hy
  · exact .inr (f _ r)
theorem Kp.nothing (k : Kp M H H') (st : ∀ m ∈ M, ∃ o, H' m = some o) : ∀ q, H' q = none → H q = none := fun q hq => by
  cases e : H q with
  | none => rfl
  | some o =>
    by_cases z : q ∈ M
    · obtain ⟨o2, e2⟩ := st q z
      rw [hq] at e2; cases e2
    · rw [k q o e z] at hq; cases hq
end
end Sd

end
section
namespace Sd
open PySem L2
def top (i : Nat) : Stmt := PySem.Challenge.pw_shipstores_s01_answers.main.body.getD i (.Pass ⟨0, 0, 0, 0⟩)
abbrev st_Lot_init : Stmt := inClass (top 1) 0
abbrev st_units_in : Stmt := top 2
abbrev st_with_more : Stmt := top 3
abbrev st_without : Stmt := top 4
abbrev st_still_good : Stmt := top 5
abbrev st_Good_init : Stmt := inClass (top 7) 0
abbrev st_copy_of_good : Stmt := top 8
abbrev st_lots_if_loaded : Stmt := top 9
abbrev st_load : Stmt := top 10
abbrev st_give : Stmt := top 11
abbrev st_live_day : Stmt := top 12
abbrev st_lacks_by_day : Stmt := top 13
abbrev st_spoils_in_days : Stmt := top 14
abbrev st_Voyage_init : Stmt := inClass (top 35) 0
abbrev st_Ship_init : Stmt := inClass (top 36) 0
abbrev st_copy_of_voyage : Stmt := top 37
abbrev st_begin_voyage : Stmt := top 38
abbrev st_begin_change : Stmt := top 39
abbrev st_take_back : Stmt := top 40
abbrev st_do_again : Stmt := top 41
abbrev st_has_good : Stmt := top 42
abbrev st_port_sign : Stmt := top 43
abbrev st_next_port : Stmt := top 44
abbrev st_units_aboard : Stmt := top 45
abbrev st_room_left : Stmt := top 46
abbrev st_needs_by_day : Stmt := top 47
abbrev st_lacks_up_to : Stmt := top 48
abbrev st_bits_of : Stmt := top 49
abbrev st_sd_start : Stmt := top 51
abbrev st_sd_good : Stmt := top 52
abbrev st_sd_persons : Stmt := top 53
abbrev st_sd_port : Stmt := top 54
abbrev st_sd_load : Stmt := top 55
abbrev st_sd_give : Stmt := top 56
abbrev st_sd_ration : Stmt := top 57
abbrev st_sd_days : Stmt := top 58
abbrev st_end_today : Stmt := top 59
abbrev st_sd_back : Stmt := top 61
abbrev st_sd_again : Stmt := top 62
abbrev st_sd_state : Stmt := top 63
abbrev st_sd_who : Stmt := top 65
abbrev st_sd_next : Stmt := top 66
abbrev st_sd_short : Stmt := top 67
abbrev st_sd_room : Stmt := top 68
abbrev st_sd_lasts : Stmt := top 70
abbrev st_sd_least : Stmt := top 71
abbrev st_sd_enough : Stmt := top 72
abbrev st_sd_need : Stmt := top 73
abbrev st_sd_spoils : Stmt := top 74
abbrev st_sd_stock : Stmt := top 75
abbrev st_sd_lot : Stmt := top 76
abbrev st_sd_look : Stmt := top 77
abbrev st_sd_sums : Stmt := top 78
abbrev st_answers : Stmt := top 103
abbrev st_answer_of_call : Stmt := top 104
abbrev st_answer_of_change : Stmt := top 105
abbrev st_answer_of_question : Stmt := top 106
abbrev st_answer_of_look : Stmt := top 107
abbrev st_answer_of_history : Stmt := top 108
end Sd

end
section
set_option Elab.async false
set_option linter.all false
set_option maxRecDepth 100000
set_option maxHeartbeats 2000000
namespace Sd
open PySem PySem.Spec PyProof.Rows L2
open Km438 (Good Ship Desk Lots)
/-! ## the text's facts -/
/-- a def of the text, by its name -/
def FnAt (K : PySem.W.Frag) (mg : Str → Option Value) (x : Str) (st : Stmt) : Prop := ∃ f fd, Fun K x x st f fd ∧ mg x = some (.ref f)
/-- a def that keeps its promise, ready to be called -/
def Has (P : Program) (w : World) (K : PySem.W.Frag) (mg : Str → Option Value) (base : Heap) (k : Nat) (x : Str) (ps : List Str) (sp : Sp) : Prop :=
  ∃ f fd, FnOk P w K mg base CX0 k f fd ps sp ∧ mg x = some (.ref f) ∧ PySem.W.keepIn K (.ref f) = true ∧ Binds K fd ps []
/-- a class that can be made -/
def Makes (P : Program) (w : World) (K : PySem.W.Frag) (mg : Str → Option Value) (base : Heap) (k : Nat) (x : Str) (C : Addr) (ps : List Str) (sp : Sp) : Prop :=
  ∃ f fd, Mk K C f ∧ FnOk P w K mg base CX0 k f fd ps sp ∧ Binds K fd ps [] ∧ mg x = some (.ref C)
def InitAt (K : PySem.W.Frag) (mg : Str → Option Value) (x q : Str) (C : Addr) (st : Stmt) : Prop := ∃ f fd, Fun K "__init__" q st f fd ∧ Mk K C f ∧ mg x = some (.ref C)
structure TxtL (K : PySem.W.Frag) (C : Addr) : Prop where
  cl : Cls K C
  until_ : NoAttr K C "until"
  amount : NoAttr K C "amount"
structure TxtG (K : PySem.W.Frag) (C : Addr) : Prop where
  cl : Cls K C
  per : NoAttr K C "per"
  life : NoAttr K C "life"
  lots : NoAttr K C "lots"
  loaded : NoAttr K C "loaded"
  eaten : NoAttr K C "eaten"
  spoilt : NoAttr K C "spoilt"
  given : NoAttr K C "given"
  lacked : NoAttr K C "lacked"
structure TxtV (K : PySem.W.Frag) (C : Addr) : Prop where
  cl : Cls K C
  last : NoAttr K C "last"
  room : NoAttr K C "room"
  today : NoAttr K C "today"
  persons : NoAttr K C "persons"
  ports : NoAttr K C "ports"
  goods : NoAttr K C "goods"
structure TxtS (K : PySem.W.Frag) (C : Addr) : Prop where
  cl : Cls K C
  voyage : NoAttr K C "voyage"
  past : NoAttr K C "past"
  undone : NoAttr K C "undone"
/-- the names of Python's own that the text calls are its own -/
structure TxtB (mg : Str → Option Value) : Prop where
  sum : mg "sum" = none
  min : mg "min" = none
  len : mg "len" = none
  list : mg "list" = none
  range : mg "range" = none
  any : mg "any" = none
  zip : mg "zip" = none
  enumerate : mg "enumerate" = none
/-- a number of the text's top -/
def Num (mg : Str → Option Value) (x : Str) (i : Int) : Prop := ∃ t, mg x = some (.int i t)
structure Txt (K : PySem.W.Frag) (mg : Str → Option Value) (c : Cl) : Prop where
  L : TxtL K c.L
  G : TxtG K c.G
  V : TxtV K c.V
  S : TxtS K c.S
  B : TxtB mg
theorem pe_num {X : Cx} {x : Str} {i : Int} {pos : PySem.Pos} (h : Num X.mg x i) (hg : Gl X x) (hd : (x == ("__debug__" : Str)) = false := by decide) : PE X (.Name x pos) (tC (.int i)) := by
  obtain ⟨t, e⟩ := h
  exact pe_glob hg e ⟨t, rfl⟩ hd
theorem size1000 : 1000 < sizeLine := by decide
theorem line_of {n : Nat} (h : n ≤ 1000) : n < sizeLine := Nat.lt_of_le_of_lt h size1000
theorem line_le {n : Nat} (h : n ≤ 1000) : n ≤ sizeLine := Nat.le_of_lt (line_of h)
theorem take_succ {α : Type} {l : List α} {i : Nat} {x : α} (h : l[i]? = some x) : l.take (i + 1) = l.take i ++ [x] := by
  rw [List.take_add_one, h]; rfl
theorem map_get {α β : Type} {f : α → β} {l : List α} {i : Nat} {y : β} (h : (l.map f)[i]? = some y) : ∃ x, l[i]? = some x ∧ y = f x := by
  rw [List.getElem?_map] at h
  cases e : l[i]? with
  | none => rw [e] at h; cases h
  | some x => rw [e] at h; exact ⟨x, rfl, (Option.some.inj h).symm⟩
end Sd

end
section
set_option Elab.async false
set_option linter.all false
set_option maxRecDepth 100000
set_option maxHeartbeats 2000000
namespace Sd
open PySem PySem.Spec PyProof.Rows L2
open Km438 (Good Ship Desk Lots)
section
variable {P : Program} {w : World} {K : PySem.W.Frag} {mg : Str → Option Value} {base : Heap} {c : Cl}
/-! ## Lot -/
def spLot (c : Cl) : Sp := fun vs H Q _ => ∃ (p dx : Addr) (x : Nat × Nat), vs = [.ref p, nv x.1, nv x.2] ∧ H p = some (.ins c.L dx []) ∧ ∀ H' : Hp, H' p = some (.ins c.L dx (lotF x)) → Kp [p] H H' → Q .non H'
theorem sc_Lot : FnScope ["self", "until", "amount"] ["self", "until", "amount"] (defScope st_Lot_init) := ⟨rfl, rfl, rfl, by decide +kernel, rfl, by decide +kernel, by decide +kernel⟩
theorem ok_Lot (F : InitAt K mg "Lot" "Lot.__init__" c.L st_Lot_init) (T : Txt K mg c) : Makes P w K mg base 1 "Lot" c.L ["self", "until", "amount"] (spLot c) := by
  obtain ⟨f, fd, F, M, m⟩ := F
  refine ⟨f, fd, M, ?_, F.binds fun _ _ _ _ _ _ us hl => match us, hl with | [_, _, _], _ => rfl, m⟩
  refine F.ok sc_Lot (fun vs H Q E h => ?_) (fun cdv A outer s H vs Q E hr h => ?_)
  · obtain ⟨p, dx, x, rfl, _⟩ := h
    rfl
  · obtain ⟨p, dx, x, rfl, hp, k⟩ := h
    refine ⟨_, pss_cons (ps_fld (pv 0) (pv 1) rfl) (pss_one (ps_fld (pv 0) (pv 2) rfl)), ?_⟩
    refine ⟨_, rfl, _, rfl, p, c.L, dx, [], rfl, hp, T.L.cl, T.L.until_, (by show 0 < 1000; decide), ?_⟩
    refine ⟨_, rfl, _, rfl, p, c.L, dx, _, rfl, upd_same, T.L.cl, T.L.amount, (by show 1 < 1000; decide), ?_⟩
    exact k _ upd_same ((Kp.upd _ _).trans (Kp.upd _ _))
/-! ## units_in -/
def spUnits (c : Cl) : Sp := fun vs H Q _ => ∃ (p : Addr) (l : Lots), vs = [.ref p] ∧ LotsAt c H p l ∧ l.length ≤ 100 ∧ ∀ H' : Hp, Same H H' → Q (nv (Km438.amount l)) H'
theorem sc_units : FnScope ["lots", "lot"] ["lots"] (defScope st_units_in) := ⟨rfl, rfl, rfl, by decide +kernel, rfl, by decide +kernel, by decide +kernel⟩
theorem ok_units (F : FnAt K mg "units_in" st_units_in) (T : Txt K mg c) : Has P w K mg base 1 "units_in" ["lots"] (spUnits c) := by
  obtain ⟨f, fd, F, m⟩ := F
  refine ⟨f, fd, ?_, m, F.kp, F.binds fun _ _ _ _ _ _ us hl => match us, hl with | [_], _ => rfl⟩
  refine F.ok sc_units (fun vs H Q E h => ?_) (fun cdv A outer s H vs Q E hr h => ?_)
  · obtain ⟨p, l, rfl, _⟩ := h
    rfl
  · obtain ⟨p, l, rfl, ⟨bs, hp, r⟩, hn, k⟩ := h
    refine ⟨_, pss_one (ps_ret (pe_callB (cr_sum rfl) (by rfl) T.B.sum boot_sum (pa_cons (pe_lc (te := tFld K (tVar 1) "amount") rfl sc_units.nd (pi_list (pv 0)) (blkOk_by (own := [("lot", 1)]) (by kernel_rfl))
      (fun _ _ _ _ _ => pg_name (i := 1) sc_units.nd rfl (Or.inl rfl)) (fun _ _ _ _ _ => pts_nil) (fun _ _ _ _ _ => by exact pe_fld (pv 1) rfl)) pa_nil))), ?_⟩
    refine ⟨_, rfl, p, rfl, ⟨_, SqL.of hp⟩, fun D hD => lc_list (K := K) (xs := bs.map V.ref) (fun i H' => Same H H' ∧ H' D = some (.lst ((l.take i).map fun x => nv x.2))) ⟨Same.upd _ hD, upd_same⟩ (fun i H' _ ⟨s1, _⟩ => SqL.of (s1 _ _ hp)) ?_ ?_⟩
    · rintro i y H' hi ⟨s1, h1⟩
      obtain ⟨b, hb, rfl⟩ := map_get hi
      obtain ⟨x, hx, dx, hbx⟩ := Paired.get2 r hb
      refine ⟨rfl, _, rfl, b, c.L, dx, _, _, rfl, s1 _ _ hbx, T.L.cl, T.L.amount, rfl, _, h1, ?_, ?_, ?_⟩
      · rw [List.length_map, List.length_take]
        exact line_of (by omega)
      · exact fun b o e => by rw [upd_ne (ne_of_none e hD)]; exact s1 b o e
      · rw [upd_same, take_succ hx, List.map_append]; rfl
    · rintro H' ⟨s1, h1⟩
      rw [List.length_map, Paired.len r, List.take_length] at h1
      refine ⟨D, l.map fun x => (x.2 : Int), rfl, SqL.of (by rw [List.map_map]; exact h1), ?_⟩
      rw [amount_int]
      exact k H' s1
/-! ## with_more -/
def withMore (l : Lots) (u n : Nat) : Lots := match l.getLast? with
  | some x => if x.1 = u then l.dropLast ++ [(x.1, x.2 + n)] else l ++ [(u, n)]
  | none => [(u, n)]
theorem with_eq (g : Good) (t n : Nat) (h : n ≠ 0) : g.with_ t n = withMore g.lots (t + g.life) n := by
  unfold Km438.Good.with_ withMore
  rw [if_neg h]
  cases g.lots.getLast? <;> rfl
theorem made_same {H H1 : Hp} {x dx C : Addr} (nx : H x = none) (nd : H dx = none) (k : Kp [x] (upd (upd H dx (.own x)) x (.ins C dx [])) H1) : Same H H1 :=
  Same.made nx nd fun b o e hb => k b o e fun z => hb (List.mem_singleton.mp z)
theorem cut_init (xs : List V) (v : V) : cutV (xs ++ [v]) none (some (-1)) = xs := by
  unfold cutV
  have e : HT.sIx (xs ++ [v]).length (xs ++ [v]).length (some (-1)) = xs.length := by
    rw [List.length_append]
    show HT.sIx (xs.length + 1) _ (some (-1)) = _
    unfold HT.sIx
    simp
    omega
  rw [e, HT.sIx_none, List.drop_zero, Nat.sub_zero, List.take_left]
def spWith (c : Cl) : Sp := fun vs H Q _ => ∃ (p : Addr) (l : Lots) (u n : Nat), vs = [.ref p, nv u, nv n] ∧ LotsAt c H p l ∧ l.length ≤ 100 ∧
  ∀ (H' : Hp) (r : Addr), Same H H' → H r = none → LotsAt c H' r (withMore l u n) → Q (.ref r) H'
theorem sc_with : FnScope ["lots", "until", "n"] ["lots", "until", "n"] (defScope st_with_more) := ⟨rfl, rfl, rfl, by decide +kernel, rfl, by decide +kernel, by decide +kernel⟩
theorem withMore_snoc (l : Lots) (x : Nat × Nat) (u n : Nat) : withMore (l ++ [x]) u n = if x.1 = u then l ++ [(u, x.2 + n)] else (l ++ [x]) ++ [(u, n)] := by
  unfold withMore
  rw [List.getLast?_concat]
  show (if x.1 = u then (l ++ [x]).dropLast ++ [(x.1, x.2 + n)] else (l ++ [x]) ++ [(u, n)]) = _
  rw [List.dropLast_concat]
  by_cases h : x.1 = u
  · rw [if_pos h, if_pos h, h]
  · rw [if_neg h, if_neg h]
theorem ok_with (F : FnAt K mg "with_more" st_with_more) (T : Txt K mg c) (hL : Makes P w K mg base 1 "Lot" c.L ["self", "until", "amount"] (spLot c)) : Has P w K mg base 3 "with_more" ["lots", "until", "n"] (spWith c) := by
  obtain ⟨f, fd, F, m⟩ := F
  obtain ⟨fL, fdL, ML, GL, bL, mL⟩ := hL
  refine ⟨f, fd, ?_, m, F.kp, F.binds fun _ _ _ _ _ _ us hl => match us, hl with | [_, _, _], _ => rfl⟩
  refine F.ok sc_with (fun vs H Q E h => ?_) (fun cdv A outer s H vs Q E hr h => ?_)
  · obtain ⟨p, l, u, n, rfl, _⟩ := h
    rfl
  · obtain ⟨p, l, u, n, rfl, ⟨bs, hp, r⟩, hn, k⟩ := h
    refine ⟨_, pss_cons (ps_if (PW.pt (pw_and (pt_truth (pv 0) (fun _ => rfl)) (pw_and1 (pt_cmpR op_eq (pe_fld (pe_ix ix_list (pv 0) (pe_un un_neg pe_int) (fun _ _ => rfl)) rfl) (pv 1) (nomark _)))))
      (pss_one (ps_ret (pe_op op_cat (pe_slice sl_list (pv 0) po_none (po_some (pe_un un_neg pe_int))) (pe_lst (pa_cons (pe_make ML GL hr rfl mL bL .nil pass0 (pa_cons (pv 1) (pa_cons (pe_op op_add (pe_fld (pe_ix ix_list (pv 0) (pe_un un_neg pe_int) (fun _ _ => rfl)) rfl) (pv 2)) pa_nil))) pa_nil)))))
      pss_nil)
      (pss_one (ps_ret (pe_op op_cat (pv 0) (pe_lst (pa_cons (pe_make ML GL hr rfl mL bL .nil pass0 (pa_cons (pv 1) (pa_cons (pv 2) pa_nil))) pa_nil))))), ?_⟩
    have hlen := Paired.len r
    -- the last row, whatever stands ahead of it
    have fin : withMore l u n = l ++ [(u, n)] → tRet (tOp rCat (tVar 0) (tLst (tCons (tMake c.L (spLot c) [] E0 (tCons (tVar 1) (tCons (tVar 2) tNil))) tNil))) { nx := fun _ H' => Q .non H', rt := Q } [some (V.ref p), some (nv u), some (nv n)] H := fun e => by
      refine ⟨_, rfl, _, rfl, _, rfl, fun x dx nx ndx nex => ⟨x, dx, (u, n), rfl, upd_same, fun H1 h1 k1 => ⟨rfl, (by show 1 ≤ sizeLine; decide), fun q hq => ?_⟩⟩⟩
      have s1 : Same H H1 := made_same nx ndx k1
      have s2 : Same H1 (upd H1 q (.lst [V.ref x])) := Same.upd _ hq
      refine ⟨p, q, _, _, rfl, rfl, s2 _ _ (s1 _ _ hp), upd_same, (by rw [List.length_map, hlen]; exact line_le (by show l.length + 1 ≤ 1000; omega)), fun t ht => ?_⟩
      have s3 := Same.upd (.lst (bs.map V.ref ++ [V.ref x])) ht
      refine k _ t ((s1.trans s2).trans s3) ((s1.trans s2).free ht) ?_
      rw [e]
      refine ⟨bs ++ [x], by rw [upd_same, List.map_append]; rfl, Paired.app (Paired.mono r fun b y z => z.same ((s1.trans s2).trans s3)) (Paired.one ⟨dx, (s2.trans s3) _ _ h1⟩)⟩
    rcases List.eq_nil_or_concat l with e | ⟨l0, x, e⟩
    · subst e
      cases r
      refine ⟨_, rfl, false, .inl ⟨_, SqL.of hp, rfl⟩, ?_⟩
      exact fin rfl
    · rw [List.concat_eq_append] at e
      subst e
      have hl1 : (l0 ++ [x])[l0.length]? = some x := by simp
      obtain ⟨b, hb, dx, hbx⟩ := Paired.get1 r hl1
      have hbs : bs = bs.dropLast ++ [b] := by
        apply snoc_of_getLast
        rw [List.getLast?_eq_getElem?, hlen, List.length_append]
        exact hb
      have hlast : atI (bs.map V.ref) (-1) = some (V.ref b) := by
        rw [hbs, List.map_append]
        exact atI_last _ _
      refine ⟨_, rfl, true, .inl ⟨_, SqL.of hp, ?_⟩, ?_⟩
      · rw [hbs, List.map_append]
        simp
      · refine ⟨_, rfl, _, rfl, p, _, _, _, rfl, rfl, SqL.of hp, hlast, b, c.L, dx, _, _, rfl, hbx, T.L.cl, T.L.until_, rfl, _, rfl, rfl, _, rfl, ?_⟩
        by_cases hu : x.1 = u
        · have hd : decide (nv x.1 = nv u) = true := by rw [hu]; exact decide_eq_true rfl
          rw [hd]
          refine ⟨_, rfl, 1, rfl, -1, rfl, p, _, rfl, SqL.of hp, fun q hq => ?_⟩
          have s1 := Same.upd (.lst (cutV (bs.map V.ref) none (some (-1)))) hq
          refine ⟨_, rfl, _, rfl, 1, rfl, p, _, _, _, rfl, rfl, SqL.of (s1 _ _ hp), hlast, b, c.L, dx, _, _, rfl, s1 _ _ hbx, T.L.cl, T.L.amount, rfl, _, rfl, _, _, rfl, rfl, fun y dy ny ndy ney => ⟨y, dy, (u, x.2 + n), rfl, upd_same, fun H1 h1 k1 => ⟨rfl, (by show 1 ≤ sizeLine; decide), fun q2 hq2 => ?_⟩⟩⟩
          have s2 := made_same ny ndy k1
          have s3 := Same.upd (.lst [V.ref y]) hq2
          have hcut : cutV (bs.map V.ref) none (some (-1)) = bs.dropLast.map V.ref := by
            rw [hbs, List.map_append]
            show cutV (_ ++ [V.ref b]) none (some (-1)) = _
            rw [cut_init, List.dropLast_concat]
          refine ⟨q, q2, _, _, rfl, rfl, s3 _ _ (s2 _ _ upd_same), upd_same, ?_, fun t ht => ?_⟩
          · rw [hcut, List.length_map, List.length_dropLast, hlen]
            exact line_le (by show (l0 ++ [x]).length - 1 + 1 ≤ 1000; omega)
          · have s4 := Same.upd (.lst (cutV (bs.map V.ref) none (some (-1)) ++ [V.ref y])) ht
            have s14 := ((s1.trans s2).trans s3).trans s4
            refine k _ t s14 (((s1.trans s2).trans s3).free ht) ?_
            rw [withMore_snoc, if_pos hu]
            refine ⟨bs.dropLast ++ [y], by rw [upd_same, hcut, List.map_append]; rfl, Paired.app ?_ (Paired.one ⟨dy, (s3.trans s4) _ _ h1⟩)⟩
            have r2 := Paired.take l0.length r
            have e1 : bs.take l0.length = bs.dropLast := by
              rw [List.dropLast_eq_take, hlen, List.length_append]; rfl
            rw [List.take_left, e1] at r2
            exact Paired.mono r2 fun b y z => z.same s14
        · have hd : decide (nv x.1 = nv u) = false := by
            refine decide_eq_false fun z => hu ?_
            have := V.int.inj z
            omega
          rw [hd]
          exact fin (by rw [withMore_snoc, if_neg hu])
/-! ## without -/
def spWithout (c : Cl) : Sp := fun vs H Q _ => ∃ (p : Addr) (l : Lots) (n : Nat), vs = [.ref p, nv n] ∧ LotsAt c H p l ∧ l.length ≤ 100 ∧ Pos l ∧
  ∀ (H' : Hp) (r : Addr), Same H H' → H r = none → LotsAt c H' r (Km438.eat n l).1 → Q (.ref r) H'
theorem sc_without : FnScope ["lots", "n", "left", "rest", "lot", "gone"] ["lots", "n"] (defScope st_without) := ⟨rfl, rfl, rfl, by decide +kernel, rfl, by decide +kernel, by decide +kernel⟩
theorem without_few : ∀ (l : Lots) (n : Nat), (without l n).length ≤ l.length
  | [], _ => Nat.le_refl _
  | (e, a) :: l, n => by
    rw [without]
    by_cases h : min n a < a
    · rw [if_pos h]; exact Nat.succ_le_succ (without_few l _)
    · rw [if_neg h]; exact Nat.le_succ_of_le (without_few l _)
theorem ok_without (F : FnAt K mg "without" st_without) (T : Txt K mg c) (hL : Makes P w K mg base 1 "Lot" c.L ["self", "until", "amount"] (spLot c)) : Has P w K mg base 3 "without" ["lots", "n"] (spWithout c) := by
  obtain ⟨f, fd, F, m⟩ := F
  obtain ⟨fL, fdL, ML, GL, bL, mL⟩ := hL
  refine ⟨f, fd, ?_, m, F.kp, F.binds fun _ _ _ _ _ _ us hl => match us, hl with | [_, _], _ => rfl⟩
  refine F.ok sc_without (fun vs H Q E h => ?_) (fun cdv A outer s H vs Q E hr h => ?_)
  · obtain ⟨p, l, n, rfl, _⟩ := h
    rfl
  · obtain ⟨p, l, n, rfl, ⟨bs, hp, r⟩, hn, hpos, k⟩ := h
    refine ⟨_, pss_cons (ps_set (i := 2) sc_without.nd rfl (Or.inl rfl) (pe_lst pa_nil))
      (pss_cons (ps_set (i := 3) sc_without.nd rfl (Or.inl rfl) (pv 1))
      (pss_cons (ps_for PassesOwn.never rfl (pi_list (pv 0)) (pg_name (i := 4) sc_without.nd rfl (Or.inl rfl))
        (pss_cons (ps_set (i := 5) sc_without.nd rfl (Or.inl rfl) (pe_callB (call_min2 rfl) (by rfl) T.B.min boot_min (pa_cons (pv 3) (pa_cons (pe_fld (pv 4) rfl) pa_nil))))
        (pss_cons (ps_aug (i := 3) sc_without.nd rfl (Or.inl rfl) (pv 5) ip_sub)
        (pss_one (ps_if (pt_cmpR op_lt (pv 5) (pe_fld (pv 4) rfl) (nomark _))
          (pss_one (ps_expr (pe_bm PySem.F.plainAttrs_list PySem.F.slot_list_append PySem.F.type_list_append mt_append (pv 2) (pa_cons (pe_make ML GL hr rfl mL bL .nil pass0 (pa_cons (pe_fld (pv 4) rfl) (pa_cons (pe_op op_sub (pe_fld (pv 4) rfl) (pv 5)) pa_nil))) pa_nil))))
          pss_nil)))))
      (pss_one (ps_ret (pv 2))))), ?_⟩
    refine ⟨Nat.zero_le _, fun D hD => ⟨_, rfl, ?_⟩⟩
    have s0 := Same.upd (.lst []) hD
    refine ⟨_, rfl, p, rfl, ⟨_, SqL.of (s0 _ _ hp)⟩, for_list (K := K) (a := p) (xs := bs.map V.ref) (fun i σ H' => ∃ (v4 v5 : Option V) (cs : List Addr), σ = [some (.ref p), some (nv n), some (.ref D), some (nv (n - Km438.amount (l.take i))), v4, v5] ∧ Same H H' ∧ H' D = some (.lst (cs.map V.ref)) ∧ Paired (LotAt c H') cs (without (l.take i) n))
      ⟨none, none, [], ?_, s0, upd_same, .nil⟩ (fun i σ H' _ ⟨_, _, _, _, s1, _⟩ => SqL.of (s1 _ _ hp)) ?_ ?_⟩
    · rw [List.take_zero, amount_nil, Nat.sub_zero]; rfl
    · rintro i y σ H' hi ⟨v4, v5, cs, rfl, s1, h1, r1⟩
      obtain ⟨b, hb, rfl⟩ := map_get hi
      obtain ⟨x, hx, dx, hbx⟩ := Paired.get2 r hb
      have hb1 := s1 _ _ hbx
      have hi2 : i < l.length := (List.getElem?_eq_some_iff.mp hx).1
      refine ⟨_, rfl, _, rfl, b, c.L, dx, _, _, rfl, hb1, T.L.cl, T.L.amount, rfl, _, _, rfl, ?_⟩
      have emin : (if ((x.2 : Nat) : Int) < ((n - Km438.amount (l.take i) : Nat) : Int) then ((x.2 : Nat) : Int) else ((n - Km438.amount (l.take i) : Nat) : Int)) = ((min (n - Km438.amount (l.take i)) x.2 : Nat) : Int) := by
        split <;> omega
      have et : l.take (i + 1) = l.take i ++ [x] := take_succ hx
      have ea : Km438.amount (l.take (i + 1)) = Km438.amount (l.take i) + x.2 := by rw [et, amount_append, amount_cons, amount_nil]; rfl
      have ew : without (l.take (i + 1)) n = _ := (congrArg (fun z => without z n) et).trans (without_snoc x.1 x.2 (l.take i) n)
      show tSeq _ _ _ _ _
      rw [emin]
      generalize hg : min (n - Km438.amount (l.take i)) x.2 = gone at ew ⊢
      refine ⟨_, rfl, _, rfl, _, _, rfl, rfl, ?_⟩
      have es : ((n - Km438.amount (l.take i) : Nat) : Int) - (gone : Int) = ((n - Km438.amount (l.take (i + 1)) : Nat) : Int) := by omega
      dsimp only
      rw [es]
      refine ⟨_, rfl, _, rfl, b, c.L, dx, _, _, rfl, hb1, T.L.cl, T.L.amount, rfl, _, _, rfl, rfl, _, rfl, ?_⟩
      refine ite2 (fun hlt => ?_) fun hge => ?_
      · have hlt : gone < x.2 := by have := of_decide_eq_true hlt; omega
        have ed : ((x.2 : Nat) : Int) - (gone : Int) = ((x.2 - gone : Nat) : Int) := by omega
        refine ⟨_, rfl, .inl ⟨rfl, _, SqL.of h1⟩, _, rfl, b, c.L, dx, _, _, rfl, hb1, T.L.cl, T.L.until_, rfl, _, rfl, b, c.L, dx, _, _, rfl, hb1, T.L.cl, T.L.amount, rfl, _, rfl, _, _, rfl, rfl, ?_⟩
        dsimp only
        rw [ed]
        refine fun y dy ny ndy ney => ⟨y, dy, (x.1, x.2 - gone), rfl, upd_same, fun H1 h1' k1 => ⟨rfl, D, _, _, rfl, rfl, made_same ny ndy k1 _ _ h1, ?_, ?_⟩⟩
        · rw [List.length_map, Paired.len r1]
          have := without_few (l.take i) n
          rw [List.length_take] at this
          exact line_of (by omega)
        · have s2 := made_same ny ndy k1
          refine ⟨_, _, cs ++ [y], rfl, fun b' o e => ?_, by rw [upd_same, List.map_append]; rfl, ?_⟩
          · rw [upd_ne (ne_of_none e hD)]
            exact s2 _ _ (s1 _ _ e)
          · rw [ew, if_pos hlt]
            have kD : ∀ {q : Addr} {z : Nat × Nat}, LotAt c H1 q z → LotAt c (upd H1 D (.lst (cs.map V.ref ++ [V.ref y]))) q z := fun {q z} hq => by
              obtain ⟨dq, hq⟩ := hq
              exact ⟨dq, by rw [upd_ne (ne_of hq (s2 _ _ h1) fun z => lst_ne_ins z.symm)]; exact hq⟩
            exact Paired.app (Paired.mono r1 fun q z hq => kD (hq.same s2)) (Paired.one (kD ⟨dy, h1'⟩))
      · have hge : ¬ gone < x.2 := fun z => hge (decide_eq_true (by omega))
        refine ⟨_, _, cs, rfl, s1, h1, ?_⟩
        rw [ew, if_neg hge, List.append_nil]
        exact r1
    · rintro σ H' ⟨v4, v5, cs, rfl, s1, h1, r1⟩
      rw [List.length_map, Paired.len r, List.take_length] at r1
      rw [without_eat n hpos] at r1
      exact ⟨_, rfl, k H' D s1 hD ⟨cs, h1, r1⟩⟩
/-! ## still_good -/
def spStill (c : Cl) : Sp := fun vs H Q _ => ∃ (p : Addr) (l : Lots) (t : Nat), vs = [.ref p, nv t] ∧ LotsAt c H p l ∧ l.length ≤ 100 ∧
  ∀ (H' : Hp) (r : Addr), Same H H' → H r = none → LotsAt c H' r (Km438.fresh_ l t) → Q (.ref r) H'
theorem sc_still : FnScope ["lots", "today", "lot"] ["lots", "today"] (defScope st_still_good) := ⟨rfl, rfl, rfl, by decide +kernel, rfl, by decide +kernel, by decide +kernel⟩
theorem ok_still (F : FnAt K mg "still_good" st_still_good) (T : Txt K mg c) : Has P w K mg base 1 "still_good" ["lots", "today"] (spStill c) := by
  obtain ⟨f, fd, F, m⟩ := F
  refine ⟨f, fd, ?_, m, F.kp, F.binds fun _ _ _ _ _ _ us hl => match us, hl with | [_, _], _ => rfl⟩
  refine F.ok sc_still (fun vs H Q E h => ?_) (fun cdv A outer s H vs Q E hr h => ?_)
  · obtain ⟨p, l, t, rfl, _⟩ := h
    rfl
  · obtain ⟨p, l, t, rfl, ⟨bs, hp, r⟩, hn, k⟩ := h
    refine ⟨_, pss_one (ps_ret (pe_lc (te := tVar 2) (tt := tTest (tOp (rI0 fun i j => .bl (decide (j ≤ i))) (tFld K (tVar 2) "until") (tVar 1))) rfl sc_still.nd (pi_list (pv 0)) (blkOk_by (own := [("lot", 2)]) (by kernel_rfl))
      (fun _ _ _ _ _ => pg_name (i := 2) sc_still.nd rfl (Or.inl rfl)) (fun _ _ _ _ _ => by exact pts_one (pt_cmpR op_ge (pe_fld (pv 2) rfl) (pv 1) (nomark _))) (fun _ _ _ _ _ => by exact pv 2))), ?_⟩
    refine ⟨_, rfl, p, rfl, ⟨_, SqL.of hp⟩, fun D hD => lc_list (K := K) (xs := bs.map V.ref) (fun i H' => Same H H' ∧ ∃ cs : List Addr, H' D = some (.lst (cs.map V.ref)) ∧ Paired (LotAt c H) cs (Km438.fresh_ (l.take i) t)) ⟨Same.upd _ hD, [], upd_same, .nil⟩ (fun i H' _ ⟨s1, _⟩ => SqL.of (s1 _ _ hp)) ?_ ?_⟩
    · rintro i y H' hi ⟨s1, cs, h1, r1⟩
      obtain ⟨b, hb, rfl⟩ := map_get hi
      obtain ⟨x, hx, dx, hbx⟩ := Paired.get2 r hb
      have et : l.take (i + 1) = l.take i ++ [x] := take_succ hx
      refine ⟨rfl, _, rfl, b, c.L, dx, _, _, rfl, s1 _ _ hbx, T.L.cl, T.L.until_, rfl, _, rfl, _, _, rfl, rfl, _, rfl, ?_⟩
      refine ite2 (fun hlt => ?_) fun hge => ?_
      · have hlt : t ≤ x.1 := by have := of_decide_eq_true hlt; omega
        refine ⟨_, rfl, _, h1, ?_, ?_, cs ++ [b], ?_, ?_⟩
        · rw [List.length_map, Paired.len r1]
          have := fresh_length (l.take i) t
          rw [List.length_take] at this
          exact line_of (by omega)
        · exact fun b o e => by rw [upd_ne (ne_of_none e hD)]; exact s1 b o e
        · rw [upd_same, List.map_append]; rfl
        · rw [et, fresh_append]
          refine Paired.app r1 ?_
          unfold Km438.fresh_
          rw [List.filter_cons, if_pos (decide_eq_true hlt)]
          exact Paired.one ⟨dx, hbx⟩
      · have hge : ¬ t ≤ x.1 := fun z => hge (decide_eq_true (by omega))
        refine ⟨s1, cs, h1, ?_⟩
        rw [et, fresh_append]
        have e0 : Km438.fresh_ [x] t = [] := by
          unfold Km438.fresh_
          rw [List.filter_cons, if_neg (fun z => hge (of_decide_eq_true z))]; rfl
        rw [e0, List.append_nil]
        exact r1
    · rintro H' ⟨s1, cs, h1, r1⟩
      rw [List.length_map, Paired.len r, List.take_length] at r1
      exact k H' D s1 hD ⟨cs, h1, Paired.mono r1 fun b x z => z.same s1⟩
end
end Sd

end
section
set_option Elab.async false
set_option linter.all false
set_option maxRecDepth 100000
set_option maxHeartbeats 2000000
namespace Sd
open PySem PySem.Spec PyProof.Rows L2
open Km438 (Good Ship Desk Lots)
section
variable {P : Program} {w : World} {K : PySem.W.Frag} {mg : Str → Option Value} {base : Heap} {c : Cl}
/-! ## Good -/
def newGood (per life : Nat) : Good := ⟨per, life, [], 0, 0, 0, 0, 0⟩
def spGood (c : Cl) : Sp := fun vs H Q _ => ∃ (a dx : Addr) (per life : Nat), vs = [.ref a, nv per, nv life] ∧ H a = some (.ins c.G dx []) ∧
  ∀ (H' : Hp) (p : Addr), H' a = some (.ins c.G dx (goodF (newGood per life) p)) → H' p = some (.lst []) → H p = none → Kp [a] H H' → Q .non H'
theorem sc_Good : FnScope ["self", "per", "life"] ["self", "per", "life"] (defScope st_Good_init) := ⟨rfl, rfl, rfl, by decide +kernel, rfl, by decide +kernel, by decide +kernel⟩
theorem ok_Good (F : InitAt K mg "Good" "Good.__init__" c.G st_Good_init) (T : Txt K mg c) : Makes P w K mg base 1 "Good" c.G ["self", "per", "life"] (spGood c) := by
  obtain ⟨f, fd, F, M, m⟩ := F
  refine ⟨f, fd, M, ?_, F.binds fun _ _ _ _ _ _ us hl => match us, hl with | [_, _, _], _ => rfl, m⟩
  refine F.ok sc_Good (fun vs H Q E h => ?_) (fun cdv A outer s H vs Q E hr h => ?_)
  · obtain ⟨a, dx, per, life, rfl, _⟩ := h
    rfl
  · obtain ⟨a, dx, per, life, rfl, ha, k⟩ := h
    refine ⟨_, pss_cons (ps_fld (pv 0) (pv 1) rfl) (pss_cons (ps_fld (pv 0) (pv 2) rfl) (pss_cons (ps_fld (pv 0) (pe_lst pa_nil) rfl)
      (pss_cons (ps_fld (pv 0) pe_int rfl) (pss_cons (ps_fld (pv 0) pe_int rfl) (pss_cons (ps_fld (pv 0) pe_int rfl) (pss_cons (ps_fld (pv 0) pe_int rfl) (pss_one (ps_fld (pv 0) pe_int rfl)))))))), ?_⟩
    refine ⟨_, rfl, _, rfl, a, c.G, dx, [], rfl, ha, T.G.cl, T.G.per, (by show 0 < 1000; decide), ?_⟩
    refine ⟨_, rfl, _, rfl, a, c.G, dx, _, rfl, upd_same, T.G.cl, T.G.life, (by show 1 < 1000; decide), ?_⟩
    refine ⟨Nat.zero_le _, fun p hp => ?_⟩
    have np : a ≠ p := ne_of_none upd_same hp
    refine ⟨_, rfl, a, c.G, dx, _, rfl, (upd_ne np).trans upd_same, T.G.cl, T.G.lots, (by show 2 < 1000; decide), ?_⟩
    refine ⟨_, rfl, a, c.G, dx, _, rfl, upd_same, T.G.cl, T.G.loaded, (by show 3 < 1000; decide), ?_⟩
    refine ⟨_, rfl, a, c.G, dx, _, rfl, upd_same, T.G.cl, T.G.eaten, (by show 4 < 1000; decide), ?_⟩
    refine ⟨_, rfl, a, c.G, dx, _, rfl, upd_same, T.G.cl, T.G.spoilt, (by show 5 < 1000; decide), ?_⟩
    refine ⟨_, rfl, a, c.G, dx, _, rfl, upd_same, T.G.cl, T.G.given, (by show 6 < 1000; decide), ?_⟩
    refine ⟨_, rfl, a, c.G, dx, _, rfl, upd_same, T.G.cl, T.G.lacked, (by show 7 < 1000; decide), ?_⟩
    have k1 := (Kp.upd (H := H) a (.ins c.G dx (putF "per" (nv per) []))).trans (Kp.upd a (.ins c.G dx (putF "life" (nv life) (putF "per" (nv per) []))))
    have hp0 : H p = none := by
      cases e : H p with
      | none => rfl
      | some o =>
        have := k1 p o e fun z => np (List.mem_singleton.mp z).symm
        rw [hp] at this; cases this
    refine k _ p upd_same ?_ hp0 (((((((k1.trans (Kp.same (Same.upd _ hp) [a])).trans (Kp.upd _ _)).trans (Kp.upd _ _)).trans (Kp.upd _ _)).trans (Kp.upd _ _)).trans (Kp.upd _ _)).trans (Kp.upd _ _))
    have np' : p ≠ a := np.symm
    rw [upd_ne np', upd_ne np', upd_ne np', upd_ne np', upd_ne np', upd_ne np', upd_same]
theorem Same.put {H H1 : Hp} {b : Addr} (o : HO) (s : Same H H1) (hb : H b = none) : Same H (L2.upd H1 b o) := fun x u e => by
  rw [upd_ne (ne_of_none e hb)]
  exact s x u e
theorem hole {H H1 : Hp} {p : Addr} (s : Same H H1) (h : H1 p = none) : H p = none := s.free h
theorem LotsAt.updL {H : Hp} {p D : Addr} {l : Lots} {xs : List V} {o : HO} (h : LotsAt c H p l) (hD : H D = some (.lst xs)) (np : p ≠ D) : LotsAt c (L2.upd H D o) p l := by
  obtain ⟨bs, hp, r⟩ := h
  refine ⟨bs, by rw [upd_ne np]; exact hp, Paired.mono r fun b x hb => ?_⟩
  obtain ⟨dx, hb⟩ := hb
  exact ⟨dx, by rw [upd_ne (ne_of hb hD fun z => lst_ne_ins z.symm)]; exact hb⟩
theorem GoodAt.updL {H : Hp} {a p D : Addr} {g : Good} {xs : List V} {o : HO} (h : GoodAt c H a p g) (hD : H D = some (.lst xs)) (np : p ≠ D) : GoodAt c (L2.upd H D o) a p g := by
  obtain ⟨⟨dx, ha⟩, hl⟩ := h
  exact ⟨⟨dx, by rw [upd_ne (ne_of ha hD fun z => lst_ne_ins z.symm)]; exact ha⟩, hl.updL hD np⟩
/-! ## copy_of_good -/
def spCopyG (c : Cl) : Sp := fun vs H Q _ => ∃ (a p : Addr) (g : Good), vs = [.ref a] ∧ GoodAt c H a p g ∧ g.lots.length ≤ 100 ∧
  ∀ (H' : Hp) (b q : Addr), Same H H' → H b = none → H q = none → GoodAt c H' b q g → Q (.ref b) H'
theorem sc_copyG : FnScope ["good", "copied"] ["good"] (defScope st_copy_of_good) := ⟨rfl, rfl, rfl, by decide +kernel, rfl, by decide +kernel, by decide +kernel⟩
theorem ok_copyG (F : FnAt K mg "copy_of_good" st_copy_of_good) (T : Txt K mg c) (hG : Makes P w K mg base 1 "Good" c.G ["self", "per", "life"] (spGood c)) : Has P w K mg base 3 "copy_of_good" ["good"] (spCopyG c) := by
  obtain ⟨f, fd, F, m⟩ := F
  obtain ⟨fG, fdG, MG, GG, bG, mG⟩ := hG
  refine ⟨f, fd, ?_, m, F.kp, F.binds fun _ _ _ _ _ _ us hl => match us, hl with | [_], _ => rfl⟩
  refine F.ok sc_copyG (fun vs H Q E h => ?_) (fun cdv A outer s H vs Q E hr h => ?_)
  · obtain ⟨a, p, g, rfl, _⟩ := h
    rfl
  · obtain ⟨a, p, g, rfl, ⟨⟨dx, ha⟩, bs, hp, r⟩, hn, k⟩ := h
    refine ⟨_, pss_cons (ps_set (i := 1) sc_copyG.nd rfl (Or.inl rfl) (pe_make MG GG hr rfl mG bG .nil pass0 (pa_cons (pe_fld (pv 0) rfl) (pa_cons (pe_fld (pv 0) rfl) pa_nil))))
      (pss_cons (ps_fld (pv 1) (pe_callTy call_list_of (by rfl) T.B.list boot_list (pa_cons (pe_fld (pv 0) rfl) pa_nil)) rfl)
      (pss_cons (ps_fld (pv 1) (pe_fld (pv 0) rfl) rfl) (pss_cons (ps_fld (pv 1) (pe_fld (pv 0) rfl) rfl) (pss_cons (ps_fld (pv 1) (pe_fld (pv 0) rfl) rfl) (pss_cons (ps_fld (pv 1) (pe_fld (pv 0) rfl) rfl) (pss_cons (ps_fld (pv 1) (pe_fld (pv 0) rfl) rfl)
      (pss_one (ps_ret (pv 1))))))))), ?_⟩
    refine ⟨_, rfl, a, c.G, dx, _, _, rfl, ha, T.G.cl, T.G.per, rfl, _, rfl, a, c.G, dx, _, _, rfl, ha, T.G.cl, T.G.life, rfl, fun b db nb ndb neb => ⟨b, db, g.per, g.life, rfl, upd_same, fun H1 p0 hb1 hp0 np0 k1 => ⟨rfl, ?_⟩⟩⟩
    have s1 : Same H H1 := made_same nb ndb k1
    have ne : ∀ {H' : Hp}, Same H H' → H' a = some (.ins c.G dx (goodF g p)) := fun s => s _ _ ha
    refine ⟨_, rfl, a, c.G, dx, _, _, rfl, ne s1, T.G.cl, T.G.lots, rfl, p, _, rfl, .inl (SqL.of (s1 _ _ hp)), fun q hq => ?_⟩
    have nbq : b ≠ q := ne_of_none hb1 hq
    have s2 := s1.trans (Same.upd (.lst (bs.map V.ref)) hq)
    refine ⟨_, rfl, b, c.G, db, _, rfl, (upd_ne nbq).trans hb1, T.G.cl, T.G.lots, (by show 8 < 1000; decide), ?_⟩
    have s3 := Same.put (.ins c.G db (goodF { newGood g.per g.life with lots := g.lots } q)) s2 nb
    refine ⟨_, rfl, a, c.G, dx, _, _, rfl, ne s3, T.G.cl, T.G.loaded, rfl, _, rfl, b, c.G, db, _, rfl, upd_same, T.G.cl, T.G.loaded, (by show 8 < 1000; decide), ?_⟩
    have s4 := Same.put (.ins c.G db (goodF { newGood g.per g.life with lots := g.lots, loaded := g.loaded } q)) s3 nb
    refine ⟨_, rfl, a, c.G, dx, _, _, rfl, ne s4, T.G.cl, T.G.eaten, rfl, _, rfl, b, c.G, db, _, rfl, upd_same, T.G.cl, T.G.eaten, (by show 8 < 1000; decide), ?_⟩
    have s5 := Same.put (.ins c.G db (goodF { newGood g.per g.life with lots := g.lots, loaded := g.loaded, eaten := g.eaten } q)) s4 nb
    refine ⟨_, rfl, a, c.G, dx, _, _, rfl, ne s5, T.G.cl, T.G.spoilt, rfl, _, rfl, b, c.G, db, _, rfl, upd_same, T.G.cl, T.G.spoilt, (by show 8 < 1000; decide), ?_⟩
    have s6 := Same.put (.ins c.G db (goodF { newGood g.per g.life with lots := g.lots, loaded := g.loaded, eaten := g.eaten, spoilt := g.spoilt } q)) s5 nb
    refine ⟨_, rfl, a, c.G, dx, _, _, rfl, ne s6, T.G.cl, T.G.given, rfl, _, rfl, b, c.G, db, _, rfl, upd_same, T.G.cl, T.G.given, (by show 8 < 1000; decide), ?_⟩
    have s7 := Same.put (.ins c.G db (goodF { newGood g.per g.life with lots := g.lots, loaded := g.loaded, eaten := g.eaten, spoilt := g.spoilt, given := g.given } q)) s6 nb
    refine ⟨_, rfl, a, c.G, dx, _, _, rfl, ne s7, T.G.cl, T.G.lacked, rfl, _, rfl, b, c.G, db, _, rfl, upd_same, T.G.cl, T.G.lacked, (by show 8 < 1000; decide), ?_⟩
    have s8 := Same.put (.ins c.G db (goodF g q)) s7 nb
    refine ⟨_, rfl, k _ b q s8 nb (s1.free hq) ⟨⟨db, upd_same⟩, bs, ?_, Paired.mono r fun z y hz => hz.same s8⟩⟩
    have nqb : q ≠ b := nbq.symm
    rw [upd_ne nqb, upd_ne nqb, upd_ne nqb, upd_ne nqb, upd_ne nqb, upd_ne nqb, upd_same]
/-! ## lots_if_loaded, load, give -/
def spIf (c : Cl) : Sp := fun vs H Q _ => ∃ (a p : Addr) (g : Good) (t n : Nat), vs = [.ref a, nv t, nv n] ∧ GoodAt c H a p g ∧ g.lots.length ≤ 100 ∧
  ∀ (H' : Hp) (r : Addr), Same H H' → H r = none → LotsAt c H' r (withMore g.lots (t + g.life) n) → Q (.ref r) H'
theorem sc_if : FnScope ["good", "today", "n"] ["good", "today", "n"] (defScope st_lots_if_loaded) := ⟨rfl, rfl, rfl, by decide +kernel, rfl, by decide +kernel, by decide +kernel⟩
theorem ok_if (F : FnAt K mg "lots_if_loaded" st_lots_if_loaded) (T : Txt K mg c) (hW : Has P w K mg base 3 "with_more" ["lots", "until", "n"] (spWith c)) : Has P w K mg base 4 "lots_if_loaded" ["good", "today", "n"] (spIf c) := by
  obtain ⟨f, fd, F, m⟩ := F
  obtain ⟨fW, fdW, GW, mW, kW, bW⟩ := hW
  refine ⟨f, fd, ?_, m, F.kp, F.binds fun _ _ _ _ _ _ us hl => match us, hl with | [_, _, _], _ => rfl⟩
  refine F.ok sc_if (fun vs H Q E h => ?_) (fun cdv A outer s H vs Q E hr h => ?_)
  · obtain ⟨a, p, g, t, n, rfl, _⟩ := h
    rfl
  · obtain ⟨a, p, g, t, n, rfl, ⟨⟨dx, ha⟩, hL⟩, hn, k⟩ := h
    refine ⟨_, pss_one (ps_ret (pe_call GW hr rfl mW kW bW .nil pass0 (pa_cons (pe_fld (pv 0) rfl) (pa_cons (pe_op op_add (pv 1) (pe_fld (pv 0) rfl)) (pa_cons (pv 2) pa_nil))))), ?_⟩
    exact ⟨_, rfl, a, c.G, dx, _, _, rfl, ha, T.G.cl, T.G.lots, rfl, _, rfl, _, rfl, a, c.G, dx, _, _, rfl, ha, T.G.cl, T.G.life, rfl, _, _, rfl, rfl, _, rfl, p, g.lots, t + g.life, n, rfl, hL, hn, k⟩
def spLoad (c : Cl) : Sp := fun vs H Q _ => ∃ (a p : Addr) (g : Good) (t n : Nat), vs = [.ref a, nv t, nv n] ∧ GoodAt c H a p g ∧ g.lots.length ≤ 100 ∧ n ≠ 0 ∧
  ∀ (H' : Hp) (r : Addr), Kp [a] H H' → H r = none → GoodAt c H' a r { g with lots := g.with_ t n, loaded := g.loaded + n } → Q .non H'
theorem sc_load : FnScope ["good", "today", "n"] ["good", "today", "n"] (defScope st_load) := ⟨rfl, rfl, rfl, by decide +kernel, rfl, by decide +kernel, by decide +kernel⟩
theorem ok_load (F : FnAt K mg "load" st_load) (T : Txt K mg c) (hW : Has P w K mg base 4 "lots_if_loaded" ["good", "today", "n"] (spIf c)) : Has P w K mg base 5 "load" ["good", "today", "n"] (spLoad c) := by
  obtain ⟨f, fd, F, m⟩ := F
  obtain ⟨fW, fdW, GW, mW, kW, bW⟩ := hW
  refine ⟨f, fd, ?_, m, F.kp, F.binds fun _ _ _ _ _ _ us hl => match us, hl with | [_, _, _], _ => rfl⟩
  refine F.ok sc_load (fun vs H Q E h => ?_) (fun cdv A outer s H vs Q E hr h => ?_)
  · obtain ⟨a, p, g, t, n, rfl, _⟩ := h
    rfl
  · obtain ⟨a, p, g, t, n, rfl, gA, hn, hn0, k⟩ := h
    obtain ⟨dx, ha⟩ := gA.obj
    refine ⟨_, pss_cons (ps_fld (pv 0) (pe_call GW hr rfl mW kW bW .nil pass0 (pa_cons (pv 0) (pa_cons (pv 1) (pa_cons (pv 2) pa_nil)))) rfl) (pss_one (ps_fldaug (pv 0) (pv 2) in_add)), ?_⟩
    refine ⟨_, rfl, _, rfl, _, rfl, a, p, g, t, n, rfl, gA, hn, fun H1 r s1 nr hL => ?_⟩
    refine ⟨_, rfl, a, c.G, dx, _, rfl, s1 _ _ ha, T.G.cl, T.G.lots, (by show 8 < 1000; decide), ?_⟩
    refine ⟨_, rfl, a, c.G, dx, _, _, rfl, upd_same, T.G.cl, T.G.loaded, rfl, ?_⟩
    refine ⟨_, rfl, _, _, rfl, rfl, dx, _, upd_same, (by show 8 < 1000; decide), ?_⟩
    have k1 := Kp.upd (H := H1) a (.ins c.G dx (putF "lots" (V.ref r) (goodF g p)))
    have k2 := k1.trans (Kp.upd a (.ins c.G dx (putF "loaded" (V.int (((g.loaded : Nat) : Int) + ((n : Nat) : Int))) (putF "lots" (V.ref r) (goodF g p)))))
    refine k _ r ((Kp.same s1 [a]).trans k2) nr ⟨⟨dx, upd_same⟩, ?_⟩
    show LotsAt c _ r (g.with_ t n)
    rw [with_eq g t n hn0]
    exact hL.kp k2 (Off.ins (s1 _ _ ha) (by show 8 ≠ 2; decide))
def spGive (c : Cl) : Sp := fun vs H Q _ => ∃ (a p : Addr) (g : Good) (n : Nat), vs = [.ref a, nv n] ∧ GoodAt c H a p g ∧ g.lots.length ≤ 100 ∧ Pos g.lots ∧
  ∀ (H' : Hp) (r : Addr), Kp [a] H H' → H r = none → GoodAt c H' a r { g with lots := (Km438.eat n g.lots).1, given := g.given + n } → Q .non H'
theorem sc_give : FnScope ["good", "n"] ["good", "n"] (defScope st_give) := ⟨rfl, rfl, rfl, by decide +kernel, rfl, by decide +kernel, by decide +kernel⟩
theorem ok_give (F : FnAt K mg "give" st_give) (T : Txt K mg c) (hW : Has P w K mg base 3 "without" ["lots", "n"] (spWithout c)) : Has P w K mg base 4 "give" ["good", "n"] (spGive c) := by
  obtain ⟨f, fd, F, m⟩ := F
  obtain ⟨fW, fdW, GW, mW, kW, bW⟩ := hW
  refine ⟨f, fd, ?_, m, F.kp, F.binds fun _ _ _ _ _ _ us hl => match us, hl with | [_, _], _ => rfl⟩
  refine F.ok sc_give (fun vs H Q E h => ?_) (fun cdv A outer s H vs Q E hr h => ?_)
  · obtain ⟨a, p, g, n, rfl, _⟩ := h
    rfl
  · obtain ⟨a, p, g, n, rfl, gA, hn, hp, k⟩ := h
    obtain ⟨dx, ha⟩ := gA.obj
    refine ⟨_, pss_cons (ps_fld (pv 0) (pe_call GW hr rfl mW kW bW .nil pass0 (pa_cons (pe_fld (pv 0) rfl) (pa_cons (pv 1) pa_nil))) rfl) (pss_one (ps_fldaug (pv 0) (pv 1) in_add)), ?_⟩
    refine ⟨_, rfl, a, c.G, dx, _, _, rfl, ha, T.G.cl, T.G.lots, rfl, _, rfl, p, g.lots, n, rfl, gA.lots, hn, hp, fun H1 r s1 nr hL => ?_⟩
    refine ⟨_, rfl, a, c.G, dx, _, rfl, s1 _ _ ha, T.G.cl, T.G.lots, (by show 8 < 1000; decide), ?_⟩
    refine ⟨_, rfl, a, c.G, dx, _, _, rfl, upd_same, T.G.cl, T.G.given, rfl, ?_⟩
    refine ⟨_, rfl, _, _, rfl, rfl, dx, _, upd_same, (by show 8 < 1000; decide), ?_⟩
    have k1 := Kp.upd (H := H1) a (.ins c.G dx (putF "lots" (V.ref r) (goodF g p)))
    have k2 := k1.trans (Kp.upd a (.ins c.G dx (putF "given" (V.int (((g.given : Nat) : Int) + ((n : Nat) : Int))) (putF "lots" (V.ref r) (goodF g p)))))
    exact k _ r ((Kp.same s1 [a]).trans k2) nr ⟨⟨dx, upd_same⟩, hL.kp k2 (Off.ins (s1 _ _ ha) (by show 8 ≠ 2; decide))⟩
/-! ## live_day -/
def spLive (c : Cl) : Sp := fun vs H Q _ => ∃ (a p : Addr) (g : Good) (n t : Nat), vs = [.ref a, nv n, nv t] ∧ GoodAt c H a p g ∧ g.lots.length ≤ 100 ∧ Pos g.lots ∧
  ∀ (H' : Hp) (r : Addr), Kp [a] H H' → H r = none → GoodAt c H' a r (g.day n t) → Q .non H'
theorem sc_live : FnScope ["good", "need", "day", "eaten", "left"] ["good", "need", "day"] (defScope st_live_day) := ⟨rfl, rfl, rfl, by decide +kernel, rfl, by decide +kernel, by decide +kernel⟩
theorem ok_live (F : FnAt K mg "live_day" st_live_day) (T : Txt K mg c) (hU : Has P w K mg base 1 "units_in" ["lots"] (spUnits c)) (hW : Has P w K mg base 3 "without" ["lots", "n"] (spWithout c)) (hS : Has P w K mg base 1 "still_good" ["lots", "today"] (spStill c)) :
    Has P w K mg base 4 "live_day" ["good", "need", "day"] (spLive c) := by
  obtain ⟨f, fd, F, m⟩ := F
  obtain ⟨fU, fdU, GU, mU, kU, bU⟩ := hU
  obtain ⟨fW, fdW, GW, mW, kW, bW⟩ := hW
  obtain ⟨fS, fdS, GS, mS, kS, bS⟩ := hS
  refine ⟨f, fd, ?_, m, F.kp, F.binds fun _ _ _ _ _ _ us hl => match us, hl with | [_, _, _], _ => rfl⟩
  refine F.ok sc_live (fun vs H Q E h => ?_) (fun cdv A outer s H vs Q E hr h => ?_)
  · obtain ⟨a, p, g, n, t, rfl, _⟩ := h
    rfl
  · obtain ⟨a, p, g, n, t, rfl, gA, hn, hp, k⟩ := h
    obtain ⟨dx, ha⟩ := gA.obj
    have hr1 : Room 1 _ := hr.mono (by decide)
    refine ⟨_, pss_cons (ps_set (i := 3) sc_live.nd rfl (Or.inl rfl) (pe_callB (call_min2 rfl) (by rfl) T.B.min boot_min (pa_cons (pv 1) (pa_cons (pe_call GU hr1 rfl mU kU bU .nil pass0 (pa_cons (pe_fld (pv 0) rfl) pa_nil)) pa_nil))))
      (pss_cons (ps_set (i := 4) sc_live.nd rfl (Or.inl rfl) (pe_call GW hr rfl mW kW bW .nil pass0 (pa_cons (pe_fld (pv 0) rfl) (pa_cons (pv 3) pa_nil))))
      (pss_cons (ps_fld (pv 0) (pe_call GS hr1 rfl mS kS bS .nil pass0 (pa_cons (pv 4) (pa_cons (pe_op op_add (pv 2) pe_int) pa_nil))) rfl)
      (pss_cons (ps_fldaug (pv 0) (pv 3) in_add)
      (pss_cons (ps_fldaug (pv 0) (pe_op op_sub (pv 1) (pv 3)) in_add)
      (pss_one (ps_fldaug (pv 0) (pe_op op_sub (pe_call GU hr1 rfl mU kU bU .nil pass0 (pa_cons (pv 4) pa_nil)) (pe_call GU hr1 rfl mU kU bU .nil pass0 (pa_cons (pe_fld (pv 0) rfl) pa_nil))) in_add)))))), ?_⟩
    refine ⟨_, rfl, _, rfl, a, c.G, dx, _, _, rfl, ha, T.G.cl, T.G.lots, rfl, p, g.lots, rfl, gA.lots, hn, fun H1 s1 => ⟨_, _, rfl, ?_⟩⟩
    have emin : (if ((Km438.amount g.lots : Nat) : Int) < ((n : Nat) : Int) then ((Km438.amount g.lots : Nat) : Int) else ((n : Nat) : Int)) = ((min n (Km438.amount g.lots) : Nat) : Int) := by
      split <;> omega
    show tSeq _ _ _ _ _
    rw [emin]
    refine ⟨_, rfl, a, c.G, dx, _, _, rfl, s1 _ _ ha, T.G.cl, T.G.lots, rfl, _, rfl, p, g.lots, min n (Km438.amount g.lots), rfl, gA.lots.same s1, hn, hp, fun H2 q s2 nq hL2 => ?_⟩
    rw [eat_min g.lots n hp] at hL2
    have hl2 : (Km438.eat n g.lots).1.length ≤ 100 := Nat.le_trans (eat_length _ _) hn
    have ha2 := s2 _ _ (s1 _ _ ha)
    refine ⟨_, rfl, _, rfl, _, _, rfl, rfl, q, (Km438.eat n g.lots).1, t + 1, rfl, hL2, hl2, fun H3 r s3 nr hL3 => ?_⟩
    have ha3 := s3 _ _ ha2
    refine ⟨_, rfl, a, c.G, dx, _, rfl, ha3, T.G.cl, T.G.lots, (by show 8 < 1000; decide), ?_⟩
    have k3 := Kp.upd (H := H3) a (.ins c.G dx (putF "lots" (V.ref r) (goodF g p)))
    have of3 : Off c [a] H3 := Off.ins ha3 (by show 8 ≠ 2; decide)
    refine ⟨_, rfl, a, c.G, dx, _, _, rfl, upd_same, T.G.cl, T.G.eaten, rfl, _, rfl, _, _, rfl, rfl, dx, _, upd_same, (by show 8 < 1000; decide), ?_⟩
    have k4 := k3.trans (Kp.upd a (.ins c.G dx (putF "eaten" (V.int (((g.eaten : Nat) : Int) + ((min n (Km438.amount g.lots) : Nat) : Int))) (putF "lots" (V.ref r) (goodF g p)))))
    refine ⟨_, rfl, a, c.G, dx, _, _, rfl, upd_same, T.G.cl, T.G.lacked, rfl, _, rfl, _, rfl, _, _, rfl, rfl, _, _, rfl, rfl, dx, _, upd_same, (by show 8 < 1000; decide), ?_⟩
    have k5 := k4.trans (Kp.upd a (.ins c.G dx (putF "lacked" (V.int (((g.lacked : Nat) : Int) + (((n : Nat) : Int) - ((min n (Km438.amount g.lots) : Nat) : Int)))) (putF "eaten" (V.int (((g.eaten : Nat) : Int) + ((min n (Km438.amount g.lots) : Nat) : Int))) (putF "lots" (V.ref r) (goodF g p))))))
    have hL5 := (hL2.same s3).kp k5 of3
    have hR5 := hL3.kp k5 of3
    refine ⟨_, rfl, a, c.G, dx, _, _, rfl, upd_same, T.G.cl, T.G.spoilt, rfl, _, rfl, q, (Km438.eat n g.lots).1, rfl, hL5, hl2, fun H6 s6 => ?_⟩
    have ha6 := s6 _ _ (upd_same (H := _) (a := a) (o := _))
    refine ⟨_, rfl, a, c.G, dx, _, _, rfl, ha6, T.G.cl, T.G.lots, rfl, r, Km438.fresh_ (Km438.eat n g.lots).1 (t + 1), rfl, hR5.same s6, Nat.le_trans (fresh_length _ _) hl2, fun H7 s7 => ⟨_, _, rfl, rfl, _, _, rfl, rfl, dx, _, s7 _ _ ha6, (by show 8 < 1000; decide), ?_⟩⟩
    have e1 : ((g.eaten : Nat) : Int) + ((min n (Km438.amount g.lots) : Nat) : Int) = (((g.day n t).eaten : Nat) : Int) := by
      show _ = ((g.eaten + (n - (Km438.eat n g.lots).2) : Nat) : Int)
      rw [eat_lack]; omega
    have e2 : ((g.lacked : Nat) : Int) + (((n : Nat) : Int) - ((min n (Km438.amount g.lots) : Nat) : Int)) = (((g.day n t).lacked : Nat) : Int) := by
      rw [day_lacked, eat_lack]; omega
    have e3 : ((g.spoilt : Nat) : Int) + (((Km438.amount (Km438.eat n g.lots).1 : Nat) : Int) - ((Km438.amount (Km438.fresh_ (Km438.eat n g.lots).1 (t + 1)) : Nat) : Int)) = (((g.day n t).spoilt : Nat) : Int) := by
      rw [day_spoilt]
      have := fresh_stale (t + 1) (Km438.eat n g.lots).1
      omega
    have kA : Kp [a] H H7 := (Kp.same ((s1.trans s2).trans s3) [a]).trans (k5.trans (Kp.same (s6.trans s7) [a]))
    refine k _ r (kA.trans (Kp.upd _ _)) ((s1.trans s2).free nr) ⟨⟨dx, upd_same.trans ?_⟩, ?_⟩
    · show some (HO.ins c.G dx (putF "spoilt" (V.int _) (putF "lacked" (V.int _) (putF "eaten" (V.int _) (putF "lots" (V.ref r) (goodF g p)))))) = _
      rw [e1, e2, e3]; rfl
    · exact ((hR5.same s6).same s7).kp (Kp.upd _ _) (Off.ins (s7 _ _ ha6) (by show 8 ≠ 2; decide))
/-! ## lacks_by_day -/
def spLacks (c : Cl) : Sp := fun vs H Q _ => ∃ (a p q : Addr) (g : Good) (t : Nat) (ns : List Nat), vs = [.ref a, nv t, .ref q] ∧ GoodAt c H a p g ∧ g.lots.length ≤ 100 ∧ Pos g.lots ∧ H q = some (.lst (ns.map nv)) ∧ ns.length ≤ 100 ∧
  ∀ (H' : Hp) (r : Addr), Same H H' → H r = none → H' r = some (.lst ((lacks ns t g.lots).map nv)) → Q (.ref r) H'
theorem sc_lacks : FnScope ["good", "today", "needs", "trial", "lacks", "day", "need", "before"] ["good", "today", "needs"] (defScope st_lacks_by_day) := ⟨rfl, rfl, rfl, by decide +kernel, rfl, by decide +kernel, by decide +kernel⟩
theorem ok_lacks (F : FnAt K mg "lacks_by_day" st_lacks_by_day) (T : Txt K mg c) (hC : Has P w K mg base 3 "copy_of_good" ["good"] (spCopyG c)) (hL : Has P w K mg base 4 "live_day" ["good", "need", "day"] (spLive c)) :
    Has P w K mg base 5 "lacks_by_day" ["good", "today", "needs"] (spLacks c) := by
  obtain ⟨f, fd, F, m⟩ := F
  obtain ⟨fC, fdC, GC, mC, kC, bC⟩ := hC
  obtain ⟨fL, fdL, GL, mL, kL, bL⟩ := hL
  refine ⟨f, fd, ?_, m, F.kp, F.binds fun _ _ _ _ _ _ us hl => match us, hl with | [_, _, _], _ => rfl⟩
  refine F.ok sc_lacks (fun vs H Q E h => ?_) (fun cdv A outer s H vs Q E hr h => ?_)
  · obtain ⟨a, p, q, g, t, ns, rfl, _⟩ := h
    rfl
  · obtain ⟨a, p, q, g, t, ns, rfl, gA, hn, hp, hq, hns, k⟩ := h
    have hr3 : Room 3 _ := hr.mono (by decide)
    refine ⟨_, pss_cons (ps_set (i := 3) sc_lacks.nd rfl (Or.inl rfl) (pe_call GC hr3 rfl mC kC bC .nil pass0 (pa_cons (pv 0) pa_nil)))
      (pss_cons (ps_set (i := 4) sc_lacks.nd rfl (Or.inl rfl) (pe_lst pa_nil))
      (pss_cons (ps_set (i := 5) sc_lacks.nd rfl (Or.inl rfl) (pv 1))
      (pss_cons (ps_for PassesOwn.never rfl (pi_list (pv 2)) (pg_name (i := 6) sc_lacks.nd rfl (Or.inl rfl))
        (pss_cons (ps_set (i := 7) sc_lacks.nd rfl (Or.inl rfl) (pe_fld (pv 3) rfl))
        (pss_cons (ps_expr (pe_call GL hr rfl mL kL bL .nil pass0 (pa_cons (pv 3) (pa_cons (pv 6) (pa_cons (pv 5) pa_nil)))))
        (pss_cons (ps_expr (pe_bm PySem.F.plainAttrs_list PySem.F.slot_list_append PySem.F.type_list_append mt_append (pv 4) (pa_cons (pe_op op_sub (pe_fld (pv 3) rfl) (pv 7)) pa_nil)))
        (pss_one (ps_aug (i := 5) sc_lacks.nd rfl (Or.inl rfl) pe_int ip_add))))))
      (pss_one (ps_ret (pv 4)))))), ?_⟩
    refine ⟨_, rfl, a, p, g, rfl, gA, hn, fun H1 b pb s1 nb npb gB => ?_⟩
    refine ⟨Nat.zero_le _, fun D hD => ⟨_, rfl, ?_⟩⟩
    have s2 := s1.trans (Same.upd (.lst []) hD)
    refine ⟨_, rfl, q, rfl, ⟨_, SqL.of (s2 _ _ hq)⟩, for_list (K := K) (a := q) (xs := ns.map nv) (fun i σ H' => ∃ (v6 v7 : Option V) (pb : Addr), σ = [some (.ref a), some (nv t), some (.ref q), some (.ref b), some (.ref D), some (nv (t + i)), v6, v7] ∧ Same H H' ∧ H' D = some (.lst ((lacks (ns.take i) t g.lots).map nv)) ∧ GoodAt c H' b pb (live g (ns.take i) t))
      ⟨none, none, pb, rfl, s2, upd_same, gB.same (Same.upd (.lst []) hD)⟩ (fun i σ H' _ ⟨_, _, _, _, s3, _⟩ => SqL.of (s3 _ _ hq)) ?_ ?_⟩
    · rintro i y σ H' hi ⟨v6, v7, pb, rfl, s3, h3, g3⟩
      obtain ⟨n, hn1, rfl⟩ := map_get hi
      have hi2 : i < ns.length := (List.getElem?_eq_some_iff.mp hn1).1
      have et : ns.take (i + 1) = ns.take i ++ [n] := take_succ hn1
      have el : (ns.take i).length = i := by rw [List.length_take]; omega
      obtain ⟨db, hb⟩ := g3.obj
      refine ⟨_, rfl, b, c.G, db, _, _, rfl, hb, T.G.cl, T.G.lacked, rfl, ?_⟩
      refine ⟨_, rfl, _, rfl, _, rfl, b, pb, live g (ns.take i) t, n, t + i, rfl, g3, Nat.le_trans (live_few _ _ _) hn, live_pos _ _ _ hp, fun H4 pb' k4 np4 g4 => ?_⟩
      have nDb : D ≠ b := ne_of h3 hb lst_ne_ins
      have h4 := k4 _ _ h3 fun z => nDb (List.mem_singleton.mp z)
      obtain ⟨db4, hb4⟩ := g4.obj
      refine ⟨_, rfl, .inl ⟨rfl, _, SqL.of h4⟩, _, rfl, b, c.G, db4, _, _, rfl, hb4, T.G.cl, T.G.lacked, rfl, _, rfl, _, _, rfl, rfl, D, _, _, rfl, rfl, h4, ?_, ?_⟩
      · rw [List.length_map, lacks_length, el]
        exact line_of (by omega)
      · have ed : (((((live g (ns.take i) t).day n (t + i)).lacked : Nat) : Int) - (((live g (ns.take i) t).lacked : Nat) : Int)) = (((Km438.eat n (live g (ns.take i) t).lots).2 : Nat) : Int) := by
          rw [day_lacked]; omega
        have ek : live g (ns.take (i + 1)) t = (live g (ns.take i) t).day n (t + i) := by rw [et, live_snoc, el]
        dsimp only
        rw [ed]
        refine ⟨_, rfl, _, _, rfl, rfl, _, _, pb', rfl, ?_, ?_, ?_⟩
        · exact fun x o e => by
            rw [upd_ne (ne_of_none e (s1.free hD))]
            exact k4 _ _ (s3 _ _ e) fun z => ne_of_none e nb (List.mem_singleton.mp z)
        · rw [upd_same, et, lacks_snoc, List.map_append]; rfl
        · rw [ek]
          exact g4.updL h4 fun z => by rw [z, h3] at np4; cases np4
    · rintro σ H' ⟨v6, v7, pb, rfl, s3, h3, g3⟩
      rw [List.length_map, List.take_length] at h3
      exact ⟨_, rfl, k H' D s3 (s1.free hD) h3⟩
end
end Sd

end
section
set_option Elab.async false
set_option linter.all false
set_option maxRecDepth 100000
set_option maxHeartbeats 2000000
namespace Sd
open PySem PySem.Spec PyProof.Rows L2
open Km438 (Good Ship Desk Lots)
section
variable {P : Program} {w : World} {K : PySem.W.Frag} {mg : Str → Option Value} {base : Heap} {c : Cl}
theorem flat_one {α : Type} (x : α) : ∀ k : Nat, (List.replicate k [x]).flatten = List.replicate k x
  | 0 => rfl
  | k + 1 => by rw [List.replicate_succ, List.flatten_cons, flat_one x k]; rfl
theorem Kp.free {H H1 : Hp} {v p : Addr} {o : HO} (k : Kp [v] H H1) (hv : H1 v = some o) (h : H1 p = none) : H p = none := by
  have np : p ≠ v := fun z => by rw [z, hv] at h; cases h
  cases e : H p with
  | none => rfl
  | some u =>
    have := k p u e fun z => np (List.mem_singleton.mp z)
    rw [h] at this; cases this
theorem Kp.put {H H1 : Hp} {v p : Addr} (o : HO) (k : Kp [v] H H1) (hp : H p = none) : Kp [v] H (L2.upd H1 p o) := fun x u e n => by
  rw [upd_ne (ne_of_none e hp)]
  exact k x u e n
/-! ## Voyage -/
def spVoy (c : Cl) : Sp := fun vs H Q _ => ∃ (v dv : Addr) (last room n : Nat), vs = [.ref v, nv last, nv room, nv n] ∧ last ≤ 100 ∧ H v = some (.ins c.V dv []) ∧
  ∀ (H' : Hp) (pp qq gg : Addr), H' v = some (.ins c.V dv (voyF (Km438.opened last room n) pp qq gg)) → H' pp = some (.lst ((List.replicate (last + 1) n).map nv)) → H' qq = some (.lst ((1 :: List.replicate last 0).map nv)) → H' gg = some (.lst []) →
    H pp = none → H qq = none → H gg = none → pp ≠ qq → Kp [v] H H' → Q .non H'
theorem sc_Voy : FnScope ["self", "last", "room", "persons"] ["self", "last", "room", "persons"] (defScope st_Voyage_init) := ⟨rfl, rfl, rfl, by decide +kernel, rfl, by decide +kernel, by decide +kernel⟩
theorem ok_Voy (F : InitAt K mg "Voyage" "Voyage.__init__" c.V st_Voyage_init) (T : Txt K mg c) : Makes P w K mg base 1 "Voyage" c.V ["self", "last", "room", "persons"] (spVoy c) := by
  obtain ⟨f, fd, F, M, m⟩ := F
  refine ⟨f, fd, M, ?_, F.binds fun _ _ _ _ _ _ us hl => match us, hl with | [_, _, _, _], _ => rfl, m⟩
  refine F.ok sc_Voy (fun vs H Q E h => ?_) (fun cdv A outer s H vs Q E hr h => ?_)
  · obtain ⟨v, dv, last, room, n, rfl, _⟩ := h
    rfl
  · obtain ⟨v, dv, last, room, n, rfl, hlast, hv, k⟩ := h
    refine ⟨_, pss_cons (ps_fld (pv 0) (pv 1) rfl) (pss_cons (ps_fld (pv 0) (pv 2) rfl) (pss_cons (ps_fld (pv 0) pe_int rfl)
      (pss_cons (ps_fld (pv 0) (pe_op op_rep (pe_lst (pa_cons (pv 3) pa_nil)) (pe_op op_add (pv 1) pe_int)) rfl)
      (pss_cons (ps_fld (pv 0) (pe_op op_cat (pe_lst (pa_cons pe_int pa_nil)) (pe_op op_rep (pe_lst (pa_cons pe_int pa_nil)) (pv 1))) rfl)
      (pss_one (ps_fld (pv 0) (pe_lst pa_nil) rfl)))))), ?_⟩
    refine ⟨_, rfl, _, rfl, v, c.V, dv, [], rfl, hv, T.V.cl, T.V.last, (by show 0 < 1000; decide), ?_⟩
    refine ⟨_, rfl, _, rfl, v, c.V, dv, _, rfl, upd_same, T.V.cl, T.V.room, (by show 1 < 1000; decide), ?_⟩
    refine ⟨_, rfl, v, c.V, dv, _, rfl, upd_same, T.V.cl, T.V.today, (by show 2 < 1000; decide), ?_⟩
    -- [persons] * (last + 1)
    have k3 := ((Kp.upd (H := H) v (.ins c.V dv (putF "last" (nv last) []))).trans (Kp.upd v (.ins c.V dv (putF "room" (nv room) (putF "last" (nv last) []))))).trans (Kp.upd v (.ins c.V dv (putF "today" (.int 0) (putF "room" (nv room) (putF "last" (nv last) [])))))
    have f3 := upd_same (H := L2.upd (L2.upd H v (.ins c.V dv (putF "last" (nv last) []))) v (.ins c.V dv (putF "room" (nv room) (putF "last" (nv last) [])))) (a := v) (o := .ins c.V dv (putF "today" (.int 0) (putF "room" (nv room) (putF "last" (nv last) []))))
    generalize L2.upd (L2.upd (L2.upd H v (.ins c.V dv (putF "last" (nv last) []))) v (.ins c.V dv (putF "room" (nv room) (putF "last" (nv last) [])))) v (.ins c.V dv (putF "today" (.int 0) (putF "room" (nv room) (putF "last" (nv last) [])))) = H3 at k3 f3 ⊢
    refine ⟨_, rfl, (by show 1 ≤ sizeLine; decide), fun l0 n0 => ?_⟩
    have z0 := k3.free f3 n0
    have k4 := k3.put (.lst [nv n]) z0
    have f4 : L2.upd H3 l0 (.lst [nv n]) v = _ := (upd_ne (ne_of_none f3 n0)).trans f3
    have g4 := upd_same (H := H3) (a := l0) (o := .lst [nv n])
    generalize L2.upd H3 l0 (.lst [nv n]) = H4 at k4 f4 g4 ⊢
    refine ⟨_, rfl, _, _, rfl, rfl, l0, _, _, rfl, rfl, g4, (by show -(2 ^ 63) ≤ ((last : Nat) : Int) + 1; omega), (by show ((last : Nat) : Int) + 1 < 2 ^ 63; omega), (by show 1 * (((last : Nat) : Int) + 1).toNat ≤ sizeLine; exact line_le (by omega)), fun pp npp => ?_⟩
    have z1 := k4.free f4 npp
    have ep : (List.replicate (((last : Nat) : Int) + 1).toNat [nv n]).flatten = (List.replicate (last + 1) n).map nv := by
      rw [flat_one, List.map_replicate]
      congr 1
    have k5 := k4.put (.lst (List.replicate (((last : Nat) : Int) + 1).toNat [nv n]).flatten) z1
    have f5 : L2.upd H4 pp (.lst (List.replicate (((last : Nat) : Int) + 1).toNat [nv n]).flatten) v = _ := (upd_ne (ne_of_none f4 npp)).trans f4
    have g5 : L2.upd H4 pp (.lst (List.replicate (((last : Nat) : Int) + 1).toNat [nv n]).flatten) pp = some (.lst ((List.replicate (last + 1) n).map nv)) := by rw [upd_same, ep]
    generalize L2.upd H4 pp (.lst (List.replicate (((last : Nat) : Int) + 1).toNat [nv n]).flatten) = H5 at k5 f5 g5 ⊢
    have np : pp ≠ v := fun z => by rw [z, f5] at g5; cases g5
    refine ⟨_, rfl, v, c.V, dv, _, rfl, f5, T.V.cl, T.V.persons, (by show 3 < 1000; decide), ?_⟩
    have k6 := k5.trans (Kp.upd v (.ins c.V dv (putF "persons" (.ref pp) (putF "today" (.int 0) (putF "room" (nv room) (putF "last" (nv last) []))))))
    have f6 := upd_same (H := H5) (a := v) (o := .ins c.V dv (putF "persons" (.ref pp) (putF "today" (.int 0) (putF "room" (nv room) (putF "last" (nv last) [])))))
    have g6 : L2.upd H5 v (.ins c.V dv (putF "persons" (.ref pp) (putF "today" (.int 0) (putF "room" (nv room) (putF "last" (nv last) []))))) pp = _ := (upd_ne np).trans g5
    generalize L2.upd H5 v (.ins c.V dv (putF "persons" (.ref pp) (putF "today" (.int 0) (putF "room" (nv room) (putF "last" (nv last) []))))) = H6 at k6 f6 g6 ⊢
    -- [1] + [0] * last
    refine ⟨(by show 1 ≤ sizeLine; decide), fun l1 n1 => ?_⟩
    have z2 := k6.free f6 n1
    have k7 := k6.put (.lst [.int 1]) z2
    have f7 : L2.upd H6 l1 (.lst [.int 1]) v = _ := (upd_ne (ne_of_none f6 n1)).trans f6
    have g7 : L2.upd H6 l1 (.lst [.int 1]) pp = _ := (upd_ne (ne_of_none g6 n1)).trans g6
    have h7 := upd_same (H := H6) (a := l1) (o := .lst [.int 1])
    generalize L2.upd H6 l1 (.lst [.int 1]) = H7 at k7 f7 g7 h7 ⊢
    refine ⟨(by show 1 ≤ sizeLine; decide), fun l2 n2 => ?_⟩
    have z3 := k7.free f7 n2
    have k8 := k7.put (.lst [.int 0]) z3
    have f8 : L2.upd H7 l2 (.lst [.int 0]) v = _ := (upd_ne (ne_of_none f7 n2)).trans f7
    have g8 : L2.upd H7 l2 (.lst [.int 0]) pp = _ := (upd_ne (ne_of_none g7 n2)).trans g7
    have h8 : L2.upd H7 l2 (.lst [.int 0]) l1 = _ := (upd_ne (ne_of_none h7 n2)).trans h7
    have i8 := upd_same (H := H7) (a := l2) (o := .lst [.int 0])
    generalize L2.upd H7 l2 (.lst [.int 0]) = H8 at k8 f8 g8 h8 i8 ⊢
    refine ⟨_, rfl, l2, _, _, rfl, rfl, i8, (by show -(2 ^ 63) ≤ ((last : Nat) : Int); omega), (by show ((last : Nat) : Int) < 2 ^ 63; omega), (by show 1 * ((last : Nat) : Int).toNat ≤ sizeLine; exact line_le (by omega)), fun l3 n3 => ?_⟩
    have z4 := k8.free f8 n3
    have e0 : (List.replicate ((last : Nat) : Int).toNat [V.int 0]).flatten = (List.replicate last 0).map nv := by
      rw [flat_one, List.map_replicate]
      congr 1
    have k9 := k8.put (.lst (List.replicate ((last : Nat) : Int).toNat [V.int 0]).flatten) z4
    have f9 : L2.upd H8 l3 (.lst (List.replicate ((last : Nat) : Int).toNat [V.int 0]).flatten) v = _ := (upd_ne (ne_of_none f8 n3)).trans f8
    have g9 : L2.upd H8 l3 (.lst (List.replicate ((last : Nat) : Int).toNat [V.int 0]).flatten) pp = _ := (upd_ne (ne_of_none g8 n3)).trans g8
    have h9 : L2.upd H8 l3 (.lst (List.replicate ((last : Nat) : Int).toNat [V.int 0]).flatten) l1 = _ := (upd_ne (ne_of_none h8 n3)).trans h8
    have i9 : L2.upd H8 l3 (.lst (List.replicate ((last : Nat) : Int).toNat [V.int 0]).flatten) l3 = some (.lst ((List.replicate last 0).map nv)) := by rw [upd_same, e0]
    generalize L2.upd H8 l3 (.lst (List.replicate ((last : Nat) : Int).toNat [V.int 0]).flatten) = H9 at k9 f9 g9 h9 i9 ⊢
    refine ⟨l1, l3, _, _, rfl, rfl, h9, i9, (by rw [List.length_map, List.length_replicate]; exact line_le (by show 1 + last ≤ 1000; omega)), fun qq nqq => ?_⟩
    have z5 := k9.free f9 nqq
    have kA := k9.put (.lst ([V.int 1] ++ (List.replicate last 0).map nv)) z5
    have fA : L2.upd H9 qq (.lst ([V.int 1] ++ (List.replicate last 0).map nv)) v = _ := (upd_ne (ne_of_none f9 nqq)).trans f9
    have gA : L2.upd H9 qq (.lst ([V.int 1] ++ (List.replicate last 0).map nv)) pp = _ := (upd_ne (ne_of_none g9 nqq)).trans g9
    have iA := upd_same (H := H9) (a := qq) (o := .lst ([V.int 1] ++ (List.replicate last 0).map nv))
    have npq : pp ≠ qq := ne_of_none g9 nqq
    generalize L2.upd H9 qq (.lst ([V.int 1] ++ (List.replicate last 0).map nv)) = HA at kA fA gA iA ⊢
    have nq : qq ≠ v := fun z => by rw [z, fA] at iA; cases iA
    refine ⟨_, rfl, v, c.V, dv, _, rfl, fA, T.V.cl, T.V.ports, (by show 4 < 1000; decide), ?_⟩
    refine ⟨Nat.zero_le _, fun gg ngg => ?_⟩
    have kB := kA.trans (Kp.upd v (.ins c.V dv (putF "ports" (.ref qq) (putF "persons" (.ref pp) (putF "today" (.int 0) (putF "room" (nv room) (putF "last" (nv last) [])))))))
    have fB := upd_same (H := HA) (a := v) (o := .ins c.V dv (putF "ports" (.ref qq) (putF "persons" (.ref pp) (putF "today" (.int 0) (putF "room" (nv room) (putF "last" (nv last) []))))))
    have gB : L2.upd HA v (.ins c.V dv (putF "ports" (.ref qq) (putF "persons" (.ref pp) (putF "today" (.int 0) (putF "room" (nv room) (putF "last" (nv last) [])))))) pp = _ := (upd_ne np).trans gA
    have iB : L2.upd HA v (.ins c.V dv (putF "ports" (.ref qq) (putF "persons" (.ref pp) (putF "today" (.int 0) (putF "room" (nv room) (putF "last" (nv last) [])))))) qq = _ := (upd_ne nq).trans iA
    generalize L2.upd HA v (.ins c.V dv (putF "ports" (.ref qq) (putF "persons" (.ref pp) (putF "today" (.int 0) (putF "room" (nv room) (putF "last" (nv last) [])))))) = HB at kB fB gB iB ngg ⊢
    have z6 := kB.free fB ngg
    have ng : gg ≠ v := fun z => by rw [z, fB] at ngg; cases ngg
    refine ⟨_, rfl, v, c.V, dv, _, rfl, (upd_ne ng.symm).trans fB, T.V.cl, T.V.goods, (by show 5 < 1000; decide), ?_⟩
    refine k _ pp qq gg upd_same ?_ ?_ ?_ z1 z5 z6 npq ((kB.put (.lst []) z6).trans (Kp.upd _ _))
    · rw [upd_ne np, upd_ne (ne_of_none gB ngg)]; exact gB
    · rw [upd_ne nq, upd_ne (ne_of_none iB ngg)]; exact iB
    · rw [upd_ne ng, upd_same]
/-! ## Ship -/
def spShip (c : Cl) : Sp := fun vs H Q _ => ∃ (a da : Addr), vs = [.ref a] ∧ H a = some (.ins c.S da []) ∧
  ∀ (H' : Hp) (pl ul : Addr), H' a = some (.ins c.S da (shipF .non pl ul)) → H' pl = some (.lst []) → H' ul = some (.lst []) → H pl = none → H ul = none → Kp [a] H H' → Q .non H'
theorem sc_Ship : FnScope ["self"] ["self"] (defScope st_Ship_init) := ⟨rfl, rfl, rfl, by decide +kernel, rfl, by decide +kernel, by decide +kernel⟩
theorem ok_Ship (F : InitAt K mg "Ship" "Ship.__init__" c.S st_Ship_init) (T : Txt K mg c) : Makes P w K mg base 1 "Ship" c.S ["self"] (spShip c) := by
  obtain ⟨f, fd, F, M, m⟩ := F
  refine ⟨f, fd, M, ?_, F.binds fun _ _ _ _ _ _ us hl => match us, hl with | [_], _ => rfl, m⟩
  refine F.ok sc_Ship (fun vs H Q E h => ?_) (fun cdv A outer s H vs Q E hr h => ?_)
  · obtain ⟨a, da, rfl, _⟩ := h
    rfl
  · obtain ⟨a, da, rfl, ha, k⟩ := h
    refine ⟨_, pss_cons (ps_fld (pv 0) pe_non rfl) (pss_cons (ps_fld (pv 0) (pe_lst pa_nil) rfl) (pss_one (ps_fld (pv 0) (pe_lst pa_nil) rfl))), ?_⟩
    refine ⟨_, rfl, a, c.S, da, [], rfl, ha, T.S.cl, T.S.voyage, (by show 0 < 1000; decide), ?_⟩
    have k1 := Kp.upd (H := H) a (.ins c.S da (putF "voyage" .non []))
    refine ⟨Nat.zero_le _, fun pl npl => ?_⟩
    have z1 := k1.free upd_same npl
    have n1 : pl ≠ a := fun z => by rw [z, upd_same] at npl; cases npl
    refine ⟨_, rfl, a, c.S, da, _, rfl, (upd_ne n1.symm).trans upd_same, T.S.cl, T.S.past, (by show 1 < 1000; decide), ?_⟩
    have k2 := (k1.put (.lst []) z1).trans (Kp.upd a (.ins c.S da (putF "past" (.ref pl) (putF "voyage" .non []))))
    refine ⟨Nat.zero_le _, fun ul nul => ?_⟩
    have z2 := k2.free upd_same nul
    have n2 : ul ≠ a := fun z => by rw [z, upd_same] at nul; cases nul
    have n3 : pl ≠ ul := fun z => by rw [← z, upd_ne n1, upd_same] at nul; cases nul
    refine ⟨_, rfl, a, c.S, da, _, rfl, (upd_ne n2.symm).trans upd_same, T.S.cl, T.S.undone, (by show 2 < 1000; decide), ?_⟩
    refine k _ pl ul upd_same ?_ ?_ z1 z2 ((k2.put (.lst []) z2).trans (Kp.upd _ _))
    · rw [upd_ne n1, upd_ne n3, upd_ne n1, upd_same]
    · rw [upd_ne n2, upd_same]
/-! ## copy_of_voyage -/
def spCopyV (c : Cl) : Sp := fun vs H Q _ => ∃ (v : Addr) (s : Ship), vs = [.ref v] ∧ VoyX c H v s ∧ ShipOk s ∧
  ∀ (H' : Hp) (v' pp qq gg : Addr) (as : List (Addr × Addr)), Same H H' → VoyAt c H' v' s pp qq gg as → H v' = none → H pp = none → H qq = none → H gg = none → (∀ x ∈ as, H x.1 = none) → (∀ x ∈ as, H x.2 = none) → Q (.ref v') H'
theorem sc_copyV : FnScope ["voyage", "copied", "good"] ["voyage"] (defScope st_copy_of_voyage) := ⟨rfl, rfl, rfl, by decide +kernel, rfl, by decide +kernel, by decide +kernel⟩
theorem ok_copyV (F : FnAt K mg "copy_of_voyage" st_copy_of_voyage) (T : Txt K mg c) (hV : Makes P w K mg base 1 "Voyage" c.V ["self", "last", "room", "persons"] (spVoy c)) (hC : Has P w K mg base 3 "copy_of_good" ["good"] (spCopyG c)) :
    Has P w K mg base 4 "copy_of_voyage" ["voyage"] (spCopyV c) := by
  obtain ⟨f, fd, F, m⟩ := F
  obtain ⟨fV, fdV, MV, GV, bV, mV⟩ := hV
  obtain ⟨fC, fdC, GC, mC, kC, bC⟩ := hC
  refine ⟨f, fd, ?_, m, F.kp, F.binds fun _ _ _ _ _ _ us hl => match us, hl with | [_], _ => rfl⟩
  refine F.ok sc_copyV (fun vs H Q E h => ?_) (fun cdv A outer s H vs Q E hr h => ?_)
  · obtain ⟨v, s, rfl, _⟩ := h
    rfl
  · obtain ⟨v, sh, rfl, ⟨pp, qq, gg, as, hv⟩, ok, k⟩ := h
    obtain ⟨dv, ho⟩ := hv.obj
    have hr2 : Room 2 _ := hr.mono (by decide)
    refine ⟨_, pss_cons (ps_set (i := 1) sc_copyV.nd rfl (Or.inl rfl) (pe_make MV GV hr2 rfl mV bV .nil pass0 (pa_cons (pe_fld (pv 0) rfl) (pa_cons (pe_fld (pv 0) rfl) (pa_cons pe_int pa_nil)))))
      (pss_cons (ps_fld (pv 1) (pe_fld (pv 0) rfl) rfl)
      (pss_cons (ps_fld (pv 1) (pe_callTy call_list_of (by rfl) T.B.list boot_list (pa_cons (pe_fld (pv 0) rfl) pa_nil)) rfl)
      (pss_cons (ps_fld (pv 1) (pe_callTy call_list_of (by rfl) T.B.list boot_list (pa_cons (pe_fld (pv 0) rfl) pa_nil)) rfl)
      (pss_cons (ps_fld (pv 1) (pe_lc (te := tCall (spCopyG c) [] E0 (tCons (tVar 2) tNil)) rfl sc_copyV.nd (pi_list (pe_fld (pv 0) rfl)) (blkOk_by (own := [("good", 2)]) (by kernel_rfl))
        (fun _ _ _ _ _ => pg_name (i := 2) sc_copyV.nd rfl (Or.inl rfl)) (fun _ _ _ _ _ => pts_nil) (fun _ _ _ _ _ => by exact pe_call GC hr rfl mC kC bC .nil pass0 (pa_cons (pv 2) pa_nil))) rfl)
      (pss_one (ps_ret (pv 1))))))), ?_⟩
    refine ⟨_, rfl, v, c.V, dv, _, _, rfl, ho, T.V.cl, T.V.last, rfl, _, rfl, v, c.V, dv, _, _, rfl, ho, T.V.cl, T.V.room, rfl, fun v' d' nv' nd' ne' => ⟨v', d', sh.last, sh.room, 0, rfl, Nat.le_trans ok.last2 (by decide), upd_same, fun H1 p0 q0 g0 f1 _ _ _ _ _ _ _ k1 => ⟨rfl, ?_⟩⟩⟩
    have s1 : Same H H1 := made_same nv' nd' k1
    refine ⟨_, rfl, v, c.V, dv, _, _, rfl, s1 _ _ ho, T.V.cl, T.V.today, rfl, _, rfl, v', c.V, d', _, rfl, f1, T.V.cl, T.V.today, (by show 6 < 1000; decide), ?_⟩
    have s2 := Same.put (.ins c.V d' (putF "today" (nv sh.today) (voyF (Km438.opened sh.last sh.room 0) p0 q0 g0))) s1 nv'
    have f2 := upd_same (H := H1) (a := v') (o := .ins c.V d' (putF "today" (nv sh.today) (voyF (Km438.opened sh.last sh.room 0) p0 q0 g0)))
    generalize L2.upd H1 v' (.ins c.V d' (putF "today" (nv sh.today) (voyF (Km438.opened sh.last sh.room 0) p0 q0 g0))) = H2 at s2 f2 ⊢
    -- persons
    refine ⟨_, rfl, v, c.V, dv, _, _, rfl, s2 _ _ ho, T.V.cl, T.V.persons, rfl, pp, _, rfl, .inl (SqL.of (s2 _ _ hv.pers)), fun pp' npp => ?_⟩
    have z1 := s2.free npp
    have s3 := Same.put (.lst (sh.persons.map nv)) s2 z1
    have f3 : L2.upd H2 pp' (.lst (sh.persons.map nv)) v' = _ := (upd_ne (ne_of_none f2 npp)).trans f2
    have g3 := upd_same (H := H2) (a := pp') (o := .lst (sh.persons.map nv))
    have n1 : pp' ≠ v' := (ne_of_none f2 npp).symm
    generalize L2.upd H2 pp' (.lst (sh.persons.map nv)) = H3 at s3 f3 g3 ⊢
    refine ⟨_, rfl, v', c.V, d', _, rfl, f3, T.V.cl, T.V.persons, (by show 6 < 1000; decide), ?_⟩
    have s4 := Same.put (.ins c.V d' (putF "persons" (.ref pp') (putF "today" (nv sh.today) (voyF (Km438.opened sh.last sh.room 0) p0 q0 g0)))) s3 nv'
    have f4 := upd_same (H := H3) (a := v') (o := .ins c.V d' (putF "persons" (.ref pp') (putF "today" (nv sh.today) (voyF (Km438.opened sh.last sh.room 0) p0 q0 g0))))
    have g4 : L2.upd H3 v' (.ins c.V d' (putF "persons" (.ref pp') (putF "today" (nv sh.today) (voyF (Km438.opened sh.last sh.room 0) p0 q0 g0)))) pp' = _ := (upd_ne n1).trans g3
    generalize L2.upd H3 v' (.ins c.V d' (putF "persons" (.ref pp') (putF "today" (nv sh.today) (voyF (Km438.opened sh.last sh.room 0) p0 q0 g0)))) = H4 at s4 f4 g4 ⊢
    -- ports
    refine ⟨_, rfl, v, c.V, dv, _, _, rfl, s4 _ _ ho, T.V.cl, T.V.ports, rfl, qq, _, rfl, .inl (SqL.of (s4 _ _ hv.port)), fun qq' nqq => ?_⟩
    have z2 := s4.free nqq
    have s5 := Same.put (.lst ((signs sh).map nv)) s4 z2
    have f5 : L2.upd H4 qq' (.lst ((signs sh).map nv)) v' = _ := (upd_ne (ne_of_none f4 nqq)).trans f4
    have g5 : L2.upd H4 qq' (.lst ((signs sh).map nv)) pp' = _ := (upd_ne (ne_of_none g4 nqq)).trans g4
    have h5 := upd_same (H := H4) (a := qq') (o := .lst ((signs sh).map nv))
    have n2 : qq' ≠ v' := (ne_of_none f4 nqq).symm
    have n3 : pp' ≠ qq' := ne_of_none g4 nqq
    generalize L2.upd H4 qq' (.lst ((signs sh).map nv)) = H5 at s5 f5 g5 h5 ⊢
    refine ⟨_, rfl, v', c.V, d', _, rfl, f5, T.V.cl, T.V.ports, (by show 6 < 1000; decide), ?_⟩
    have s6 := Same.put (.ins c.V d' (putF "ports" (.ref qq') (putF "persons" (.ref pp') (putF "today" (nv sh.today) (voyF (Km438.opened sh.last sh.room 0) p0 q0 g0))))) s5 nv'
    have f6 := upd_same (H := H5) (a := v') (o := .ins c.V d' (putF "ports" (.ref qq') (putF "persons" (.ref pp') (putF "today" (nv sh.today) (voyF (Km438.opened sh.last sh.room 0) p0 q0 g0)))))
    have g6 : L2.upd H5 v' (.ins c.V d' (putF "ports" (.ref qq') (putF "persons" (.ref pp') (putF "today" (nv sh.today) (voyF (Km438.opened sh.last sh.room 0) p0 q0 g0))))) pp' = _ := (upd_ne n1).trans g5
    have h6 : L2.upd H5 v' (.ins c.V d' (putF "ports" (.ref qq') (putF "persons" (.ref pp') (putF "today" (nv sh.today) (voyF (Km438.opened sh.last sh.room 0) p0 q0 g0))))) qq' = _ := (upd_ne n2).trans h5
    generalize L2.upd H5 v' (.ins c.V d' (putF "ports" (.ref qq') (putF "persons" (.ref pp') (putF "today" (nv sh.today) (voyF (Km438.opened sh.last sh.room 0) p0 q0 g0))))) = H6 at s6 f6 g6 h6 ⊢
    -- goods
    have hv6 := hv.same s6
    refine ⟨_, rfl, v, c.V, dv, _, _, rfl, s6 _ _ ho, T.V.cl, T.V.goods, rfl, gg, rfl, ⟨_, SqL.of hv6.gods⟩, fun D hD => lc_list (K := K) (xs := as.map fun x => V.ref x.1)
      (fun i H' => Same H6 H' ∧ ∃ cs : List (Addr × Addr), H' D = some (.lst (cs.map fun x => V.ref x.1)) ∧ GoodsAt c H' cs (sh.goods.take i) ∧ (cs.map (·.1)).Nodup ∧ (∀ x ∈ cs, H6 x.1 = none) ∧ (∀ x ∈ cs, x.2 ≠ D) ∧ ∀ x ∈ cs, H6 x.2 = none)
      ⟨Same.upd _ hD, [], upd_same, .nil, List.nodup_nil, fun x hx => (by cases hx), fun x hx => (by cases hx), fun x hx => (by cases hx)⟩ (fun i H' _ ⟨s7, _⟩ => SqL.of (s7 _ _ hv6.gods)) ?_ ?_⟩
    · rintro i y H' hi ⟨s7, cs, h7, r7, nd7, fr7, nl7, fl7⟩
      obtain ⟨x, hx, rfl⟩ := map_get hi
      obtain ⟨g, hg, gA⟩ := Paired.get2 hv6.good hx
      have hi2 : i < sh.goods.length := (List.getElem?_eq_some_iff.mp hg).1
      have et : sh.goods.take (i + 1) = sh.goods.take i ++ [g] := take_succ hg
      have few := (ok.good hg).few
      refine ⟨rfl, _, rfl, x.1, x.2, g, rfl, gA.same s7, Nat.le_trans few (by decide), fun H8 b q s8 nb nq gB => ⟨_, s8 _ _ h7, ?_, ?_, cs ++ [(b, q)], ?_, ?_, ?_, ?_, ?_, ?_⟩⟩
      · rw [List.length_map, Paired.len r7, List.length_take]
        have := ok.glen
        exact line_of (by omega)
      · exact Same.put _ (s7.trans s8) hD
      · rw [upd_same, List.map_append]; rfl
      · rw [et]
        have hD8 := s8 _ _ h7
        refine Paired.app ?_ (Paired.one (gB.updL hD8 (ne_of_none h7 nq).symm))
        have all : ∀ {cs : List (Addr × Addr)} {gs : List Good}, GoodsAt c H' cs gs → (∀ x ∈ cs, x.2 ≠ D) → GoodsAt c (L2.upd H8 D (.lst ((cs.map fun x => V.ref x.1) ++ [V.ref b]))) cs gs := by
          intro cs gs r n
          generalize (HO.lst ((cs.map fun x => V.ref x.1) ++ [V.ref b])) = o
          induction r with
          | nil => exact .nil
          | cons q t ih => exact .cons ((q.same s8).updL hD8 (n _ List.mem_cons_self)) (ih fun x hx => n x (List.mem_cons_of_mem _ hx))
        exact all r7 nl7
      · rw [List.map_append]
        refine nodup_snoc nd7 fun z => ?_
        obtain ⟨y, hy, e⟩ := List.mem_map.mp z
        obtain ⟨j, hj⟩ := List.getElem?_of_mem hy
        obtain ⟨gj, _, gJ⟩ := Paired.get2 r7 hj
        obtain ⟨dj, oj⟩ := gJ.obj
        rw [e] at oj
        rw [show H' b = none from nb] at oj
        cases oj
      · intro y hy
        rcases List.mem_append.mp hy with z | z
        · exact fr7 y z
        · rw [List.mem_singleton.mp z]; exact s7.free nb
      · intro y hy
        rcases List.mem_append.mp hy with z | z
        · exact nl7 y z
        · rw [List.mem_singleton.mp z]; exact (ne_of_none h7 nq).symm
      · intro y hy
        rcases List.mem_append.mp hy with z | z
        · exact fl7 y z
        · rw [List.mem_singleton.mp z]; exact s7.free nq
    · rintro H' ⟨s7, cs, h7, r7, nd7, fr7, nl7, fl7⟩
      rw [List.length_map, Paired.len hv6.good, List.take_length] at r7
      have f7 := s7 _ _ f6
      refine ⟨_, rfl, v', c.V, d', _, rfl, f7, T.V.cl, T.V.goods, (by show 6 < 1000; decide), ?_⟩
      have k8 := Kp.upd (H := H') v' (.ins c.V d' (putF "goods" (.ref D) (putF "ports" (.ref qq') (putF "persons" (.ref pp') (putF "today" (nv sh.today) (voyF (Km438.opened sh.last sh.room 0) p0 q0 g0))))))
      have of8 : Off c [v'] H' := Off.ins f7 (by show 6 ≠ 2; decide)
      have nl : ∀ {q : Addr} {xs : List V}, H' q = some (.lst xs) → q ∉ [v'] := fun {q xs} e2 z => ne_of e2 f7 lst_ne_ins (List.mem_singleton.mp z)
      refine ⟨_, rfl, k _ v' pp' qq' D cs (Same.put _ (s6.trans s7) nv') ⟨⟨d', upd_same⟩, k8 _ _ (s7 _ _ g6) (nl (s7 _ _ g6)), k8 _ _ (s7 _ _ h6) (nl (s7 _ _ h6)), k8 _ _ h7 (nl h7), Paired.mono r7 fun x g q => ?_, nd7, n3, nl7⟩ nv' z1 z2 (s6.free hD) (fun x hx => s6.free (fr7 x hx)) fun x hx => s6.free (fl7 x hx)⟩
      exact q.kp k8 of8 fun z => GoodAt.lt8 q c.V d' _ f7 (by show 6 ≠ 8; decide) (List.mem_singleton.mp z)
end
end Sd

end
section
set_option Elab.async false
set_option linter.all false
set_option maxRecDepth 100000
set_option maxHeartbeats 2000000
namespace Sd
open PySem PySem.Spec PyProof.Rows L2
open Km438 (Good Ship Desk Lots)
section
variable {P : Program} {w : World} {K : PySem.W.Frag} {mg : Str → Option Value} {base : Heap} {c : Cl}
/-! ## begin_voyage -/
def spBeginV (c : Cl) : Sp := fun vs H Q _ => ∃ (a da v : Addr) (x : V) (pl ul : Addr), vs = [.ref a, .ref v] ∧ H a = some (.ins c.S da (shipF x pl ul)) ∧
  ∀ (H' : Hp) (pl' ul' : Addr), H' a = some (.ins c.S da (shipF (.ref v) pl' ul')) → H' pl' = some (.lst []) → H' ul' = some (.lst []) → H pl' = none → H ul' = none → pl' ≠ ul' → Kp [a] H H' → Q .non H'
theorem sc_beginV : FnScope ["ship", "voyage"] ["ship", "voyage"] (defScope st_begin_voyage) := ⟨rfl, rfl, rfl, by decide +kernel, rfl, by decide +kernel, by decide +kernel⟩
theorem ok_beginV (F : FnAt K mg "begin_voyage" st_begin_voyage) (T : Txt K mg c) : Has P w K mg base 1 "begin_voyage" ["ship", "voyage"] (spBeginV c) := by
  obtain ⟨f, fd, F, m⟩ := F
  refine ⟨f, fd, ?_, m, F.kp, F.binds fun _ _ _ _ _ _ us hl => match us, hl with | [_, _], _ => rfl⟩
  refine F.ok sc_beginV (fun vs H Q E h => ?_) (fun cdv A outer s H vs Q E hr h => ?_)
  · obtain ⟨a, da, v, x, pl, ul, rfl, _⟩ := h
    rfl
  · obtain ⟨a, da, v, x, pl, ul, rfl, ha, k⟩ := h
    refine ⟨_, pss_cons (ps_fld (pv 0) (pv 1) rfl) (pss_cons (ps_fld (pv 0) (pe_lst pa_nil) rfl) (pss_one (ps_fld (pv 0) (pe_lst pa_nil) rfl))), ?_⟩
    refine ⟨_, rfl, _, rfl, a, c.S, da, _, rfl, ha, T.S.cl, T.S.voyage, (by show 3 < 1000; decide), ?_⟩
    have k1 := Kp.upd (H := H) a (.ins c.S da (putF "voyage" (.ref v) (shipF x pl ul)))
    refine ⟨Nat.zero_le _, fun pl' npl => ?_⟩
    have z1 := k1.free upd_same npl
    have n1 : pl' ≠ a := fun z => by rw [z, upd_same] at npl; cases npl
    refine ⟨_, rfl, a, c.S, da, _, rfl, (upd_ne n1.symm).trans upd_same, T.S.cl, T.S.past, (by show 3 < 1000; decide), ?_⟩
    have k2 := (k1.put (.lst []) z1).trans (Kp.upd a (.ins c.S da (putF "past" (.ref pl') (putF "voyage" (.ref v) (shipF x pl ul)))))
    refine ⟨Nat.zero_le _, fun ul' nul => ?_⟩
    have z2 := k2.free upd_same nul
    have n2 : ul' ≠ a := fun z => by rw [z, upd_same] at nul; cases nul
    have n3 : pl' ≠ ul' := fun z => by rw [← z, upd_ne n1, upd_same] at nul; cases nul
    refine ⟨_, rfl, a, c.S, da, _, rfl, (upd_ne n2.symm).trans upd_same, T.S.cl, T.S.undone, (by show 3 < 1000; decide), ?_⟩
    refine k _ pl' ul' upd_same ?_ ?_ z1 z2 n3 ((k2.put (.lst []) z2).trans (Kp.upd _ _))
    · rw [upd_ne n1, upd_ne n3, upd_ne n1, upd_same]
    · rw [upd_ne n2, upd_same]
/-! ## begin_change -/
theorem cut_last (xs : List V) (k : Nat) (hk : 0 < k) : cutV xs (some (-(k : Int))) none = xs.drop (xs.length - k) := by
  unfold cutV
  have e : HT.sIx xs.length 0 (some (-(k : Int))) = xs.length - k := by
    unfold HT.sIx
    dsimp only
    rw [if_pos (by omega)]; omega
  rw [e, HT.sIx_none]
  exact List.take_of_length_le (by rw [List.length_drop]; omega)
theorem past_cut (n : Ship) (p : List Ship) (k : Nat) : ((n :: p).take k).reverse = (p.reverse ++ [n]).drop ((p.reverse ++ [n]).length - k) := by
  rw [List.reverse_take, List.reverse_cons]
  congr 1
  rw [List.length_append, List.length_reverse]; rfl
abbrev mutable (v pp qq gg : Addr) (as : List (Addr × Addr)) : List Addr := v :: pp :: qq :: gg :: as.map (·.1)
def spBegin (c : Cl) : Sp := fun vs H Q _ => ∃ (a : Addr) (d : Desk), vs = [.ref a] ∧ DeskAt c H a d ∧ DeskOk d ∧
  ∀ (H' : Hp) (v pp qq gg : Addr) (as : List (Addr × Addr)), VoyAt c H' v d.now pp qq gg as → Kp [a] H H' → (∀ m ∈ mutable v pp qq gg as, H m = none) →
    (∀ (H'' : Hp) (s' : Ship) (as' : List (Addr × Addr)), Kp (mutable v pp qq gg as) H' H'' → VoyAt c H'' v s' pp qq gg as' → Fr H' as as' → DeskAt c H'' a (d.become s')) → Q (.ref v) H'
theorem sc_begin : FnScope ["ship", "before"] ["ship"] (defScope st_begin_change) := ⟨rfl, rfl, rfl, by decide +kernel, rfl, by decide +kernel, by decide +kernel⟩
theorem ok_begin (F : FnAt K mg "begin_change" st_begin_change) (T : Txt K mg c) (hB : Num mg "MOST_BACK" 30) (hC : Has P w K mg base 4 "copy_of_voyage" ["voyage"] (spCopyV c)) :
    Has P w K mg base 5 "begin_change" ["ship"] (spBegin c) := by
  obtain ⟨f, fd, F, m⟩ := F
  obtain ⟨fC, fdC, GC, mC, kC, bC⟩ := hC
  refine ⟨f, fd, ?_, m, F.kp, F.binds fun _ _ _ _ _ _ us hl => match us, hl with | [_], _ => rfl⟩
  refine F.ok sc_begin (fun vs H Q E h => ?_) (fun cdv A outer s H vs Q E hr h => ?_)
  · obtain ⟨a, d, rfl, _⟩ := h
    rfl
  · obtain ⟨a, d, rfl, ⟨da, v, pl, ul, ps, us, ha, hpl, hul, _, hv, hps, hus⟩, ok, k⟩ := h
    replace hv := hv.same hid_in
    replace hps := Paired.mono hps fun x y q => VoyX.same hid_in q
    refine ⟨_, pss_cons (ps_set (i := 1) sc_begin.nd rfl (Or.inl rfl) (pe_op op_cat (pe_fld (pv 0) rfl) (pe_lst (pa_cons (pe_fld (pv 0) rfl) pa_nil))))
      (pss_cons (ps_fld (pv 0) (pe_slice sl_list (pv 1) (po_some (pe_un un_neg (pe_num hB (by rfl)))) po_none) rfl)
      (pss_cons (ps_fld (pv 0) (pe_lst pa_nil) rfl)
      (pss_cons (ps_fld (pv 0) (pe_call GC hr rfl mC kC bC .nil pass0 (pa_cons (pe_fld (pv 0) rfl) pa_nil)) rfl)
      (pss_one (ps_ret (pe_fld (pv 0) rfl)))))), ?_⟩
    have hlen := Paired.len hps
    rw [List.length_reverse] at hlen
    have few := ok.few
    refine ⟨_, rfl, a, c.S, da, _, _, rfl, ha, T.S.cl, T.S.past, rfl, _, rfl, a, c.S, da, _, _, rfl, ha, T.S.cl, T.S.voyage, rfl, (by show 1 ≤ sizeLine; decide), fun l0 n0 => ?_⟩
    have s1 := Same.upd (.lst [V.ref v]) n0
    have g1 := upd_same (H := H) (a := l0) (o := .lst [V.ref v])
    generalize L2.upd H l0 (.lst [V.ref v]) = H1 at s1 g1 ⊢
    refine ⟨pl, l0, _, _, rfl, rfl, s1 _ _ hpl, g1, (by rw [List.length_map, hlen]; exact line_le (by show d.past.length + 1 ≤ 1000; omega)), fun bl nbl => ?_⟩
    have s2 := s1.trans (Same.upd (.lst (ps.map V.ref ++ [V.ref v])) nbl)
    have g2 := upd_same (H := H1) (a := bl) (o := .lst (ps.map V.ref ++ [V.ref v]))
    generalize L2.upd H1 bl (.lst (ps.map V.ref ++ [V.ref v])) = H2 at s2 g2 ⊢
    refine ⟨_, rfl, 30, rfl, -30, rfl, bl, _, rfl, SqL.of g2, fun pl' npl => ?_⟩
    have ecut : cutV (ps.map V.ref ++ [V.ref v]) (some (-30)) none = ((ps ++ [v]).drop ((ps ++ [v]).length - 30)).map V.ref := by
      have := cut_last (ps.map V.ref ++ [V.ref v]) 30 (by decide)
      rw [show (-(30 : Int)) = -((30 : Nat) : Int) from rfl, this, List.map_drop, List.map_append, List.length_append, List.length_append, List.length_map]; rfl
    have z1 := s2.free npl
    have s3 := s2.trans (Same.upd (.lst (cutV (ps.map V.ref ++ [V.ref v]) (some (-30)) none)) npl)
    have g3 : L2.upd H2 pl' (.lst (cutV (ps.map V.ref ++ [V.ref v]) (some (-30)) none)) pl' = some (.lst (((ps ++ [v]).drop ((ps ++ [v]).length - 30)).map V.ref)) := by rw [upd_same, ecut]
    generalize L2.upd H2 pl' (.lst (cutV (ps.map V.ref ++ [V.ref v]) (some (-30)) none)) = H3 at s3 g3 ⊢
    have a3 := s3 _ _ ha
    have n1 : pl' ≠ a := (ne_of_none ha z1).symm
    refine ⟨_, rfl, a, c.S, da, _, rfl, a3, T.S.cl, T.S.past, (by show 3 < 1000; decide), ?_⟩
    have k4 := (Kp.same s3 [a]).trans (Kp.upd a (.ins c.S da (putF "past" (.ref pl') (shipF (.ref v) pl ul))))
    have a4 := upd_same (H := H3) (a := a) (o := .ins c.S da (putF "past" (.ref pl') (shipF (.ref v) pl ul)))
    have g4 : L2.upd H3 a (.ins c.S da (putF "past" (.ref pl') (shipF (.ref v) pl ul))) pl' = _ := (upd_ne n1).trans g3
    generalize L2.upd H3 a (.ins c.S da (putF "past" (.ref pl') (shipF (.ref v) pl ul))) = H4 at k4 a4 g4 ⊢
    refine ⟨Nat.zero_le _, fun ul' nul => ?_⟩
    have z2 := k4.free a4 nul
    have n2 : ul' ≠ a := (ne_of_none ha z2).symm
    refine ⟨_, rfl, a, c.S, da, _, rfl, (upd_ne n2.symm).trans a4, T.S.cl, T.S.undone, (by show 3 < 1000; decide), ?_⟩
    have k5 := (k4.put (.lst []) z2).trans (Kp.upd a (.ins c.S da (putF "undone" (.ref ul') (putF "past" (.ref pl') (shipF (.ref v) pl ul)))))
    have a5 := upd_same (H := L2.upd H4 ul' (.lst [])) (a := a) (o := .ins c.S da (putF "undone" (.ref ul') (putF "past" (.ref pl') (shipF (.ref v) pl ul))))
    have g5 : L2.upd (L2.upd H4 ul' (.lst [])) a (.ins c.S da (putF "undone" (.ref ul') (putF "past" (.ref pl') (shipF (.ref v) pl ul)))) pl' = _ := (upd_ne n1).trans ((upd_ne (ne_of_none g4 nul)).trans g4)
    have u5 : L2.upd (L2.upd H4 ul' (.lst [])) a (.ins c.S da (putF "undone" (.ref ul') (putF "past" (.ref pl') (shipF (.ref v) pl ul)))) ul' = _ := (upd_ne n2).trans upd_same
    generalize L2.upd (L2.upd H4 ul' (.lst [])) a (.ins c.S da (putF "undone" (.ref ul') (putF "past" (.ref pl') (shipF (.ref v) pl ul)))) = H5 at k5 a5 g5 u5 ⊢
    have hv5 : VoyX c H5 v d.now := hv.keepS k5 ha rfl
    refine ⟨_, rfl, a, c.S, da, _, _, rfl, a5, T.S.cl, T.S.voyage, rfl, v, d.now, rfl, hv5, ok.now, fun H6 v' pp qq gg as s6 hv6 nv' npp nqq ngg nas nls => ?_⟩
    have a6 := s6 _ _ a5
    refine ⟨_, rfl, a, c.S, da, _, rfl, a6, T.S.cl, T.S.voyage, (by show 3 < 1000; decide), ?_⟩
    refine ⟨_, rfl, a, c.S, da, _, _, rfl, upd_same, T.S.cl, T.S.voyage, rfl, ?_⟩
    have k7 := Kp.upd (H := H6) a (.ins c.S da (putF "voyage" (.ref v') (putF "undone" (.ref ul') (putF "past" (.ref pl') (shipF (.ref v) pl ul)))))
    have a7 := upd_same (H := H6) (a := a) (o := .ins c.S da (putF "voyage" (.ref v') (putF "undone" (.ref ul') (putF "past" (.ref pl') (shipF (.ref v) pl ul)))))
    have n6 : ∀ {q : Addr} {xs : List V}, H6 q = some (.lst xs) → q ∉ [a] := fun {q xs} e2 z => ne_of e2 a6 lst_ne_ins (List.mem_singleton.mp z)
    have g7 := k7 _ _ (s6 _ _ g5) (n6 (s6 _ _ g5))
    have u7 := k7 _ _ (s6 _ _ u5) (n6 (s6 _ _ u5))
    generalize L2.upd H6 a (.ins c.S da (putF "voyage" (.ref v') (putF "undone" (.ref ul') (putF "past" (.ref pl') (shipF (.ref v) pl ul))))) = H7 at k7 a7 g7 u7 ⊢
    have fr5 : ∀ m ∈ mutable v' pp qq gg as, H5 m = none := fun m hm => by
      rcases List.mem_cons.mp hm with z | hm
      · rw [z]; exact nv'
      rcases List.mem_cons.mp hm with z | hm
      · rw [z]; exact npp
      rcases List.mem_cons.mp hm with z | hm
      · rw [z]; exact nqq
      rcases List.mem_cons.mp hm with z | hm
      · rw [z]; exact ngg
      obtain ⟨x, hx, z⟩ := List.mem_map.mp hm
      rw [← z]; exact nas x hx
    have k57 : Kp [a] H5 H7 := (Kp.same s6 [a]).trans k7
    have kall : Kp [a] H H7 := k5.trans k57
    refine k H7 v' pp qq gg as (hv6.keepS k7 a6 rfl) kall (fun m hm => k5.free a5 (fr5 m hm)) fun H8 s' as8 k8 hv8 fr8 => ?_
    have na : ∀ {m : Addr} {o : HO}, H5 m = some o → m ∉ mutable v' pp qq gg as := fun {m o} e z => by rw [fr5 m z] at e; cases e
    have kall8 : Kp [a] H (hid H8 pl' ul') := hid_fr (Kp.drop kall k8 fun m hm => .inl (k5.free a5 (fr5 m hm))) z1 z2
    have p8 := k8 _ _ g7 (na g5)
    have u8 := k8 _ _ u7 (na u5)
    have npu : pl' ≠ ul' := ne_of_none g4 nul
    have mu : ∀ {m : Addr}, m ∈ mutable v' pp qq gg as → m ≠ pl' ∧ m ≠ ul' := fun {m} hm => ⟨fun z => na g5 (z ▸ hm), fun z => na u5 (z ▸ hm)⟩
    have old : ∀ x ∈ as8, x.2 ≠ pl' ∧ x.2 ≠ ul' := fun x hx => by
      rcases fr8 x hx with r | r
      · obtain ⟨y, hy, e⟩ := List.mem_map.mp r
        have e5 : H5 x.2 = none := by rw [← e]; exact nls y hy
        exact ⟨(ne_of_none g5 e5).symm, (ne_of_none u5 e5).symm⟩
      · exact ⟨(ne_of_none g7 r).symm, (ne_of_none u7 r).symm⟩
    have m1 := mu (m := pp) (by simp [mutable])
    have m2 := mu (m := qq) (by simp [mutable])
    have m3 := mu (m := gg) (by simp [mutable])
    have hv9 : VoyAt c (hid H8 pl' ul') v' s' pp qq gg as8 := (hv8.hide1 p8 m1.1 m2.1 m3.1 fun x hx => (old x hx).1).hide1 ((hide_ne npu.symm).trans u8) m1.2 m2.2 m3.2 fun x hx => (old x hx).2
    refine ⟨da, v', pl', ul', (ps ++ [v]).drop ((ps ++ [v]).length - 30), [], k8 _ _ a7 (na a5), p8, u8, npu, ⟨_, _, _, _, hv9⟩, ?_, .nil⟩
    show Paired (VoyX c (hid H8 pl' ul')) _ (((d.now :: d.past).take 30).reverse)
    rw [past_cut]
    have hall : Paired (VoyX c (hid H8 pl' ul')) (ps ++ [v]) (d.past.reverse ++ [d.now]) := Paired.app (Paired.mono hps fun x y q => q.keepS kall8 ha rfl) (Paired.one (hv.keepS kall8 ha rfl))
    rw [← Paired.len hall]
    exact Paired.drop _ hall
end
end Sd

end
section
set_option Elab.async false
set_option linter.all false
set_option maxRecDepth 100000
set_option maxHeartbeats 2000000
namespace Sd
open PySem PySem.Spec PyProof.Rows L2
open Km438 (Good Ship Desk Lots)
section
variable {P : Program} {w : World} {K : PySem.W.Frag} {mg : Str → Option Value} {base : Heap} {c : Cl}
theorem dec_lt (a b : Nat) : decide (((a : Nat) : Int) < ((b : Nat) : Int)) = decide (a < b) := decide_eq_decide.mpr (by omega)
/-! ## has_good -/
def spHas (c : Cl) : Sp := fun vs H Q _ => ∃ (v : Addr) (s : Ship) (g : Nat), vs = [.ref v, nv g] ∧ VoyX c H v s ∧ Q (.bl (decide (g < s.goods.length))) H
theorem sc_has : FnScope ["voyage", "g"] ["voyage", "g"] (defScope st_has_good) := ⟨rfl, rfl, rfl, by decide +kernel, rfl, by decide +kernel, by decide +kernel⟩
theorem ok_has (F : FnAt K mg "has_good" st_has_good) (T : Txt K mg c) : Has P w K mg base 1 "has_good" ["voyage", "g"] (spHas c) := by
  obtain ⟨f, fd, F, m⟩ := F
  refine ⟨f, fd, ?_, m, F.kp, F.binds fun _ _ _ _ _ _ us hl => match us, hl with | [_, _], _ => rfl⟩
  refine F.ok sc_has (fun vs H Q E h => ?_) (fun cdv A outer s H vs Q E hr h => ?_)
  · obtain ⟨v, s, g, rfl, _⟩ := h
    rfl
  · obtain ⟨v, sh, g, rfl, ⟨pp, qq, gg, as, hv⟩, k⟩ := h
    obtain ⟨dv, ho⟩ := hv.obj
    refine ⟨_, pss_one (ps_ret (pe_cmpR op_lt (pv 1) (pe_callB call_len_seq (by rfl) T.B.len PySem.boot_len (pa_cons (pe_fld (pv 0) rfl) pa_nil)) (nomark _))), ?_⟩
    refine ⟨_, rfl, _, rfl, v, c.V, dv, _, _, rfl, ho, T.V.cl, T.V.goods, rfl, gg, _, rfl, .inl (SqL.of hv.gods), _, _, rfl, rfl, ?_⟩
    dsimp only
    rw [List.length_map, Paired.len hv.good, dec_lt]
    exact k
/-! ## port_sign -/
def spSign (c : Cl) : Sp := fun vs H Q _ => ∃ (v : Addr) (s : Ship), vs = [.ref v] ∧ VoyX c H v s ∧ ShipOk s ∧ Q (nv (Km438.bit (s.ports.contains s.today))) H
theorem sc_sign : FnScope ["voyage"] ["voyage"] (defScope st_port_sign) := ⟨rfl, rfl, rfl, by decide +kernel, rfl, by decide +kernel, by decide +kernel⟩
theorem ok_sign (F : FnAt K mg "port_sign" st_port_sign) (T : Txt K mg c) : Has P w K mg base 1 "port_sign" ["voyage"] (spSign c) := by
  obtain ⟨f, fd, F, m⟩ := F
  refine ⟨f, fd, ?_, m, F.kp, F.binds fun _ _ _ _ _ _ us hl => match us, hl with | [_], _ => rfl⟩
  refine F.ok sc_sign (fun vs H Q E h => ?_) (fun cdv A outer s H vs Q E hr h => ?_)
  · obtain ⟨v, s, rfl, _⟩ := h
    rfl
  · obtain ⟨v, sh, rfl, ⟨pp, qq, gg, as, hv⟩, ok, k⟩ := h
    obtain ⟨dv, ho⟩ := hv.obj
    refine ⟨_, pss_cons (ps_if (pt_cmpR op_gt (pe_fld (pv 0) rfl) (pe_fld (pv 0) rfl) (nomark _)) (pss_one (ps_ret pe_int)) pss_nil)
      (pss_one (ps_ret (pe_ix ix_list (pe_fld (pv 0) rfl) (pe_fld (pv 0) rfl) (fun _ _ => rfl)))), ?_⟩
    refine ⟨_, rfl, v, c.V, dv, _, _, rfl, ho, T.V.cl, T.V.today, rfl, _, rfl, v, c.V, dv, _, _, rfl, ho, T.V.cl, T.V.last, rfl, _, _, rfl, rfl, _, rfl, ?_⟩
    refine ite2 (fun hlt => ?_) fun hge => ?_
    · have hlt : sh.last < sh.today := by have := of_decide_eq_true hlt; omega
      have e : sh.ports.contains sh.today = false := by
        cases z : sh.ports.contains sh.today with
        | false => rfl
        | true =>
          have := ok.pin _ (List.contains_iff_mem.mp z)
          omega
      rw [e] at k
      exact k
    · have hge : sh.today ≤ sh.last := by
        have : ¬ sh.last < sh.today := fun z => hge (decide_eq_true (by omega))
        omega
      refine ⟨_, rfl, v, c.V, dv, _, _, rfl, ho, T.V.cl, T.V.ports, rfl, _, rfl, v, c.V, dv, _, _, rfl, ho, T.V.cl, T.V.today, rfl, qq, _, _, _, rfl, rfl, SqL.of hv.port, atI_nat ?_, k⟩
      rw [List.getElem?_map, signs_at sh hge]; rfl
/-! ## next_port -/
def spNext (c : Cl) : Sp := fun vs H Q _ => ∃ (v : Addr) (s : Ship), vs = [.ref v] ∧ VoyX c H v s ∧ ShipOk s ∧ Q (nv s.next) H
theorem sc_next : FnScope ["voyage", "day"] ["voyage"] (defScope st_next_port) := ⟨rfl, rfl, rfl, by decide +kernel, rfl, by decide +kernel, by decide +kernel⟩
theorem ok_next (F : FnAt K mg "next_port" st_next_port) (T : Txt K mg c) : Has P w K mg base 1 "next_port" ["voyage"] (spNext c) := by
  obtain ⟨f, fd, F, m⟩ := F
  refine ⟨f, fd, ?_, m, F.kp, F.binds fun _ _ _ _ _ _ us hl => match us, hl with | [_], _ => rfl⟩
  refine F.ok sc_next (fun vs H Q E h => ?_) (fun cdv A outer s H vs Q E hr h => ?_)
  · obtain ⟨v, s, rfl, _⟩ := h
    rfl
  · obtain ⟨v, sh, rfl, ⟨pp, qq, gg, as, hv⟩, ok, k⟩ := h
    obtain ⟨dv, ho⟩ := hv.obj
    have l1 := ok.last2
    have l2 := ok.today
    refine ⟨_, pss_cons (ps_for PassesOwn.never rfl (pi_range2 rfl T.B.range (pa_cons (pe_op op_add (pe_fld (pv 0) rfl) pe_int) (pa_cons (pe_op op_add (pe_fld (pv 0) rfl) pe_int) pa_nil))) (pg_name (i := 1) sc_next.nd rfl (Or.inl rfl))
        (pss_one (ps_if (pt_cmpR op_eq (pe_ix ix_list (pe_fld (pv 0) rfl) (pv 1) (fun _ _ => rfl)) pe_int (nomark _)) (pss_one (ps_ret (pv 1))) pss_nil)))
      (pss_one (ps_ret (pe_op op_add (pe_fld (pv 0) rfl) pe_int))), ?_⟩
    refine ⟨_, rfl, v, c.V, dv, _, _, rfl, ho, T.V.cl, T.V.today, rfl, _, _, rfl, rfl, _, rfl, v, c.V, dv, _, _, rfl, ho, T.V.cl, T.V.last, rfl, _, _, rfl, rfl, _, _, rfl, ⟨(by show -(2 ^ 62) ≤ ((sh.today : Nat) : Int) + 1; omega), (by show ((sh.today : Nat) : Int) + 1 < 2 ^ 62; omega), (by show -(2 ^ 62) ≤ ((sh.last : Nat) : Int) + 1; omega), (by show ((sh.last : Nat) : Int) + 1 < 2 ^ 62; omega)⟩, ?_⟩
    refine for_range (fun i σ H' => ∃ v1 : Option V, σ = [some (.ref v), v1] ∧ H' = H ∧ ∀ e, sh.today < e → e < sh.today + 1 + i → e ≤ sh.last → sh.ports.contains e = false) ⟨none, rfl, rfl, fun e h1 h2 => by omega⟩ ?_ ?_
    · rintro i σ H' hi ⟨v1, rfl, rfl, hnone⟩
      have hi2 : i < ((((sh.last : Nat) : Int) + 1) - (((sh.today : Nat) : Int) + 1)).toNat := hi
      have hle : sh.today + 1 + i ≤ sh.last := by omega
      have ei : ((sh.today : Nat) : Int) + 1 + ((i : Nat) : Int) = ((sh.today + 1 + i : Nat) : Int) := by omega
      show tIfS _ _ _ _ ([some (V.ref v), some (V.int (((sh.today : Nat) : Int) + 1 + ((i : Nat) : Int)))]) H'
      rw [ei]
      refine ⟨_, rfl, v, c.V, dv, _, _, rfl, ho, T.V.cl, T.V.ports, rfl, _, rfl, qq, _, _, _, rfl, rfl, SqL.of hv.port, atI_nat (by rw [List.getElem?_map, signs_at sh hle]; rfl), rfl, _, rfl, ?_⟩
      cases z : sh.ports.contains (sh.today + 1 + i) with
      | true =>
        have e1 : sh.next = sh.today + 1 + i := next_found (by omega) hle z fun e h1 h2 => hnone e h1 h2 (by omega)
        refine ⟨_, rfl, ?_⟩
        rw [e1] at k
        exact k
      | false =>
        refine ⟨_, rfl, rfl, fun e h1 h2 h3 => ?_⟩
        by_cases q : e < sh.today + 1 + i
        · exact hnone e h1 q h3
        · have : e = sh.today + 1 + i := by omega
          rw [this]; exact z
    · rintro σ H' ⟨v1, rfl, rfl, hnone⟩
      have e1 : sh.next = sh.last + 1 := next_none fun e h1 h2 => hnone e h1 (by omega) h2
      rw [e1] at k
      exact ⟨_, rfl, v, c.V, dv, _, _, rfl, ho, T.V.cl, T.V.last, rfl, _, _, rfl, rfl, k⟩
/-! ## units_aboard -/
def spAboard (c : Cl) : Sp := fun vs H Q _ => ∃ (v : Addr) (s : Ship), vs = [.ref v] ∧ VoyX c H v s ∧ ShipOk s ∧ ∀ H' : Hp, Same H H' → Q (nv s.full) H'
theorem sc_aboard : FnScope ["voyage", "good"] ["voyage"] (defScope st_units_aboard) := ⟨rfl, rfl, rfl, by decide +kernel, rfl, by decide +kernel, by decide +kernel⟩
theorem ok_aboard (F : FnAt K mg "units_aboard" st_units_aboard) (T : Txt K mg c) (hU : Has P w K mg base 1 "units_in" ["lots"] (spUnits c)) : Has P w K mg base 2 "units_aboard" ["voyage"] (spAboard c) := by
  obtain ⟨f, fd, F, m⟩ := F
  obtain ⟨fU, fdU, GU, mU, kU, bU⟩ := hU
  refine ⟨f, fd, ?_, m, F.kp, F.binds fun _ _ _ _ _ _ us hl => match us, hl with | [_], _ => rfl⟩
  refine F.ok sc_aboard (fun vs H Q E h => ?_) (fun cdv A outer s H vs Q E hr h => ?_)
  · obtain ⟨v, s, rfl, _⟩ := h
    rfl
  · obtain ⟨v, sh, rfl, ⟨pp, qq, gg, as, hv⟩, ok, k⟩ := h
    obtain ⟨dv, ho⟩ := hv.obj
    refine ⟨_, pss_one (ps_ret (pe_callB (cr_sum rfl) (by rfl) T.B.sum boot_sum (pa_cons (pe_lc (te := tCall (spUnits c) [] E0 (tCons (tFld K (tVar 1) "lots") tNil)) rfl sc_aboard.nd (pi_list (pe_fld (pv 0) rfl)) (blkOk_by (own := [("good", 1)]) (by kernel_rfl))
      (fun _ _ _ _ _ => pg_name (i := 1) sc_aboard.nd rfl (Or.inl rfl)) (fun _ _ _ _ _ => pts_nil) (fun _ _ _ _ _ => by exact pe_call GU hr rfl mU kU bU .nil pass0 (pa_cons (pe_fld (pv 1) rfl) pa_nil))) pa_nil))), ?_⟩
    refine ⟨_, rfl, v, c.V, dv, _, _, rfl, ho, T.V.cl, T.V.goods, rfl, gg, rfl, ⟨_, SqL.of hv.gods⟩, fun D hD => lc_list (K := K) (xs := as.map fun x => V.ref x.1)
      (fun i H' => Same H H' ∧ H' D = some (.lst ((sh.goods.take i).map fun g => nv (Km438.amount g.lots)))) ⟨Same.upd _ hD, upd_same⟩ (fun i H' _ ⟨s1, _⟩ => SqL.of (s1 _ _ hv.gods)) ?_ ?_⟩
    · rintro i y H' hi ⟨s1, h1⟩
      obtain ⟨x, hx, rfl⟩ := map_get hi
      obtain ⟨g, hg, gA⟩ := Paired.get2 hv.good hx
      obtain ⟨dg, og⟩ := gA.obj
      have few := (ok.good hg).few
      refine ⟨rfl, _, rfl, x.1, c.G, dg, _, _, rfl, s1 _ _ og, T.G.cl, T.G.lots, rfl, x.2, g.lots, rfl, gA.lots.same s1, Nat.le_trans few (by decide), fun H2 s2 => ⟨_, s2 _ _ h1, ?_, ?_, ?_⟩⟩
      · rw [List.length_map, List.length_take]
        have := ok.glen
        exact line_of (by omega)
      · exact Same.put _ (s1.trans s2) hD
      · rw [upd_same, take_succ hg, List.map_append]; rfl
    · rintro H' ⟨s1, h1⟩
      rw [List.length_map, Paired.len hv.good, List.take_length] at h1
      refine ⟨D, sh.goods.map fun g => ((Km438.amount g.lots : Nat) : Int), rfl, SqL.of (by rw [List.map_map]; exact h1), ?_⟩
      have e : (sh.goods.map fun g => ((Km438.amount g.lots : Nat) : Int)).sum = ((sh.full : Nat) : Int) := by
        rw [full_eq, ← sum_int, List.map_map]; rfl
      rw [e]
      exact k H' s1
/-! ## room_left -/
def spRoom (c : Cl) : Sp := fun vs H Q _ => ∃ (v : Addr) (s : Ship), vs = [.ref v] ∧ VoyX c H v s ∧ ShipOk s ∧ ∀ H' : Hp, Same H H' → Q (.int ((s.room : Int) - (s.full : Int))) H'
theorem sc_room : FnScope ["voyage"] ["voyage"] (defScope st_room_left) := ⟨rfl, rfl, rfl, by decide +kernel, rfl, by decide +kernel, by decide +kernel⟩
theorem ok_room (F : FnAt K mg "room_left" st_room_left) (T : Txt K mg c) (hA : Has P w K mg base 2 "units_aboard" ["voyage"] (spAboard c)) : Has P w K mg base 3 "room_left" ["voyage"] (spRoom c) := by
  obtain ⟨f, fd, F, m⟩ := F
  obtain ⟨fA, fdA, GA, mA, kA, bA⟩ := hA
  refine ⟨f, fd, ?_, m, F.kp, F.binds fun _ _ _ _ _ _ us hl => match us, hl with | [_], _ => rfl⟩
  refine F.ok sc_room (fun vs H Q E h => ?_) (fun cdv A outer s H vs Q E hr h => ?_)
  · obtain ⟨v, s, rfl, _⟩ := h
    rfl
  · obtain ⟨v, sh, rfl, hvX, ok, k⟩ := h
    obtain ⟨pp, qq, gg, as, hv⟩ := id hvX
    obtain ⟨dv, ho⟩ := hv.obj
    refine ⟨_, pss_one (ps_ret (pe_op op_sub (pe_fld (pv 0) rfl) (pe_call GA hr rfl mA kA bA .nil pass0 (pa_cons (pv 0) pa_nil)))), ?_⟩
    exact ⟨_, rfl, v, c.V, dv, _, _, rfl, ho, T.V.cl, T.V.room, rfl, _, rfl, v, sh, rfl, hvX, ok, fun H1 s1 => ⟨_, _, rfl, rfl, k H1 s1⟩⟩
/-! ## needs_by_day -/
def spNeeds (c : Cl) : Sp := fun vs H Q _ => ∃ (v a p : Addr) (s : Ship) (g : Good) (x y : Nat), vs = [.ref v, .ref a, nv x, nv y] ∧ VoyX c H v s ∧ ShipOk s ∧ GoodAt c H a p g ∧ y ≤ s.last + 1 ∧ x ≤ 4294967295 ∧
  ∀ (H' : Hp) (r : Addr), Same H H' → H r = none → H' r = some (.lst ((needsOf s g.per x y).map nv)) → Q (.ref r) H'
theorem sc_needs : FnScope ["voyage", "good", "first", "behind", "day"] ["voyage", "good", "first", "behind"] (defScope st_needs_by_day) := ⟨rfl, rfl, rfl, by decide +kernel, rfl, by decide +kernel, by decide +kernel⟩
theorem needs_at (s : Ship) (per x y : Nat) {i : Nat} (h : i < y - x) : (needsOf s per x y)[i]? = some (s.persons.getD (x + i) 0 * per) := by
  unfold needsOf
  rw [List.getElem?_map, List.getElem?_range h]; rfl
theorem ok_needs (F : FnAt K mg "needs_by_day" st_needs_by_day) (T : Txt K mg c) : Has P w K mg base 1 "needs_by_day" ["voyage", "good", "first", "behind"] (spNeeds c) := by
  obtain ⟨f, fd, F, m⟩ := F
  refine ⟨f, fd, ?_, m, F.kp, F.binds fun _ _ _ _ _ _ us hl => match us, hl with | [_, _, _, _], _ => rfl⟩
  refine F.ok sc_needs (fun vs H Q E h => ?_) (fun cdv A outer s H vs Q E hr h => ?_)
  · obtain ⟨v, a, p, s, g, x, y, rfl, _⟩ := h
    rfl
  · obtain ⟨v, a, p, sh, g, x, y, rfl, ⟨pp, qq, gg, as, hv⟩, ok, gA, hy, hx, k⟩ := h
    obtain ⟨dv, ho⟩ := hv.obj
    obtain ⟨dg, og⟩ := gA.obj
    have l1 := ok.last2
    refine ⟨_, pss_one (ps_ret (pe_lc (te := tOp (rI CMul fun i j => .int (i * j)) (tOp (rIxL K) (tFld K (tVar 0) "persons") (tVar 4)) (tFld K (tVar 1) "per")) rfl sc_needs.nd (pi_range2 rfl T.B.range (pa_cons (pv 2) (pa_cons (pv 3) pa_nil))) (blkOk_by (own := [("day", 4)]) (by kernel_rfl))
      (fun _ _ _ _ _ => pg_name (i := 4) sc_needs.nd rfl (Or.inl rfl)) (fun _ _ _ _ _ => pts_nil) (fun _ _ _ _ _ => by exact pe_op op_mul (pe_ix ix_list (pe_fld (pv 0) rfl) (pv 4) (fun _ _ => rfl)) (pe_fld (pv 1) rfl)))), ?_⟩
    refine ⟨_, rfl, _, rfl, _, _, rfl, ⟨(by show -(2 ^ 62) ≤ ((x : Nat) : Int); omega), (by show ((x : Nat) : Int) < 2 ^ 62; omega), (by show -(2 ^ 62) ≤ ((y : Nat) : Int); omega), (by show ((y : Nat) : Int) < 2 ^ 62; omega)⟩, fun D hD => ?_⟩
    refine lc_range (fun i H' => Same H H' ∧ H' D = some (.lst (((needsOf sh g.per x y).take i).map nv))) ⟨Same.upd _ hD, upd_same⟩ ?_ ?_
    · rintro i H' hi ⟨s1, h1⟩
      have hi2 : i < (((y : Nat) : Int) - ((x : Nat) : Int)).toNat := hi
      have hi3 : i < y - x := by omega
      have hd : x + i < sh.persons.length := by rw [ok.plen]; omega
      have e1 : sh.persons[x + i]? = some (sh.persons.getD (x + i) 0) := by rw [List.getD_eq_getElem?_getD, List.getElem?_eq_getElem hd]; rfl
      have ei : ((x : Nat) : Int) + ((i : Nat) : Int) = ((x + i : Nat) : Int) := by omega
      have hpm := persons_le ok (x + i)
      refine ⟨rfl, _, rfl, v, c.V, dv, _, _, rfl, s1 _ _ ho, T.V.cl, T.V.persons, rfl, _, rfl, pp, _, _, _, rfl, rfl, SqL.of (s1 _ _ hv.pers), at_of (j := x + i) (v := nv (sh.persons.getD (x + i) 0)) ei (by rw [List.getElem?_map, e1]; rfl), _, rfl, a, c.G, dg, _, _, rfl, s1 _ _ og, T.G.cl, T.G.per, rfl, _, _, rfl, rfl,
        .inl ⟨(by show -(2 ^ 64) < ((sh.persons.getD (x + i) 0 : Nat) : Int); omega), (by show ((sh.persons.getD (x + i) 0 : Nat) : Int) < 2 ^ 64; omega)⟩, _, h1, ?_, ?_, ?_⟩
      · rw [List.length_map, List.length_take]
        exact line_of (by omega)
      · exact Same.put _ s1 hD
      · rw [upd_same, take_succ (needs_at sh g.per x y hi3), List.map_append]; rfl
    · rintro H' ⟨s1, h1⟩
      have e : (((y : Nat) : Int) - ((x : Nat) : Int)).toNat = (needsOf sh g.per x y).length := by rw [needsOf_length]; omega
      rw [e, List.take_length] at h1
      exact k H' D s1 hD h1
/-! ## bits_of -/
theorem ip_mul {X : Cx} : PIp X .Mult (rI CMul fun i j => .int (i * j)) := iop_mul
def spBits : Sp := fun vs H Q _ => ∃ (p : Addr) (bs : List Bool), vs = [.ref p] ∧ H p = some (.lst (bs.map V.bl)) ∧ bs.length ≤ 60 ∧ Q (nv (bitsFrom bs 1)) H
theorem sc_bits : FnScope ["signs", "bits", "worth", "sign"] ["signs"] (defScope st_bits_of) := ⟨rfl, rfl, rfl, by decide +kernel, rfl, by decide +kernel, by decide +kernel⟩
theorem ok_bits (F : FnAt K mg "bits_of" st_bits_of) : Has P w K mg base 1 "bits_of" ["signs"] spBits := by
  obtain ⟨f, fd, F, m⟩ := F
  refine ⟨f, fd, ?_, m, F.kp, F.binds fun _ _ _ _ _ _ us hl => match us, hl with | [_], _ => rfl⟩
  refine F.ok sc_bits (fun vs H Q E h => ?_) (fun cdv A outer s H vs Q E hr h => ?_)
  · obtain ⟨p, bs, rfl, _⟩ := h
    rfl
  · obtain ⟨p, bs, rfl, hp, hn, k⟩ := h
    refine ⟨_, pss_cons (ps_set (i := 1) sc_bits.nd rfl (Or.inl rfl) pe_int) (pss_cons (ps_set (i := 2) sc_bits.nd rfl (Or.inl rfl) pe_int)
      (pss_cons (ps_for PassesOwn.never rfl (pi_list (pv 0)) (pg_name (i := 3) sc_bits.nd rfl (Or.inl rfl))
        (pss_cons (ps_if (pt_truth (pv 3) (fun _ => rfl)) (pss_one (ps_aug (i := 1) sc_bits.nd rfl (Or.inl rfl) (pv 2) ip_add)) pss_nil)
        (pss_one (ps_aug (i := 2) sc_bits.nd rfl (Or.inl rfl) pe_int ip_mul))))
      (pss_one (ps_ret (pv 1))))), ?_⟩
    refine ⟨_, rfl, p, rfl, ⟨_, SqL.of hp⟩, for_list (K := K) (a := p) (xs := bs.map V.bl) (fun i σ H' => ∃ v3 : Option V, σ = [some (.ref p), some (nv (bitsFrom (bs.take i) 1)), some (nv (2 ^ i)), v3] ∧ H' = H) ⟨none, rfl, rfl⟩ (fun i σ H' _ ⟨_, _, e⟩ => by rw [e]; exact SqL.of hp) ?_ ?_⟩
    · rintro i y σ H' hi ⟨v3, rfl, rfl⟩
      obtain ⟨b, hb, rfl⟩ := map_get hi
      have hi2 : i < bs.length := (List.getElem?_eq_some_iff.mp hb).1
      have e1 : bitsFrom (bs.take (i + 1)) 1 = bitsFrom (bs.take i) 1 + (if b = true then 2 ^ i else 0) := by
        rw [take_succ hb, bitsFrom_snoc, List.length_take, Nat.one_mul, Nat.min_eq_left (by omega)]
      have e2 : ((2 ^ i : Nat) : Int) * 2 = ((2 ^ (i + 1) : Nat) : Int) := by rw [Nat.pow_succ]; omega
      refine ⟨_, rfl, b, rfl, ?_⟩
      cases b with
      | true =>
        refine ⟨_, rfl, _, rfl, _, _, rfl, rfl, _, rfl, _, _, rfl, rfl, .inr ⟨(by decide), (by decide)⟩, ?_⟩
        have e3 : ((bitsFrom (bs.take i) 1 : Nat) : Int) + ((2 ^ i : Nat) : Int) = ((bitsFrom (bs.take (i + 1)) 1 : Nat) : Int) := by rw [e1, if_pos rfl]; omega
        dsimp only
        rw [e2, e3]
        exact ⟨_, rfl, rfl⟩
      | false =>
        refine ⟨_, rfl, _, _, rfl, rfl, .inr ⟨(by decide), (by decide)⟩, ?_⟩
        have e3 : bitsFrom (bs.take i) 1 = bitsFrom (bs.take (i + 1)) 1 := by rw [e1, if_neg (by decide)]; rfl
        dsimp only
        rw [e2, e3]
        exact ⟨_, rfl, rfl⟩
    · rintro σ H' ⟨v3, rfl, rfl⟩
      rw [List.length_map, List.take_length]
      exact ⟨_, rfl, k⟩
end
end Sd

end
section
set_option Elab.async false
set_option linter.all false
set_option maxRecDepth 100000
set_option maxHeartbeats 2000000
namespace L2
open PySem PySem.Spec PyProof.Rows
/-! ### any(xs) of a list of ints -/
theorem truth_ints {prog : Program} {w : World} {A : Around} {ns : List Int} {its : List Value} (e : IntsAre its ns) :
    TruthOf prog w A (fun i v => its.toArray[i]? = some v) (fun i => (ns.map fun n => n != 0).getD i false) := fun i v s Q E hv hq => by
  have hv' : its[i]? = some v := by simpa using hv
  obtain ⟨n, t, hn, rfl⟩ : ∃ n t, ns[i]? = some n ∧ v = Value.int n t := by
    have r := vals_of_ints e
    have hl := r.length
    rw [List.length_map] at hl
    have hi : i < its.length := (List.getElem?_eq_some_iff.mp hv').1
    have hn : ns[i]? = some ns[i] := List.getElem?_eq_getElem (by omega)
    obtain ⟨u, hu, ru⟩ := r.get (i := i) (x := V.int ns[i]) (by rw [List.getElem?_map, hn]; rfl)
    rw [hv'] at hu
    cases hu
    obtain ⟨t, rfl⟩ := ru
    exact ⟨_, t, hn, rfl⟩
  have hg : (ns.map fun n => n != 0).getD i false = (n != 0) := by rw [List.getD_eq_getElem?_getD, List.getElem?_map, hn] <;> rfl
  have hq' : Q ((ns.map fun n => n != 0).getD i false) s := hq
  rw [hg] at hq'
  exact PySem.P.truthy_int hq'
def rAnyI (K : PySem.W.Frag) : List V → Hp → VK → Prop := fun vs H Q => ∃ (a : Addr) (ns : List Int), vs = [V.ref a] ∧ SqL K H a (ns.map V.int) ∧ Q (.bl (ns.any fun n => n != 0)) H
theorem cr_anyI {X : Cx} (hc : X.calm = true) : CallR X (.builtin "any") (rAnyI X.K) := by
  intro pins s σ H vs us Q I r h
  obtain ⟨a, ns, rfl, hs, q⟩ := h
  obtain ⟨its, rv, hl, _⟩ := I.list hs
  rw [Vals.ref1 r]
  have hb := rv.ints
  have hlen : its.length = ns.length := by
    have := rv.length
    rw [List.length_map] at this
    exact this.symm
  refine call_any_walk (iter_any hl.isList fun s₂ e2 st hne => ?_)
  subst e2
  refine ⟨_, _, _, _, _, _, _, rfl, Walks.list (A := X.A.in1) (I.ok.hd hc) _ a hne its.toArray, st, truth_ints hb, fun h' tk hk => ?_⟩
  refine ⟨.bl _, H, I.kept fun b o eo => hk b o (fun hmem => ?_) (Heap.get?_push_of_some _ eo), ?_, q⟩
  · rcases List.mem_cons.mp hmem with e1 | hmem
    · exact absurd (e1 ▸ Heap.lt_size eo) (Nat.lt_irrefl _)
    · cases hmem
  · show Value.bool _ = Value.bool _
    have e := any_range (ns.map fun n => n != 0)
    rw [List.length_map, List.any_map] at e
    rw [List.size_toArray, hlen, e]
    rfl
end L2
namespace L2
open PySem PySem.Spec PyProof.Rows
/-- for over enumerate(list), the list stays -/
theorem for_enum {K : PySem.W.Frag} {a : Addr} {xs : List V} {g : TG} {tb : TS} {D : Ends} {σ : St} {H : Hp} (Pv : Nat → St → Hp → Prop) (h0 : Pv 0 σ H) (hl : ∀ i σ H, i ≤ xs.length → Pv i σ H → SqL K H a xs)
    (hs : ∀ i x t σ H, xs[i]? = some x → Pv i σ H → H t = none → g (.ref t) σ (upd H t (.tup [.int (i : Nat), x])) fun σ2 H2 => tb { D with nx := Pv (i + 1), ct := Pv (i + 1), bk := D.nx } σ2 H2) (hd : ∀ σ H, Pv xs.length σ H → D.nx σ H) :
    ∃ W : Nat → Nat → St → Hp → Prop, (∃ m, W 0 m σ H) ∧ ∀ i m σ H, W i m σ H →
      ((Ite K a).stop i H ∧ D.nx σ H) ∨ ((Ite K a).go i H ∧ ∃ N : St → Hp → Prop, (∀ σ' H', N σ' H' → ∃ m', m' < m ∧ W (i + 1) m' σ' H') ∧ ∀ x H', (Ite K a).yld i H x H' → g x σ H' fun σ2 H2 => tb { D with nx := N, ct := N, bk := D.nx } σ2 H2) := by
  refine ⟨fun i m σ H => m = xs.length - i ∧ i ≤ xs.length ∧ Pv i σ H, ⟨xs.length, by simp, Nat.zero_le _, h0⟩, ?_⟩
  rintro i m σ H ⟨rfl, hi, p⟩
  have q := hl i σ H hi p
  by_cases hlt : i < xs.length
  · refine .inr ⟨⟨xs, xs[i], q, by simp [hlt]⟩, Pv (i + 1), fun σ' H' p' => ⟨xs.length - (i + 1), by omega, rfl, hlt, p'⟩, fun x H' y => ?_⟩
    obtain ⟨t, x', rfl, nt, rfl, y⟩ := y
    exact hs i x' t σ _ (y xs q) p nt
  · have e : i = xs.length := by omega
    subst e
    exact .inl ⟨⟨xs, q, Nat.le_refl _⟩, hd σ H p⟩
end L2
namespace Sd
open PySem PySem.Spec PyProof.Rows L2
open Km438 (Good Ship Desk Lots)
/-- what a question is answered -/
def ask (s : Ship) (x : Km438.Call) : List Int := Km438Neutral.told (Km438.act ⟨s, [], []⟩ x).2
/-- the text's numbers -/
structure TxtN (mg : Str → Option Value) : Prop where
  LATEST_LAST : Num mg "LATEST_LAST" 60
  MOST_UNITS : Num mg "MOST_UNITS" 1000000000
  MOST_PERSONS : Num mg "MOST_PERSONS" 5000
  MOST_GOODS : Num mg "MOST_GOODS" 6
  MOST_PER : Num mg "MOST_PER" 1000
  MOST_LIFE : Num mg "MOST_LIFE" 100
  MOST_LOTS : Num mg "MOST_LOTS" 6
  MOST_DAYS : Num mg "MOST_DAYS" 60
  MOST_BACK : Num mg "MOST_BACK" 30
  NOT_THERE : Num mg "NOT_THERE" (-2)
  LESS_THERE : Num mg "LESS_THERE" (-12)
  NO_PORT : Num mg "NO_PORT" (-16)
  ALREADY_SO : Num mg "ALREADY_SO" (-17)
  NOT_AS_TOLD : Num mg "NOT_AS_TOLD" (-22)
  TOO_MANY : Num mg "TOO_MANY" (-28)
  NEVER : Num mg "NEVER" (-33)
  NO_ROOM : Num mg "NO_ROOM" (-62)
  TOO_LATE : Num mg "TOO_LATE" (-75)
  NO_LOT : Num mg "NO_LOT" (-6)
  START : Num mg "START" 0
  GOOD : Num mg "GOOD" 1
  PERSONS : Num mg "PERSONS" 2
  PORT : Num mg "PORT" 3
  LOAD : Num mg "LOAD" 4
  GIVE : Num mg "GIVE" 5
  RATION : Num mg "RATION" 6
  DAYS : Num mg "DAYS" 7
  LASTS : Num mg "LASTS" 8
  LEAST : Num mg "LEAST" 9
  ENOUGH : Num mg "ENOUGH" 10
  NEED : Num mg "NEED" 11
  SPOILS : Num mg "SPOILS" 12
  STOCK : Num mg "STOCK" 13
  LOT : Num mg "LOT" 14
  LOOK : Num mg "LOOK" 15
  WHO : Num mg "WHO" 16
  NEXT : Num mg "NEXT" 17
  SHORT : Num mg "SHORT" 18
  ROOM : Num mg "ROOM" 19
  BACK : Num mg "BACK" 21
  AGAIN : Num mg "AGAIN" 22
section
variable {P : Program} {w : World} {K : PySem.W.Frag} {mg : Str → Option Value} {base : Heap} {c : Cl}
/-! ## lacks_up_to -/
def spUp (c : Cl) : Sp := fun vs H Q _ => ∃ (v a p : Addr) (s : Ship) (g : Good) (y : Nat), vs = [.ref v, .ref a, nv y] ∧ VoyX c H v s ∧ ShipOk s ∧ GoodAt c H a p g ∧ g.lots.length ≤ 100 ∧ Pos g.lots ∧ y ≤ s.last + 1 ∧
  ∀ (H' : Hp) (r : Addr), Same H H' → H r = none → H' r = some (.lst ((lacks (needsOf s g.per s.today y) s.today g.lots).map nv)) → Q (.ref r) H'
theorem sc_up : FnScope ["voyage", "good", "behind"] ["voyage", "good", "behind"] (defScope st_lacks_up_to) := ⟨rfl, rfl, rfl, by decide +kernel, rfl, by decide +kernel, by decide +kernel⟩
theorem ok_up (F : FnAt K mg "lacks_up_to" st_lacks_up_to) (T : Txt K mg c) (hL : Has P w K mg base 5 "lacks_by_day" ["good", "today", "needs"] (spLacks c)) (hN : Has P w K mg base 1 "needs_by_day" ["voyage", "good", "first", "behind"] (spNeeds c)) :
    Has P w K mg base 6 "lacks_up_to" ["voyage", "good", "behind"] (spUp c) := by
  obtain ⟨f, fd, F, m⟩ := F
  obtain ⟨fL, fdL, GL, mL, kL, bL⟩ := hL
  obtain ⟨fN, fdN, GN, mN, kN, bN⟩ := hN
  refine ⟨f, fd, ?_, m, F.kp, F.binds fun _ _ _ _ _ _ us hl => match us, hl with | [_, _, _], _ => rfl⟩
  refine F.ok sc_up (fun vs H Q E h => ?_) (fun cdv A outer s H vs Q E hr h => ?_)
  · obtain ⟨v, a, p, s, g, y, rfl, _⟩ := h
    rfl
  · obtain ⟨v, a, p, sh, g, y, rfl, hv, ok, gA, hn, hp, hy, k⟩ := h
    obtain ⟨pp, qq, gg, as, hvA⟩ := id hv
    obtain ⟨dv, ho⟩ := hvA.obj
    have hr1 : Room 1 _ := hr.mono (by decide)
    have l2 := ok.last2
    have t2 := ok.today
    refine ⟨_, pss_one (ps_ret (pe_call GL hr rfl mL kL bL .nil pass0 (pa_cons (pv 1) (pa_cons (pe_fld (pv 0) rfl) (pa_cons (pe_call GN hr1 rfl mN kN bN .nil pass0 (pa_cons (pv 0) (pa_cons (pv 1) (pa_cons (pe_fld (pv 0) rfl) (pa_cons (pv 2) pa_nil))))) pa_nil))))), ?_⟩
    refine ⟨_, rfl, _, rfl, v, c.V, dv, _, _, rfl, ho, T.V.cl, T.V.today, rfl, _, rfl, _, rfl, _, rfl, v, c.V, dv, _, _, rfl, ho, T.V.cl, T.V.today, rfl, _, rfl, v, a, p, sh, g, sh.today, y, rfl, hv, ok, gA, hy, by omega, fun H1 r s1 nr h1 => ?_⟩
    refine ⟨a, p, r, g, sh.today, needsOf sh g.per sh.today y, rfl, gA.same s1, hn, hp, h1, by rw [needsOf_length]; omega, fun H2 r2 s2 nr2 h2 => ?_⟩
    exact k H2 r2 (s1.trans s2) (s1.free nr2) h2
/-! ## sd_need -/
theorem good_ix {H : Hp} {v : Addr} {s : Ship} {pp qq gg : Addr} {as : List (Addr × Addr)} {g : Nat} {x : Good} (hv : VoyAt c H v s pp qq gg as) (h : s.goods[g]? = some x) :
    ∃ a p, as[g]? = some (a, p) ∧ GoodAt c H a p x ∧ atI (as.map fun z => V.ref z.1) (g : Int) = some (.ref a) := by
  obtain ⟨⟨a, p⟩, ha, q⟩ := Paired.get1 hv.good h
  exact ⟨a, p, ha, q, atI_nat (by rw [List.getElem?_map, ha]; rfl)⟩
def spAsk (c : Cl) (n : Nat) (x : List Nat → Km438.Call) : Sp := fun vs H Q _ => ∃ (v : Addr) (s : Ship) (l : List Nat), vs = .ref v :: l.map nv ∧ l.length = n ∧ (∀ y ∈ l, y ≤ 4294967295) ∧ VoyX c H v s ∧ ShipOk s ∧
  ∀ (H' : Hp) (r : Addr), Same H H' → H r = none → H' r = some (.lst ((ask s (x l)).map V.int)) → Q (.ref r) H'
theorem one_fin {H : Hp} {Q : VK} {l : List Int} {z : Int} (k : ∀ (H' : Hp) (r : Addr), Same H H' → H r = none → H' r = some (.lst (l.map V.int)) → Q (.ref r) H') (e : l = [z]) : 1 ≤ sizeLine ∧ ∀ r, H r = none → Q (.ref r) (L2.upd H r (.lst [V.int z])) := by
  subst e
  exact ⟨by decide, fun r nr => k _ r (Same.upd _ nr) nr upd_same⟩
theorem list_fin {H H1 : Hp} {Q : VK} {l : List Int} (k : ∀ (H' : Hp) (r : Addr), Same H H' → H r = none → H' r = some (.lst (l.map V.int)) → Q (.ref r) H') (s1 : Same H H1) (hl : l.length ≤ 1000) : (l.map V.int).length ≤ sizeLine ∧ ∀ r, H1 r = none → Q (.ref r) (L2.upd H1 r (.lst (l.map V.int))) :=
  ⟨by rw [List.length_map]; exact line_le hl, fun r nr => k _ r (s1.trans (Same.upd _ nr)) (s1.free nr) upd_same⟩
theorem sc_need : FnScope ["voyage", "g", "a", "b"] ["voyage", "g", "a", "b"] (defScope st_sd_need) := ⟨rfl, rfl, rfl, by decide +kernel, rfl, by decide +kernel, by decide +kernel⟩
theorem ok_need (F : FnAt K mg "sd_need" st_sd_need) (T : Txt K mg c) (N : TxtN mg) (hH : Has P w K mg base 1 "has_good" ["voyage", "g"] (spHas c)) (hN : Has P w K mg base 1 "needs_by_day" ["voyage", "good", "first", "behind"] (spNeeds c)) :
    Has P w K mg base 2 "sd_need" ["voyage", "g", "a", "b"] (spAsk c 3 fun l => .need (l.getD 0 0) (l.getD 1 0) (l.getD 2 0)) := by
  obtain ⟨f, fd, F, m⟩ := F
  obtain ⟨fH, fdH, GH, mH, kH, bH⟩ := hH
  obtain ⟨fN, fdN, GN, mN, kN, bN⟩ := hN
  refine ⟨f, fd, ?_, m, F.kp, F.binds fun _ _ _ _ _ _ us hl => match us, hl with | [_, _, _, _], _ => rfl⟩
  refine F.ok sc_need (fun vs H Q E h => ?_) (fun cdv A outer s H vs Q E hr h => ?_)
  · obtain ⟨v, s, l, rfl, hl, _⟩ := h
    show (l.map nv).length + 1 = 4
    rw [List.length_map, hl]
  · obtain ⟨v, sh, l, rfl, hl, hb, hv, ok, k⟩ := h
    obtain ⟨g, a, b, rfl⟩ : ∃ g a b, l = [g, a, b] := match l, hl with | [g, a, b], _ => ⟨g, a, b, rfl⟩
    obtain ⟨pp, qq, gg, as, hvA⟩ := id hv
    obtain ⟨dv, ho⟩ := hvA.obj
    refine ⟨_, pss_cons (ps_if (pt_not (pt_val (pe_call GH hr rfl mH kH bH .nil pass0 (pa_cons (pv 0) (pa_cons (pv 1) pa_nil))))) (pss_one (ps_ret (pe_lst (pa_cons (pe_num N.NOT_THERE (by rfl)) pa_nil)))) pss_nil)
      (pss_cons (ps_if (PW.pt (pw_or (pt_cmpR op_lt (pv 3) (pv 2) (nomark _)) (pw_or1 (pt_cmpR op_gt (pv 3) (pe_op op_add (pe_fld (pv 0) rfl) pe_int) (nomark _))))) (pss_one (ps_ret (pe_lst (pa_cons (pe_num N.NOT_AS_TOLD (by rfl)) pa_nil)))) pss_nil)
      (pss_one (ps_ret (pe_lst (pa_cons (pe_callB (cr_sum rfl) (by rfl) T.B.sum boot_sum (pa_cons (pe_call GN hr rfl mN kN bN .nil pass0 (pa_cons (pv 0) (pa_cons (pe_ix ix_list (pe_fld (pv 0) rfl) (pv 1) (fun _ _ => rfl)) (pa_cons (pv 2) (pa_cons (pv 3) pa_nil))))) pa_nil)) pa_nil))))), ?_⟩
    refine ⟨_, rfl, _, rfl, v, sh, g, rfl, hv, _, rfl, ?_⟩
    by_cases hg : g < sh.goods.length
    · rw [decide_eq_true hg]
      obtain ⟨x, hx⟩ := good_there (s := sh) (g := g) (by omega)
      obtain ⟨ga, gp, hga, gA, hix⟩ := good_ix hvA hx
      have egood := good_at hx
      refine ⟨_, rfl, _, rfl, _, _, rfl, rfl, _, rfl, ?_⟩
      have hask : ask sh (.need g a b) = if b < a ∨ sh.last + 1 < b then [-22] else [(((needsOf sh x.per a b).sum : Nat) : Int)] := by
        unfold ask
        simp only [Km438.act]
        rw [if_neg (by omega), needs_eq, egood, sum_eq]
        by_cases z : b < a ∨ sh.last + 1 < b
        · rw [if_pos z, if_pos z]; rfl
        · rw [if_neg z, if_neg z]; rfl
      have k := fun (H' : Hp) (r : Addr) s1 n1 (e1 : H' r = some (.lst ((ask sh (.need g a b)).map V.int))) => k H' r s1 n1 e1
      rw [hask] at k
      dsimp only
      rw [dec_lt]
      by_cases h1 : b < a
      · rw [decide_eq_true h1]
        exact one_fin k (if_pos (.inl h1))
      · rw [decide_eq_false h1]
        refine ⟨_, rfl, _, rfl, v, c.V, dv, _, _, rfl, ho, T.V.cl, T.V.last, rfl, _, _, rfl, rfl, _, _, rfl, rfl, _, rfl, ?_⟩
        have e2 : decide (((sh.last : Nat) : Int) + 1 < ((b : Nat) : Int)) = decide (sh.last + 1 < b) := decide_eq_decide.mpr (by omega)
        dsimp only
        rw [e2]
        by_cases h2 : sh.last + 1 < b
        · rw [decide_eq_true h2]
          exact one_fin k (if_pos (.inr h2))
        · rw [decide_eq_false h2]
          rw [if_neg (by omega)] at k
          refine ⟨_, rfl, _, rfl, v, c.V, dv, _, _, rfl, ho, T.V.cl, T.V.goods, rfl, _, rfl, gg, _, _, _, rfl, rfl, SqL.of hvA.gods, hix, _, rfl, _, rfl, v, ga, gp, sh, x, a, b, rfl, hv, ok, gA, by omega, hb a (by simp), fun H1 r s1 nr h1 => ?_⟩
          refine ⟨r, (needsOf sh x.per a b).map fun (y : Nat) => (y : Int), rfl, SqL.of (by rw [List.map_map]; exact h1), ?_⟩
          rw [sum_int]
          exact list_fin k s1 (by show 1 ≤ 1000; decide)
    · rw [decide_eq_false hg]
      have hask : ask sh (.need g a b) = [-2] := by
        unfold ask
        simp only [Km438.act]
        rw [if_pos (by omega)]; rfl
      exact one_fin k hask
/-! ## sd_lasts -/
theorem firstPos_at : ∀ (ks : List Nat) (t i : Nat) (k : Nat), ks[i]? = some k → 0 < k → (∀ j, j < i → ks[j]? = some 0) → firstPos ks t = some (t + i)
  | [], t, i, k, h, _, _ => by simp at h
  | a :: ks, t, 0, k, h, hk, _ => by
    have e : a = k := Option.some.inj h
    rw [firstPos, if_neg (by omega)]; rfl
  | a :: ks, t, i + 1, k, h, hk, hz => by
    have e0 : a = 0 := Option.some.inj (hz 0 (by omega))
    rw [firstPos, if_pos e0, firstPos_at ks (t + 1) i k h hk fun j hj => hz (j + 1) (by omega)]
    congr 1; omega
theorem firstPos_no : ∀ (ks : List Nat) (t : Nat), (∀ j, j < ks.length → ks[j]? = some 0) → firstPos ks t = none
  | [], t, _ => rfl
  | a :: ks, t, hz => by
    have e0 : a = 0 := Option.some.inj (hz 0 (by simp))
    rw [firstPos, if_pos e0, firstPos_no ks (t + 1) fun j hj => hz (j + 1) (by simp; omega)]
theorem sc_lasts : FnScope ["voyage", "g", "lacks", "passed", "lack"] ["voyage", "g"] (defScope st_sd_lasts) := ⟨rfl, rfl, rfl, by decide +kernel, rfl, by decide +kernel, by decide +kernel⟩
theorem ok_lasts (F : FnAt K mg "sd_lasts" st_sd_lasts) (T : Txt K mg c) (N : TxtN mg) (hH : Has P w K mg base 1 "has_good" ["voyage", "g"] (spHas c)) (hU : Has P w K mg base 6 "lacks_up_to" ["voyage", "good", "behind"] (spUp c)) :
    Has P w K mg base 7 "sd_lasts" ["voyage", "g"] (spAsk c 1 fun l => .lasts (l.getD 0 0)) := by
  obtain ⟨f, fd, F, m⟩ := F
  obtain ⟨fH, fdH, GH, mH, kH, bH⟩ := hH
  obtain ⟨fU, fdU, GU, mU, kU, bU⟩ := hU
  refine ⟨f, fd, ?_, m, F.kp, F.binds fun _ _ _ _ _ _ us hl => match us, hl with | [_, _], _ => rfl⟩
  refine F.ok sc_lasts (fun vs H Q E h => ?_) (fun cdv A outer s H vs Q E hr h => ?_)
  · obtain ⟨v, s, l, rfl, hl, _⟩ := h
    show (l.map nv).length + 1 = 2
    rw [List.length_map, hl]
  · obtain ⟨v, sh, l, rfl, hl, hb, hv, ok, k⟩ := h
    obtain ⟨g, rfl⟩ : ∃ g, l = [g] := match l, hl with | [g], _ => ⟨g, rfl⟩
    obtain ⟨pp, qq, gg, as, hvA⟩ := id hv
    obtain ⟨dv, ho⟩ := hvA.obj
    have hr1 : Room 1 _ := hr.mono (by decide)
    refine ⟨_, pss_cons (ps_if (pt_not (pt_val (pe_call GH hr1 rfl mH kH bH .nil pass0 (pa_cons (pv 0) (pa_cons (pv 1) pa_nil))))) (pss_one (ps_ret (pe_lst (pa_cons (pe_num N.NOT_THERE (by rfl)) pa_nil)))) pss_nil)
      (pss_cons (ps_set (i := 2) sc_lasts.nd rfl (Or.inl rfl) (pe_call GU hr rfl mU kU bU .nil pass0 (pa_cons (pv 0) (pa_cons (pe_ix ix_list (pe_fld (pv 0) rfl) (pv 1) (fun _ _ => rfl)) (pa_cons (pe_op op_add (pe_fld (pv 0) rfl) pe_int) pa_nil)))))
      (pss_cons (ps_for PassesOwn.never rfl (pi_enum rfl T.B.enumerate (pa_cons (pv 2) pa_nil)) (pg_tup rfl (pgs_cons (pg_name (i := 3) sc_lasts.nd rfl (Or.inl rfl)) (pgs_cons (pg_name (i := 4) sc_lasts.nd rfl (Or.inl rfl)) pgs_nil)))
        (pss_one (ps_if (pt_cmpR op_gt (pv 4) pe_int (nomark _)) (pss_one (ps_ret (pe_lst (pa_cons (pe_op op_add (pe_fld (pv 0) rfl) (pv 3)) pa_nil)))) pss_nil)))
      (pss_one (ps_ret (pe_lst (pa_cons (pe_num N.NEVER (by rfl)) pa_nil)))))), ?_⟩
    refine ⟨_, rfl, _, rfl, v, sh, g, rfl, hv, _, rfl, ?_⟩
    by_cases hg : g < sh.goods.length
    · rw [decide_eq_true hg]
      obtain ⟨x, hx⟩ := good_there (s := sh) (g := g) (by omega)
      obtain ⟨ga, gp, hga, gA, hix⟩ := good_ix hvA hx
      have egood := good_at hx
      have gok := ok.good hx
      have k := fun (H' : Hp) (r : Addr) s1 n1 (e1 : H' r = some (.lst ((ask sh (.lasts g)).map V.int))) => k H' r s1 n1 e1
      refine ⟨_, rfl, _, rfl, v, c.V, dv, _, _, rfl, ho, T.V.cl, T.V.goods, rfl, _, rfl, gg, _, _, _, rfl, rfl, SqL.of hvA.gods, hix, _, rfl, v, c.V, dv, _, _, rfl, ho, T.V.cl, T.V.last, rfl, _, _, rfl, rfl, v, ga, gp, sh, x, sh.last + 1, rfl, hv, ok, gA, Nat.le_trans gok.few (by decide), gok.pos, Nat.le_refl _, fun H1 r s1 nr h1 => ?_⟩
      generalize hks : lacks (needsOf sh x.per sh.today (sh.last + 1)) sh.today x.lots = ks at h1
      have hask : ask sh (.lasts g) = match firstPos ks sh.today with
          | none => [-33]
          | some t => [((t : Nat) : Int)] := by
        unfold ask
        simp only [Km438.act]
        rw [if_neg (by omega), needs_eq, egood, firstLack_eq _ _ _ gok.fresh, hks]
        cases firstPos ks sh.today <;> rfl
      refine ⟨_, rfl, r, _, rfl, SqL.of h1, for_enum (K := K) (a := r) (xs := ks.map nv) (fun i σ H' => ∃ v3 v4 : Option V, σ = [some (.ref v), some (nv g), some (.ref r), v3, v4] ∧ Same H1 H' ∧ ∀ j, j < i → ks[j]? = some 0)
        ⟨none, none, rfl, fun _ _ e => e, fun j hj => absurd hj (Nat.not_lt_zero _)⟩ (fun i σ H' _ ⟨_, _, _, s2, _⟩ => SqL.of (s2 _ _ h1)) ?_ ?_⟩
      · rintro i y t σ H' hi ⟨v3, v4, rfl, s2, hz⟩ nt
        obtain ⟨kk, hkk, rfl⟩ := map_get hi
        have s3 := s2.trans (Same.upd (.tup [.int (i : Nat), nv kk]) nt)
        refine ⟨t, _, rfl, SqT.of upd_same, rfl, _, _, rfl, _, _, rfl, rfl, ?_⟩
        refine ⟨_, rfl, _, _, rfl, rfl, _, rfl, ?_⟩
        have e2 : decide ((0 : Int) < ((kk : Nat) : Int)) = decide (0 < kk) := decide_eq_decide.mpr (by omega)
        dsimp only
        rw [e2]
        by_cases h2 : 0 < kk
        · rw [decide_eq_true h2]
          have e3 := firstPos_at ks sh.today i kk hkk h2 hz
          rw [e3] at hask
          rw [hask] at k
          have s13 := s1.trans s3
          refine ⟨_, rfl, v, c.V, dv, _, _, rfl, s13 _ _ ho, T.V.cl, T.V.today, rfl, _, rfl, _, _, rfl, rfl, ?_⟩
          have e4 : ((sh.today : Nat) : Int) + ((i : Nat) : Int) = ((sh.today + i : Nat) : Int) := by omega
          dsimp only
          rw [e4]
          exact list_fin k s13 (by show 1 ≤ 1000; decide)
        · rw [decide_eq_false h2]
          refine ⟨_, _, rfl, s3, fun j hj => ?_⟩
          by_cases q : j < i
          · exact hz j q
          · have ej : j = i := by omega
            rw [ej, hkk]
            congr 1; omega
      · rintro σ H' ⟨v3, v4, rfl, s2, hz⟩
        rw [List.length_map] at hz
        rw [firstPos_no ks _ hz] at hask
        rw [hask] at k
        exact list_fin k (s1.trans s2) (by show 1 ≤ 1000; decide)
    · rw [decide_eq_false hg]
      have hask : ask sh (.lasts g) = [-2] := by
        unfold ask
        simp only [Km438.act]
        rw [if_pos (by omega)]; rfl
      exact one_fin k hask
end
end Sd

end
section
set_option Elab.async false
set_option linter.all false
set_option maxRecDepth 100000
set_option maxHeartbeats 2000000
namespace Sd
open PySem PySem.Spec PyProof.Rows L2
open Km438 (Good Ship Desk Lots)
section
variable {P : Program} {w : World} {K : PySem.W.Frag} {mg : Str → Option Value} {base : Heap} {c : Cl}
theorem cut_from (xs : List V) (k : Nat) : cutV xs (some (k : Int)) none = xs.drop k := by
  unfold cutV
  rw [HT.sIx_none, HT.sIx_nat]
  by_cases h : k ≤ xs.length
  · rw [Nat.min_eq_left h]
    exact List.take_of_length_le (by rw [List.length_drop]; omega)
  · rw [Nat.min_eq_right (by omega), Nat.sub_self, List.take_zero, List.drop_eq_nil_of_le (by omega)]
theorem any_zeros : ∀ ks : List Nat, ((ks.map fun (y : Nat) => (y : Int)).any fun n => n != 0) = !zeros ks
  | [] => rfl
  | k :: ks => by
    have ih := any_zeros ks
    rw [List.map_cons, List.any_cons, ih]
    unfold zeros
    rw [List.all_cons]
    by_cases h : k = 0
    · subst h; rfl
    · have : (((k : Nat) : Int) != 0) = true := bne_iff_ne.mpr (by omega)
      rw [this, decide_eq_false h]; rfl
/-! ## sd_least -/
theorem sc_least : FnScope ["voyage", "g", "good", "port", "lacks"] ["voyage", "g"] (defScope st_sd_least) := ⟨rfl, rfl, rfl, by decide +kernel, rfl, by decide +kernel, by decide +kernel⟩
theorem ok_least (F : FnAt K mg "sd_least" st_sd_least) (T : Txt K mg c) (N : TxtN mg) (hH : Has P w K mg base 1 "has_good" ["voyage", "g"] (spHas c)) (hX : Has P w K mg base 1 "next_port" ["voyage"] (spNext c)) (hU : Has P w K mg base 6 "lacks_up_to" ["voyage", "good", "behind"] (spUp c)) :
    Has P w K mg base 7 "sd_least" ["voyage", "g"] (spAsk c 1 fun l => .least (l.getD 0 0)) := by
  obtain ⟨f, fd, F, m⟩ := F
  obtain ⟨fH, fdH, GH, mH, kH, bH⟩ := hH
  obtain ⟨fX, fdX, GX, mX, kX, bX⟩ := hX
  obtain ⟨fU, fdU, GU, mU, kU, bU⟩ := hU
  refine ⟨f, fd, ?_, m, F.kp, F.binds fun _ _ _ _ _ _ us hl => match us, hl with | [_, _], _ => rfl⟩
  refine F.ok sc_least (fun vs H Q E h => ?_) (fun cdv A outer s H vs Q E hr h => ?_)
  · obtain ⟨v, s, l, rfl, hl, _⟩ := h
    show (l.map nv).length + 1 = 2
    rw [List.length_map, hl]
  · obtain ⟨v, sh, l, rfl, hl, hb, hv, ok, k⟩ := h
    obtain ⟨g, rfl⟩ : ∃ g, l = [g] := match l, hl with | [g], _ => ⟨g, rfl⟩
    obtain ⟨pp, qq, gg, as, hvA⟩ := id hv
    obtain ⟨dv, ho⟩ := hvA.obj
    have hr1 : Room 1 _ := hr.mono (by decide)
    refine ⟨_, pss_cons (ps_if (pt_not (pt_val (pe_call GH hr1 rfl mH kH bH .nil pass0 (pa_cons (pv 0) (pa_cons (pv 1) pa_nil))))) (pss_one (ps_ret (pe_lst (pa_cons (pe_num N.NOT_THERE (by rfl)) pa_nil)))) pss_nil)
      (pss_cons (ps_set (i := 2) sc_least.nd rfl (Or.inl rfl) (pe_ix ix_list (pe_fld (pv 0) rfl) (pv 1) (fun _ _ => rfl)))
      (pss_cons (ps_set (i := 3) sc_least.nd rfl (Or.inl rfl) (pe_call GX hr1 rfl mX kX bX .nil pass0 (pa_cons (pv 0) pa_nil)))
      (pss_cons (ps_set (i := 4) sc_least.nd rfl (Or.inl rfl) (pe_call GU hr rfl mU kU bU .nil pass0 (pa_cons (pv 0) (pa_cons (pv 2) (pa_cons (pv 3) pa_nil)))))
      (pss_cons (ps_if (pt_val (pe_callB (cr_anyI rfl) (by rfl) T.B.any boot_any (pa_cons (pe_slice sl_list (pv 4) (po_some (pe_op op_add (pe_fld (pv 2) rfl) pe_int)) po_none) pa_nil))) (pss_one (ps_ret (pe_lst (pa_cons (pe_num N.NEVER (by rfl)) pa_nil)))) pss_nil)
      (pss_one (ps_ret (pe_lst (pa_cons (pe_callB (cr_sum rfl) (by rfl) T.B.sum boot_sum (pa_cons (pv 4) pa_nil)) (pa_cons (pv 3) pa_nil))))))))), ?_⟩
    refine ⟨_, rfl, _, rfl, v, sh, g, rfl, hv, _, rfl, ?_⟩
    by_cases hg : g < sh.goods.length
    · rw [decide_eq_true hg]
      obtain ⟨x, hx⟩ := good_there (s := sh) (g := g) (by omega)
      obtain ⟨ga, gp, hga, gA, hix⟩ := good_ix hvA hx
      have gok := ok.good hx
      have k := fun (H' : Hp) (r : Addr) s1 n1 (e1 : H' r = some (.lst ((ask sh (.least g)).map V.int))) => k H' r s1 n1 e1
      refine ⟨_, rfl, v, c.V, dv, _, _, rfl, ho, T.V.cl, T.V.goods, rfl, _, rfl, gg, _, _, _, rfl, rfl, SqL.of hvA.gods, hix, ?_⟩
      refine ⟨_, rfl, v, sh, rfl, hv, ok, ?_⟩
      refine ⟨_, rfl, _, rfl, _, rfl, v, ga, gp, sh, x, sh.next, rfl, hv, ok, gA, Nat.le_trans gok.few (by decide), gok.pos, next_le sh, fun H1 r s1 nr h1 => ?_⟩
      have hleast := least_eq ok hx
      generalize lacks (needsOf sh x.per sh.today sh.next) sh.today x.lots = ks at h1 hleast
      have hask : ask sh (.least g) = if zeros (ks.drop (x.life + 1)) = true then [((ks.sum : Nat) : Int), ((sh.next : Nat) : Int)] else [-33] := by
        unfold ask
        simp only [Km438.act]
        rw [if_neg (by omega), hleast]
        by_cases z : zeros (ks.drop (x.life + 1)) = true
        · rw [if_pos z, if_pos z]; rfl
        · rw [if_neg z, if_neg z]; rfl
      rw [hask] at k
      obtain ⟨dg, og⟩ := gA.obj
      have ecut : cutV (ks.map nv) (some (((x.life : Nat) : Int) + 1)) none = (ks.drop (x.life + 1)).map nv := by
        have := cut_from (ks.map nv) (x.life + 1)
        rw [List.map_drop, ← this]; rfl
      refine ⟨_, rfl, _, rfl, ga, c.G, dg, _, _, rfl, s1 _ _ og, T.G.cl, T.G.life, rfl, _, _, rfl, rfl, _, rfl, r, _, rfl, SqL.of h1, fun q nq => ?_⟩
      have s2 := s1.trans (Same.upd (.lst (cutV (ks.map nv) (some (((x.life : Nat) : Int) + 1)) none)) nq)
      refine ⟨q, (ks.drop (x.life + 1)).map fun (y : Nat) => (y : Int), rfl, SqL.of (by rw [List.map_map]; exact upd_same.trans (congrArg (fun z => some (HO.lst z)) ecut)), _, rfl, ?_⟩
      rw [any_zeros]
      cases z : zeros (ks.drop (x.life + 1)) with
      | true =>
        rw [z, if_pos rfl] at k
        refine ⟨_, rfl, r, ks.map fun (y : Nat) => (y : Int), rfl, SqL.of (by rw [List.map_map]; exact (Same.upd (.lst (cutV (ks.map nv) (some (((x.life : Nat) : Int) + 1)) none)) nq) _ _ h1), _, rfl, ?_⟩
        rw [sum_int]
        exact list_fin k s2 (by show 2 ≤ 1000; decide)
      | false =>
        rw [z, if_neg (by decide)] at k
        exact list_fin k s2 (by show 1 ≤ 1000; decide)
    · rw [decide_eq_false hg]
      have hask : ask sh (.least g) = [-2] := by
        unfold ask
        simp only [Km438.act]
        rw [if_pos (by omega)]; rfl
      exact one_fin k hask
/-! ## sd_enough -/
theorem with_few (g : Good) (t n : Nat) : (g.with_ t n).length ≤ g.lots.length + 1 := by
  unfold Km438.Good.with_
  by_cases hn : n = 0
  · rw [if_pos hn]; omega
  · rw [if_neg hn]
    cases e : g.lots.getLast? with
    | none => show 1 ≤ _; omega
    | some y =>
      show (if y.1 = t + g.life then g.lots.dropLast ++ [(y.1, y.2 + n)] else g.lots ++ [(t + g.life, n)]).length ≤ _
      by_cases q : y.1 = t + g.life
      · rw [if_pos q, List.length_append, List.length_dropLast]; show _ + 1 ≤ _; omega
      · rw [if_neg q, List.length_append]; exact Nat.le_refl _
theorem sc_enough : FnScope ["voyage", "g", "n", "trial"] ["voyage", "g", "n"] (defScope st_sd_enough) := ⟨rfl, rfl, rfl, by decide +kernel, rfl, by decide +kernel, by decide +kernel⟩
theorem ok_enough (F : FnAt K mg "sd_enough" st_sd_enough) (T : Txt K mg c) (N : TxtN mg) (hH : Has P w K mg base 1 "has_good" ["voyage", "g"] (spHas c)) (hX : Has P w K mg base 1 "next_port" ["voyage"] (spNext c)) (hU : Has P w K mg base 6 "lacks_up_to" ["voyage", "good", "behind"] (spUp c))
    (hC : Has P w K mg base 3 "copy_of_good" ["good"] (spCopyG c)) (hL : Has P w K mg base 5 "load" ["good", "today", "n"] (spLoad c)) :
    Has P w K mg base 7 "sd_enough" ["voyage", "g", "n"] (spAsk c 2 fun l => .enough (l.getD 0 0) (l.getD 1 0)) := by
  obtain ⟨f, fd, F, m⟩ := F
  obtain ⟨fH, fdH, GH, mH, kH, bH⟩ := hH
  obtain ⟨fX, fdX, GX, mX, kX, bX⟩ := hX
  obtain ⟨fU, fdU, GU, mU, kU, bU⟩ := hU
  obtain ⟨fC, fdC, GC, mC, kC, bC⟩ := hC
  obtain ⟨fL, fdL, GL, mL, kL, bL⟩ := hL
  refine ⟨f, fd, ?_, m, F.kp, F.binds fun _ _ _ _ _ _ us hl => match us, hl with | [_, _, _], _ => rfl⟩
  refine F.ok sc_enough (fun vs H Q E h => ?_) (fun cdv A outer s H vs Q E hr h => ?_)
  · obtain ⟨v, s, l, rfl, hl, _⟩ := h
    show (l.map nv).length + 1 = 3
    rw [List.length_map, hl]
  · obtain ⟨v, sh, l, rfl, hl, hb, hv, ok, k⟩ := h
    obtain ⟨g, n, rfl⟩ : ∃ g n, l = [g, n] := match l, hl with | [g, n], _ => ⟨g, n, rfl⟩
    obtain ⟨pp, qq, gg, as, hvA⟩ := id hv
    obtain ⟨dv, ho⟩ := hvA.obj
    have hr1 : Room 1 _ := hr.mono (by decide)
    have hr3 : Room 3 _ := hr.mono (by decide)
    have hr5 : Room 5 _ := hr.mono (by decide)
    refine ⟨_, pss_cons (ps_if (pt_not (pt_val (pe_call GH hr1 rfl mH kH bH .nil pass0 (pa_cons (pv 0) (pa_cons (pv 1) pa_nil))))) (pss_one (ps_ret (pe_lst (pa_cons (pe_num N.NOT_THERE (by rfl)) pa_nil)))) pss_nil)
      (pss_cons (ps_if (pt_cmpR op_gt (pv 2) (pe_num N.MOST_UNITS (by rfl)) (nomark _)) (pss_one (ps_ret (pe_lst (pa_cons (pe_num N.NOT_AS_TOLD (by rfl)) pa_nil)))) pss_nil)
      (pss_cons (ps_set (i := 3) sc_enough.nd rfl (Or.inl rfl) (pe_call GC hr3 rfl mC kC bC .nil pass0 (pa_cons (pe_ix ix_list (pe_fld (pv 0) rfl) (pv 1) (fun _ _ => rfl)) pa_nil)))
      (pss_cons (ps_if (pt_cmpR op_gt (pv 2) pe_int (nomark _)) (pss_one (ps_expr (pe_call GL hr5 rfl mL kL bL .nil pass0 (pa_cons (pv 3) (pa_cons (pe_fld (pv 0) rfl) (pa_cons (pv 2) pa_nil)))))) pss_nil)
      (pss_cons (ps_if (pt_val (pe_callB (cr_anyI rfl) (by rfl) T.B.any boot_any (pa_cons (pe_call GU hr rfl mU kU bU .nil pass0 (pa_cons (pv 0) (pa_cons (pv 3) (pa_cons (pe_call GX hr1 rfl mX kX bX .nil pass0 (pa_cons (pv 0) pa_nil)) pa_nil)))) pa_nil))) (pss_one (ps_ret (pe_lst (pa_cons pe_int pa_nil)))) pss_nil)
      (pss_one (ps_ret (pe_lst (pa_cons pe_int pa_nil)))))))), ?_⟩
    refine ⟨_, rfl, _, rfl, v, sh, g, rfl, hv, _, rfl, ?_⟩
    by_cases hg : g < sh.goods.length
    · rw [decide_eq_true hg]
      obtain ⟨x, hx⟩ := good_there (s := sh) (g := g) (by omega)
      obtain ⟨ga, gp, hga, gA, hix⟩ := good_ix hvA hx
      have gok := ok.good hx
      have k := fun (H' : Hp) (r : Addr) s1 n1 (e1 : H' r = some (.lst ((ask sh (.enough g n)).map V.int))) => k H' r s1 n1 e1
      have hask : ask sh (.enough g n) = if 1000000000 < n then [-22] else if zeros (lacks (needsOf sh x.per sh.today sh.next) sh.today (x.with_ sh.today n)) = true then [1] else [0] := by
        unfold ask
        simp only [Km438.act]
        rw [if_neg (by omega), enough_eq ok hx]
        by_cases z : 1000000000 < n
        · rw [if_pos z, if_pos (show Km438.MOST < n from z)]; rfl
        · rw [if_neg z, if_neg (show ¬ Km438.MOST < n from z)]
          cases zeros (lacks (needsOf sh x.per sh.today sh.next) sh.today (x.with_ sh.today n)) <;> rfl
      rw [hask] at k
      refine ⟨_, rfl, _, _, rfl, rfl, _, rfl, ?_⟩
      have e2 : decide ((1000000000 : Int) < ((n : Nat) : Int)) = decide (1000000000 < n) := decide_eq_decide.mpr (by omega)
      dsimp only
      rw [e2]
      by_cases h2 : 1000000000 < n
      · rw [decide_eq_true h2]
        exact one_fin k (if_pos h2)
      · rw [decide_eq_false h2]
        rw [if_neg h2] at k
        refine ⟨_, rfl, v, c.V, dv, _, _, rfl, ho, T.V.cl, T.V.goods, rfl, _, rfl, gg, _, _, _, rfl, rfl, SqL.of hvA.gods, hix, ga, gp, x, rfl, gA, Nat.le_trans gok.few (by decide), fun H1 b q s1 nb nq gB => ?_⟩
        -- what is left, whatever was loaded
        have fin : ∀ (H2 : Hp) (q2 : Addr) (y : Good), Same H H2 → GoodAt c H2 b q2 y → y.per = x.per → y.lots = x.with_ sh.today n →
            tSeq (tIfS (tB (tCB (rAnyI K) (tCons (tCall (spUp c) [] E0 (tCons (tVar 0) (tCons (tVar 3) (tCons (tCall (spNext c) [] E0 (tCons (tVar 0) tNil)) tNil)))) tNil))) (tRet (tLst (tCons (tC (.int 0)) tNil))) tNext) (tRet (tLst (tCons (tC (.int 1)) tNil)))
              { nx := fun _ H' => Q .non H', rt := Q } [some (.ref v), some (nv g), some (nv n), some (.ref b)] H2 := fun H2 q2 y s2 gY hper hlots => by
          have hv2 := hv.same s2
          refine ⟨_, rfl, _, rfl, _, rfl, v, sh, rfl, hv2, ok, v, b, q2, sh, y, sh.next, rfl, hv2, ok, gY, ?_, ?_, next_le sh, fun H3 r s3 nr h3 => ?_⟩
          · rw [hlots]
            have := with_few x sh.today n
            have := gok.few
            omega
          · rw [hlots]; exact with_pos x _ _ gok.pos
          · rw [hper, hlots] at h3
            generalize lacks (needsOf sh x.per sh.today sh.next) sh.today (x.with_ sh.today n) = ks at h3 k
            refine ⟨r, ks.map fun (y : Nat) => (y : Int), rfl, SqL.of (by rw [List.map_map]; exact h3), _, rfl, ?_⟩
            rw [any_zeros]
            cases z : zeros ks with
            | true =>
              rw [z, if_pos rfl] at k
              exact list_fin k (s2.trans s3) (by show 1 ≤ 1000; decide)
            | false =>
              rw [z, if_neg (by decide)] at k
              exact list_fin k (s2.trans s3) (by show 1 ≤ 1000; decide)
        refine ⟨_, rfl, _, _, rfl, rfl, _, rfl, ?_⟩
        have e3 : decide ((0 : Int) < ((n : Nat) : Int)) = decide (0 < n) := decide_eq_decide.mpr (by omega)
        dsimp only
        rw [e3]
        by_cases h3 : 0 < n
        · rw [decide_eq_true h3]
          refine ⟨_, rfl, _, rfl, v, c.V, dv, _, _, rfl, s1 _ _ ho, T.V.cl, T.V.today, rfl, _, rfl, b, q, x, sh.today, n, rfl, gB, Nat.le_trans gok.few (by decide), by omega, fun H2 r2 k2 nr2 g2 => ?_⟩
          exact fin H2 r2 _ (Kp.fresh s1 k2 fun z hz => by rw [List.mem_singleton.mp hz]; exact nb) g2 rfl rfl
        · rw [decide_eq_false h3]
          have e0 : n = 0 := by omega
          refine fin H1 q x s1 gB rfl ?_
          rw [e0]
          unfold Km438.Good.with_
          rw [if_pos rfl]
    · rw [decide_eq_false hg]
      have hask : ask sh (.enough g n) = [-2] := by
        unfold ask
        simp only [Km438.act]
        rw [if_pos (by omega)]; rfl
      exact one_fin k hask
end
end Sd

end
section
set_option Elab.async false
set_option linter.all false
set_option maxRecDepth 100000
set_option maxHeartbeats 2000000
namespace Sd
open PySem PySem.Spec PyProof.Rows L2
open Km438 (Good Ship Desk Lots)
section
variable {P : Program} {w : World} {K : PySem.W.Frag} {mg : Str → Option Value} {base : Heap} {c : Cl}
/-! ## spoils_in_days -/
def spSpoil (c : Cl) : Sp := fun vs H Q _ => ∃ (a p q : Addr) (g : Good) (t : Nat) (ns : List Nat), vs = [.ref a, nv t, .ref q] ∧ GoodAt c H a p g ∧ g.lots.length ≤ 100 ∧ Pos g.lots ∧ Fresh g.lots t ∧ H q = some (.lst (ns.map nv)) ∧ ns.length ≤ 100 ∧
  ∀ (H' : Hp), Same H H' → Q (nv (Km438.spoils (ns ++ [0]) t g.lots)) H'
theorem sc_spoil : FnScope ["good", "today", "needs", "trial", "day", "need"] ["good", "today", "needs"] (defScope st_spoils_in_days) := ⟨rfl, rfl, rfl, by decide +kernel, rfl, by decide +kernel, by decide +kernel⟩
theorem ok_spoil (F : FnAt K mg "spoils_in_days" st_spoils_in_days) (T : Txt K mg c) (hC : Has P w K mg base 3 "copy_of_good" ["good"] (spCopyG c)) (hL : Has P w K mg base 4 "live_day" ["good", "need", "day"] (spLive c)) :
    Has P w K mg base 5 "spoils_in_days" ["good", "today", "needs"] (spSpoil c) := by
  obtain ⟨f, fd, F, m⟩ := F
  obtain ⟨fC, fdC, GC, mC, kC, bC⟩ := hC
  obtain ⟨fL, fdL, GL, mL, kL, bL⟩ := hL
  refine ⟨f, fd, ?_, m, F.kp, F.binds fun _ _ _ _ _ _ us hl => match us, hl with | [_, _, _], _ => rfl⟩
  refine F.ok sc_spoil (fun vs H Q E h => ?_) (fun cdv A outer s H vs Q E hr h => ?_)
  · obtain ⟨a, p, q, g, t, ns, rfl, _⟩ := h
    rfl
  · obtain ⟨a, p, q, g, t, ns, rfl, gA, hn, hp, hf, hq, hns, k⟩ := h
    have hr3 : Room 3 _ := hr.mono (by decide)
    refine ⟨_, pss_cons (ps_set (i := 3) sc_spoil.nd rfl (Or.inl rfl) (pe_call GC hr3 rfl mC kC bC .nil pass0 (pa_cons (pv 0) pa_nil)))
      (pss_cons (ps_set (i := 4) sc_spoil.nd rfl (Or.inl rfl) (pv 1))
      (pss_cons (ps_for PassesOwn.never rfl (pi_list (pv 2)) (pg_name (i := 5) sc_spoil.nd rfl (Or.inl rfl))
        (pss_cons (ps_expr (pe_call GL hr rfl mL kL bL .nil pass0 (pa_cons (pv 3) (pa_cons (pv 5) (pa_cons (pv 4) pa_nil)))))
        (pss_one (ps_aug (i := 4) sc_spoil.nd rfl (Or.inl rfl) pe_int ip_add))))
      (pss_one (ps_ret (pe_op op_sub (pe_fld (pv 3) rfl) (pe_fld (pv 0) rfl)))))), ?_⟩
    refine ⟨_, rfl, a, p, g, rfl, gA, hn, fun H1 b pb s1 nb npb gB => ⟨_, rfl, ?_⟩⟩
    refine ⟨_, rfl, q, rfl, ⟨_, SqL.of (s1 _ _ hq)⟩, for_list (K := K) (a := q) (xs := ns.map nv) (fun i σ H' => ∃ (v5 : Option V) (pb : Addr), σ = [some (.ref a), some (nv t), some (.ref q), some (.ref b), some (nv (t + i)), v5] ∧ Same H H' ∧ GoodAt c H' b pb (live g (ns.take i) t))
      ⟨none, pb, rfl, s1, gB⟩ (fun i σ H' _ ⟨_, _, _, s3, _⟩ => SqL.of (s3 _ _ hq)) ?_ ?_⟩
    · rintro i y σ H' hi ⟨v5, pb, rfl, s3, g3⟩
      obtain ⟨n, hn1, rfl⟩ := map_get hi
      have hi2 : i < ns.length := (List.getElem?_eq_some_iff.mp hn1).1
      have et : ns.take (i + 1) = ns.take i ++ [n] := take_succ hn1
      have el : (ns.take i).length = i := by rw [List.length_take]; omega
      refine ⟨_, rfl, _, rfl, _, rfl, b, pb, live g (ns.take i) t, n, t + i, rfl, g3, Nat.le_trans (live_few _ _ _) hn, live_pos _ _ _ hp, fun H4 pb' k4 np4 g4 => ?_⟩
      have ek : live g (ns.take (i + 1)) t = (live g (ns.take i) t).day n (t + i) := by rw [et, live_snoc, el]
      refine ⟨_, rfl, _, _, rfl, rfl, _, pb', rfl, ?_, ?_⟩
      · exact fun x o e => k4 _ _ (s3 _ _ e) fun z => ne_of_none e nb (List.mem_singleton.mp z)
      · rw [ek]; exact g4
    · rintro σ H' ⟨v5, pb, rfl, s3, g3⟩
      rw [List.length_map, List.take_length] at g3
      obtain ⟨db, hb⟩ := g3.obj
      obtain ⟨dg, og⟩ := gA.obj
      refine ⟨_, rfl, b, c.G, db, _, _, rfl, hb, T.G.cl, T.G.spoilt, rfl, _, rfl, a, c.G, dg, _, _, rfl, s3 _ _ og, T.G.cl, T.G.spoilt, rfl, _, _, rfl, rfl, ?_⟩
      have e : ((((live g ns t).spoilt : Nat) : Int) - ((g.spoilt : Nat) : Int)) = ((Km438.spoils (ns ++ [0]) t g.lots : Nat) : Int) := by
        rw [live_spoilt ns g t hf]; omega
      dsimp only
      rw [e]
      exact k H' s3
/-! ## sd_spoils -/
theorem sc_sspoils : FnScope ["voyage", "g", "good", "needs"] ["voyage", "g"] (defScope st_sd_spoils) := ⟨rfl, rfl, rfl, by decide +kernel, rfl, by decide +kernel, by decide +kernel⟩
theorem ok_sspoils (F : FnAt K mg "sd_spoils" st_sd_spoils) (T : Txt K mg c) (N : TxtN mg) (hH : Has P w K mg base 1 "has_good" ["voyage", "g"] (spHas c)) (hX : Has P w K mg base 1 "next_port" ["voyage"] (spNext c)) (hN : Has P w K mg base 1 "needs_by_day" ["voyage", "good", "first", "behind"] (spNeeds c)) (hS : Has P w K mg base 5 "spoils_in_days" ["good", "today", "needs"] (spSpoil c)) :
    Has P w K mg base 6 "sd_spoils" ["voyage", "g"] (spAsk c 1 fun l => .spoils (l.getD 0 0)) := by
  obtain ⟨f, fd, F, m⟩ := F
  obtain ⟨fH, fdH, GH, mH, kH, bH⟩ := hH
  obtain ⟨fX, fdX, GX, mX, kX, bX⟩ := hX
  obtain ⟨fN, fdN, GN, mN, kN, bN⟩ := hN
  obtain ⟨fS, fdS, GS, mS, kS, bS⟩ := hS
  refine ⟨f, fd, ?_, m, F.kp, F.binds fun _ _ _ _ _ _ us hl => match us, hl with | [_, _], _ => rfl⟩
  refine F.ok sc_sspoils (fun vs H Q E h => ?_) (fun cdv A outer s H vs Q E hr h => ?_)
  · obtain ⟨v, s, l, rfl, hl, _⟩ := h
    show (l.map nv).length + 1 = 2
    rw [List.length_map, hl]
  · obtain ⟨v, sh, l, rfl, hl, hb, hv, ok, k⟩ := h
    obtain ⟨g, rfl⟩ : ∃ g, l = [g] := match l, hl with | [g], _ => ⟨g, rfl⟩
    obtain ⟨pp, qq, gg, as, hvA⟩ := id hv
    obtain ⟨dv, ho⟩ := hvA.obj
    have hr1 : Room 1 _ := hr.mono (by decide)
    have l2 := ok.last2
    have t2 := ok.today
    refine ⟨_, pss_cons (ps_if (pt_not (pt_val (pe_call GH hr1 rfl mH kH bH .nil pass0 (pa_cons (pv 0) (pa_cons (pv 1) pa_nil))))) (pss_one (ps_ret (pe_lst (pa_cons (pe_num N.NOT_THERE (by rfl)) pa_nil)))) pss_nil)
      (pss_cons (ps_set (i := 2) sc_sspoils.nd rfl (Or.inl rfl) (pe_ix ix_list (pe_fld (pv 0) rfl) (pv 1) (fun _ _ => rfl)))
      (pss_cons (ps_set (i := 3) sc_sspoils.nd rfl (Or.inl rfl) (pe_call GN hr1 rfl mN kN bN .nil pass0 (pa_cons (pv 0) (pa_cons (pv 2) (pa_cons (pe_fld (pv 0) rfl) (pa_cons (pe_call GX hr1 rfl mX kX bX .nil pass0 (pa_cons (pv 0) pa_nil)) pa_nil))))))
      (pss_one (ps_ret (pe_lst (pa_cons (pe_call GS hr rfl mS kS bS .nil pass0 (pa_cons (pv 2) (pa_cons (pe_fld (pv 0) rfl) (pa_cons (pv 3) pa_nil)))) pa_nil)))))), ?_⟩
    refine ⟨_, rfl, _, rfl, v, sh, g, rfl, hv, _, rfl, ?_⟩
    by_cases hg : g < sh.goods.length
    · rw [decide_eq_true hg]
      obtain ⟨x, hx⟩ := good_there (s := sh) (g := g) (by omega)
      obtain ⟨ga, gp, hga, gA, hix⟩ := good_ix hvA hx
      have gok := ok.good hx
      have k := fun (H' : Hp) (r : Addr) s1 n1 (e1 : H' r = some (.lst ((ask sh (.spoils g)).map V.int))) => k H' r s1 n1 e1
      have hask : ask sh (.spoils g) = [((Km438.spoils (needsOf sh x.per sh.today sh.next ++ [0]) sh.today x.lots : Nat) : Int)] := by
        unfold ask
        simp only [Km438.act]
        rw [if_neg (by omega), needs_eq, good_at hx]; rfl
      rw [hask] at k
      refine ⟨_, rfl, v, c.V, dv, _, _, rfl, ho, T.V.cl, T.V.goods, rfl, _, rfl, gg, _, _, _, rfl, rfl, SqL.of hvA.gods, hix, ?_⟩
      refine ⟨_, rfl, _, rfl, _, rfl, v, c.V, dv, _, _, rfl, ho, T.V.cl, T.V.today, rfl, _, rfl, v, sh, rfl, hv, ok, v, ga, gp, sh, x, sh.today, sh.next, rfl, hv, ok, gA, next_le sh, by omega, fun H1 r s1 nr h1 => ?_⟩
      refine ⟨_, rfl, _, rfl, v, c.V, dv, _, _, rfl, s1 _ _ ho, T.V.cl, T.V.today, rfl, _, rfl, ga, gp, r, x, sh.today, needsOf sh x.per sh.today sh.next, rfl, gA.same s1, Nat.le_trans gok.few (by decide), gok.pos, gok.fresh, h1, ?_, fun H2 s2 => ?_⟩
      · rw [needsOf_length]
        have := next_le sh
        omega
      · exact list_fin k (s1.trans s2) (by show 1 ≤ 1000; decide)
    · rw [decide_eq_false hg]
      have hask : ask sh (.spoils g) = [-2] := by
        unfold ask
        simp only [Km438.act]
        rw [if_pos (by omega)]; rfl
      exact one_fin k hask
/-! ## sd_stock -/
theorem sc_stock : FnScope ["voyage", "g", "lots"] ["voyage", "g"] (defScope st_sd_stock) := ⟨rfl, rfl, rfl, by decide +kernel, rfl, by decide +kernel, by decide +kernel⟩
theorem ok_stock (F : FnAt K mg "sd_stock" st_sd_stock) (T : Txt K mg c) (N : TxtN mg) (hH : Has P w K mg base 1 "has_good" ["voyage", "g"] (spHas c)) (hU : Has P w K mg base 1 "units_in" ["lots"] (spUnits c)) :
    Has P w K mg base 2 "sd_stock" ["voyage", "g"] (spAsk c 1 fun l => .stock (l.getD 0 0)) := by
  obtain ⟨f, fd, F, m⟩ := F
  obtain ⟨fH, fdH, GH, mH, kH, bH⟩ := hH
  obtain ⟨fU, fdU, GU, mU, kU, bU⟩ := hU
  refine ⟨f, fd, ?_, m, F.kp, F.binds fun _ _ _ _ _ _ us hl => match us, hl with | [_, _], _ => rfl⟩
  refine F.ok sc_stock (fun vs H Q E h => ?_) (fun cdv A outer s H vs Q E hr h => ?_)
  · obtain ⟨v, s, l, rfl, hl, _⟩ := h
    show (l.map nv).length + 1 = 2
    rw [List.length_map, hl]
  · obtain ⟨v, sh, l, rfl, hl, hb, hv, ok, k⟩ := h
    obtain ⟨g, rfl⟩ : ∃ g, l = [g] := match l, hl with | [g], _ => ⟨g, rfl⟩
    obtain ⟨pp, qq, gg, as, hvA⟩ := id hv
    obtain ⟨dv, ho⟩ := hvA.obj
    refine ⟨_, pss_cons (ps_if (pt_not (pt_val (pe_call GH hr rfl mH kH bH .nil pass0 (pa_cons (pv 0) (pa_cons (pv 1) pa_nil))))) (pss_one (ps_ret (pe_lst (pa_cons (pe_num N.NOT_THERE (by rfl)) pa_nil)))) pss_nil)
      (pss_cons (ps_set (i := 2) sc_stock.nd rfl (Or.inl rfl) (pe_fld (pe_ix ix_list (pe_fld (pv 0) rfl) (pv 1) (fun _ _ => rfl)) rfl))
      (pss_one (ps_ret (pe_lst (pa_cons (pe_call GU hr rfl mU kU bU .nil pass0 (pa_cons (pv 2) pa_nil)) (pa_cons (pe_callB call_len_seq (by rfl) T.B.len PySem.boot_len (pa_cons (pv 2) pa_nil)) pa_nil)))))), ?_⟩
    refine ⟨_, rfl, _, rfl, v, sh, g, rfl, hv, _, rfl, ?_⟩
    by_cases hg : g < sh.goods.length
    · rw [decide_eq_true hg]
      obtain ⟨x, hx⟩ := good_there (s := sh) (g := g) (by omega)
      obtain ⟨ga, gp, hga, gA, hix⟩ := good_ix hvA hx
      have gok := ok.good hx
      obtain ⟨dg, og⟩ := gA.obj
      obtain ⟨bs, hbs, rr⟩ := id gA.lots
      have k := fun (H' : Hp) (r : Addr) s1 n1 (e1 : H' r = some (.lst ((ask sh (.stock g)).map V.int))) => k H' r s1 n1 e1
      have hask : ask sh (.stock g) = [((Km438.amount x.lots : Nat) : Int), ((x.lots.length : Nat) : Int)] := by
        unfold ask
        simp only [Km438.act]
        rw [if_neg (by omega), good_at hx]; rfl
      rw [hask] at k
      refine ⟨_, rfl, v, c.V, dv, _, _, rfl, ho, T.V.cl, T.V.goods, rfl, _, rfl, gg, _, _, _, rfl, rfl, SqL.of hvA.gods, hix, ga, c.G, dg, _, _, rfl, og, T.G.cl, T.G.lots, rfl, ?_⟩
      refine ⟨_, rfl, gp, x.lots, rfl, gA.lots, Nat.le_trans gok.few (by decide), fun H1 s1 => ⟨_, rfl, gp, _, rfl, .inl (SqL.of (s1 _ _ hbs)), ?_⟩⟩
      rw [List.length_map, Paired.len rr]
      exact list_fin k s1 (by show 2 ≤ 1000; decide)
    · rw [decide_eq_false hg]
      have hask : ask sh (.stock g) = [-2] := by
        unfold ask
        simp only [Km438.act]
        rw [if_pos (by omega)]; rfl
      exact one_fin k hask
/-! ## sd_lot -/
theorem sc_lot : FnScope ["voyage", "g", "i", "lots"] ["voyage", "g", "i"] (defScope st_sd_lot) := ⟨rfl, rfl, rfl, by decide +kernel, rfl, by decide +kernel, by decide +kernel⟩
theorem ok_lot (F : FnAt K mg "sd_lot" st_sd_lot) (T : Txt K mg c) (N : TxtN mg) (hH : Has P w K mg base 1 "has_good" ["voyage", "g"] (spHas c)) :
    Has P w K mg base 2 "sd_lot" ["voyage", "g", "i"] (spAsk c 2 fun l => .lot (l.getD 0 0) (l.getD 1 0)) := by
  obtain ⟨f, fd, F, m⟩ := F
  obtain ⟨fH, fdH, GH, mH, kH, bH⟩ := hH
  refine ⟨f, fd, ?_, m, F.kp, F.binds fun _ _ _ _ _ _ us hl => match us, hl with | [_, _, _], _ => rfl⟩
  refine F.ok sc_lot (fun vs H Q E h => ?_) (fun cdv A outer s H vs Q E hr h => ?_)
  · obtain ⟨v, s, l, rfl, hl, _⟩ := h
    show (l.map nv).length + 1 = 3
    rw [List.length_map, hl]
  · obtain ⟨v, sh, l, rfl, hl, hb, hv, ok, k⟩ := h
    obtain ⟨g, i, rfl⟩ : ∃ g i, l = [g, i] := match l, hl with | [g, i], _ => ⟨g, i, rfl⟩
    obtain ⟨pp, qq, gg, as, hvA⟩ := id hv
    obtain ⟨dv, ho⟩ := hvA.obj
    refine ⟨_, pss_cons (ps_if (pt_not (pt_val (pe_call GH hr rfl mH kH bH .nil pass0 (pa_cons (pv 0) (pa_cons (pv 1) pa_nil))))) (pss_one (ps_ret (pe_lst (pa_cons (pe_num N.NOT_THERE (by rfl)) pa_nil)))) pss_nil)
      (pss_cons (ps_set (i := 3) sc_lot.nd rfl (Or.inl rfl) (pe_fld (pe_ix ix_list (pe_fld (pv 0) rfl) (pv 1) (fun _ _ => rfl)) rfl))
      (pss_cons (ps_if (pt_cmpR op_ge (pv 2) (pe_callB call_len_seq (by rfl) T.B.len PySem.boot_len (pa_cons (pv 3) pa_nil)) (nomark _)) (pss_one (ps_ret (pe_lst (pa_cons (pe_num N.NO_LOT (by rfl)) pa_nil)))) pss_nil)
      (pss_one (ps_ret (pe_lst (pa_cons (pe_fld (pe_ix ix_list (pv 3) (pv 2) (fun _ _ => rfl)) rfl) (pa_cons (pe_fld (pe_ix ix_list (pv 3) (pv 2) (fun _ _ => rfl)) rfl) pa_nil))))))), ?_⟩
    refine ⟨_, rfl, _, rfl, v, sh, g, rfl, hv, _, rfl, ?_⟩
    by_cases hg : g < sh.goods.length
    · rw [decide_eq_true hg]
      obtain ⟨x, hx⟩ := good_there (s := sh) (g := g) (by omega)
      obtain ⟨ga, gp, hga, gA, hix⟩ := good_ix hvA hx
      obtain ⟨dg, og⟩ := gA.obj
      obtain ⟨bs, hbs, rr⟩ := id gA.lots
      have k := fun (H' : Hp) (r : Addr) s1 n1 (e1 : H' r = some (.lst ((ask sh (.lot g i)).map V.int))) => k H' r s1 n1 e1
      refine ⟨_, rfl, v, c.V, dv, _, _, rfl, ho, T.V.cl, T.V.goods, rfl, _, rfl, gg, _, _, _, rfl, rfl, SqL.of hvA.gods, hix, ga, c.G, dg, _, _, rfl, og, T.G.cl, T.G.lots, rfl, ?_⟩
      refine ⟨_, rfl, _, rfl, gp, _, rfl, .inl (SqL.of hbs), _, _, rfl, rfl, _, rfl, ?_⟩
      have e2 : decide ((((bs.map V.ref).length : Nat) : Int) ≤ ((i : Nat) : Int)) = decide (x.lots.length ≤ i) := by
        rw [List.length_map, Paired.len rr]
        exact decide_eq_decide.mpr (by omega)
      dsimp only
      rw [e2]
      by_cases h2 : x.lots.length ≤ i
      · rw [decide_eq_true h2]
        have e3 : x.lots[i]? = none := List.getElem?_eq_none h2
        exact one_fin k (by unfold ask; simp only [Km438.act, hx, e3]; rfl)
      · rw [decide_eq_false h2]
        have e3 : x.lots[i]? = some x.lots[i] := List.getElem?_eq_getElem (by omega)
        generalize x.lots[i] = y at e3
        obtain ⟨b, hbb, dx, hbx⟩ := Paired.get1 rr e3
        have hat : atI (bs.map V.ref) (i : Int) = some (.ref b) := atI_nat (by rw [List.getElem?_map, hbb]; rfl)
        have hask : ask sh (.lot g i) = [((y.2 : Nat) : Int), ((y.1 : Nat) : Int)] := by
          unfold ask
          simp only [Km438.act, hx, e3]; rfl
        rw [hask] at k
        refine ⟨_, rfl, _, rfl, gp, _, _, _, rfl, rfl, SqL.of hbs, hat, b, c.L, dx, _, _, rfl, hbx, T.L.cl, T.L.amount, rfl, _, rfl, _, rfl, gp, _, _, _, rfl, rfl, SqL.of hbs, hat, b, c.L, dx, _, _, rfl, hbx, T.L.cl, T.L.until_, rfl, ?_⟩
        exact list_fin k (Same.refl _) (by show 2 ≤ 1000; decide)
    · rw [decide_eq_false hg]
      have e : sh.goods[g]? = none := List.getElem?_eq_none (by omega)
      exact one_fin k (by unfold ask; simp only [Km438.act, List.getD_cons_zero, e]; rfl)
/-! ## sd_look -/
theorem sc_look : FnScope ["voyage", "g"] ["voyage", "g"] (defScope st_sd_look) := ⟨rfl, rfl, rfl, by decide +kernel, rfl, by decide +kernel, by decide +kernel⟩
theorem ok_look (F : FnAt K mg "sd_look" st_sd_look) (T : Txt K mg c) (N : TxtN mg) (hH : Has P w K mg base 1 "has_good" ["voyage", "g"] (spHas c)) :
    Has P w K mg base 2 "sd_look" ["voyage", "g"] (spAsk c 1 fun l => .look (l.getD 0 0)) := by
  obtain ⟨f, fd, F, m⟩ := F
  obtain ⟨fH, fdH, GH, mH, kH, bH⟩ := hH
  refine ⟨f, fd, ?_, m, F.kp, F.binds fun _ _ _ _ _ _ us hl => match us, hl with | [_, _], _ => rfl⟩
  refine F.ok sc_look (fun vs H Q E h => ?_) (fun cdv A outer s H vs Q E hr h => ?_)
  · obtain ⟨v, s, l, rfl, hl, _⟩ := h
    show (l.map nv).length + 1 = 2
    rw [List.length_map, hl]
  · obtain ⟨v, sh, l, rfl, hl, hb, hv, ok, k⟩ := h
    obtain ⟨g, rfl⟩ : ∃ g, l = [g] := match l, hl with | [g], _ => ⟨g, rfl⟩
    obtain ⟨pp, qq, gg, as, hvA⟩ := id hv
    obtain ⟨dv, ho⟩ := hvA.obj
    refine ⟨_, pss_cons (ps_if (pt_not (pt_val (pe_call GH hr rfl mH kH bH .nil pass0 (pa_cons (pv 0) (pa_cons (pv 1) pa_nil))))) (pss_one (ps_ret (pe_lst (pa_cons (pe_num N.NOT_THERE (by rfl)) pa_nil)))) pss_nil)
      (pss_one (ps_ret (pe_lst (pa_cons (pe_fld (pe_ix ix_list (pe_fld (pv 0) rfl) (pv 1) (fun _ _ => rfl)) rfl) (pa_cons (pe_fld (pe_ix ix_list (pe_fld (pv 0) rfl) (pv 1) (fun _ _ => rfl)) rfl) pa_nil))))), ?_⟩
    refine ⟨_, rfl, _, rfl, v, sh, g, rfl, hv, _, rfl, ?_⟩
    by_cases hg : g < sh.goods.length
    · rw [decide_eq_true hg]
      obtain ⟨x, hx⟩ := good_there (s := sh) (g := g) (by omega)
      obtain ⟨ga, gp, hga, gA, hix⟩ := good_ix hvA hx
      obtain ⟨dg, og⟩ := gA.obj
      have k := fun (H' : Hp) (r : Addr) s1 n1 (e1 : H' r = some (.lst ((ask sh (.look g)).map V.int))) => k H' r s1 n1 e1
      have hask : ask sh (.look g) = [((x.per : Nat) : Int), ((x.life : Nat) : Int)] := by
        unfold ask
        simp only [Km438.act, hx]; rfl
      rw [hask] at k
      refine ⟨_, rfl, v, c.V, dv, _, _, rfl, ho, T.V.cl, T.V.goods, rfl, _, rfl, gg, _, _, _, rfl, rfl, SqL.of hvA.gods, hix, ga, c.G, dg, _, _, rfl, og, T.G.cl, T.G.per, rfl, ?_⟩
      refine ⟨_, rfl, v, c.V, dv, _, _, rfl, ho, T.V.cl, T.V.goods, rfl, _, rfl, gg, _, _, _, rfl, rfl, SqL.of hvA.gods, hix, ga, c.G, dg, _, _, rfl, og, T.G.cl, T.G.life, rfl, ?_⟩
      exact list_fin k (Same.refl _) (by show 2 ≤ 1000; decide)
    · rw [decide_eq_false hg]
      have e : sh.goods[g]? = none := List.getElem?_eq_none (by omega)
      exact one_fin k (by unfold ask; simp only [Km438.act, List.getD_cons_zero, e]; rfl)
/-! ## sd_sums -/
theorem sc_sums : FnScope ["voyage", "g", "good"] ["voyage", "g"] (defScope st_sd_sums) := ⟨rfl, rfl, rfl, by decide +kernel, rfl, by decide +kernel, by decide +kernel⟩
theorem ok_sums (F : FnAt K mg "sd_sums" st_sd_sums) (T : Txt K mg c) (N : TxtN mg) (hH : Has P w K mg base 1 "has_good" ["voyage", "g"] (spHas c)) (hU : Has P w K mg base 1 "units_in" ["lots"] (spUnits c)) :
    Has P w K mg base 2 "sd_sums" ["voyage", "g"] (spAsk c 1 fun l => .sums (l.getD 0 0)) := by
  obtain ⟨f, fd, F, m⟩ := F
  obtain ⟨fH, fdH, GH, mH, kH, bH⟩ := hH
  obtain ⟨fU, fdU, GU, mU, kU, bU⟩ := hU
  refine ⟨f, fd, ?_, m, F.kp, F.binds fun _ _ _ _ _ _ us hl => match us, hl with | [_, _], _ => rfl⟩
  refine F.ok sc_sums (fun vs H Q E h => ?_) (fun cdv A outer s H vs Q E hr h => ?_)
  · obtain ⟨v, s, l, rfl, hl, _⟩ := h
    show (l.map nv).length + 1 = 2
    rw [List.length_map, hl]
  · obtain ⟨v, sh, l, rfl, hl, hb, hv, ok, k⟩ := h
    obtain ⟨g, rfl⟩ : ∃ g, l = [g] := match l, hl with | [g], _ => ⟨g, rfl⟩
    obtain ⟨pp, qq, gg, as, hvA⟩ := id hv
    obtain ⟨dv, ho⟩ := hvA.obj
    refine ⟨_, pss_cons (ps_if (pt_not (pt_val (pe_call GH hr rfl mH kH bH .nil pass0 (pa_cons (pv 0) (pa_cons (pv 1) pa_nil))))) (pss_one (ps_ret (pe_lst (pa_cons (pe_num N.NOT_THERE (by rfl)) pa_nil)))) pss_nil)
      (pss_cons (ps_set (i := 2) sc_sums.nd rfl (Or.inl rfl) (pe_ix ix_list (pe_fld (pv 0) rfl) (pv 1) (fun _ _ => rfl)))
      (pss_one (ps_ret (pe_lst (pa_cons (pe_fld (pv 2) rfl) (pa_cons (pe_call GU hr rfl mU kU bU .nil pass0 (pa_cons (pe_fld (pv 2) rfl) pa_nil)) (pa_cons (pe_fld (pv 2) rfl) (pa_cons (pe_fld (pv 2) rfl) (pa_cons (pe_fld (pv 2) rfl) (pa_cons (pe_fld (pv 2) rfl) pa_nil)))))))))), ?_⟩
    refine ⟨_, rfl, _, rfl, v, sh, g, rfl, hv, _, rfl, ?_⟩
    by_cases hg : g < sh.goods.length
    · rw [decide_eq_true hg]
      obtain ⟨x, hx⟩ := good_there (s := sh) (g := g) (by omega)
      obtain ⟨ga, gp, hga, gA, hix⟩ := good_ix hvA hx
      have gok := ok.good hx
      obtain ⟨dg, og⟩ := gA.obj
      have k := fun (H' : Hp) (r : Addr) s1 n1 (e1 : H' r = some (.lst ((ask sh (.sums g)).map V.int))) => k H' r s1 n1 e1
      have hask : ask sh (.sums g) = [((x.loaded : Nat) : Int), ((Km438.amount x.lots : Nat) : Int), ((x.eaten : Nat) : Int), ((x.spoilt : Nat) : Int), ((x.given : Nat) : Int), ((x.lacked : Nat) : Int)] := by
        unfold ask
        simp only [Km438.act, hx]; rfl
      rw [hask] at k
      refine ⟨_, rfl, v, c.V, dv, _, _, rfl, ho, T.V.cl, T.V.goods, rfl, _, rfl, gg, _, _, _, rfl, rfl, SqL.of hvA.gods, hix, ?_⟩
      refine ⟨_, rfl, ga, c.G, dg, _, _, rfl, og, T.G.cl, T.G.loaded, rfl, _, rfl, ga, c.G, dg, _, _, rfl, og, T.G.cl, T.G.lots, rfl, gp, x.lots, rfl, gA.lots, Nat.le_trans gok.few (by decide), fun H1 s1 => ?_⟩
      have o1 := s1 _ _ og
      refine ⟨_, rfl, ga, c.G, dg, _, _, rfl, o1, T.G.cl, T.G.eaten, rfl, _, rfl, ga, c.G, dg, _, _, rfl, o1, T.G.cl, T.G.spoilt, rfl, _, rfl, ga, c.G, dg, _, _, rfl, o1, T.G.cl, T.G.given, rfl, _, rfl, ga, c.G, dg, _, _, rfl, o1, T.G.cl, T.G.lacked, rfl, ?_⟩
      exact list_fin k s1 (by show 6 ≤ 1000; decide)
    · rw [decide_eq_false hg]
      have e : sh.goods[g]? = none := List.getElem?_eq_none (by omega)
      exact one_fin k (by unfold ask; simp only [Km438.act, List.getD_cons_zero, e]; rfl)
end
end Sd

end
section
set_option Elab.async false
set_option linter.all false
set_option maxRecDepth 100000
set_option maxHeartbeats 2000000
namespace L2
open PySem PySem.Spec PyProof.Rows
/-! ### xs.count(y), flat items -/
theorem count_eqU {x : V} : ∀ {xs : List V} {us : List Value}, Vals xs us → xs.all flatV = true → us.countP (eqU x) = xs.countP fun y => eqV y x
  | _, _, .nil, _ => rfl
  | y :: xs, u :: us, .cons r t, f => by
    rw [List.all_cons, Bool.and_eq_true] at f
    rw [List.countP_cons, List.countP_cons, eqU_of r f.1, count_eqU t f.2]
def rCount (K : PySem.W.Frag) : V → List V → Hp → VK → Prop := fun x xs H Q => ∃ (a : Addr) (ys : List V) (y : V), x = V.ref a ∧ xs = [y] ∧ SqL K H a ys ∧ flatV y = true ∧ ys.all flatV = true ∧ Q (.int ((ys.countP fun z => eqV z y : Nat) : Int)) H
theorem mt_countL {X : Cx} : MtR X "list.count" (rCount X.K) := by
  intro pins s σ H x xs v us Q I rx rxs h
  obtain ⟨a, ys, y, rfl, rfl, hs, fy, fys, q⟩ := h
  cases rx
  cases rxs with
  | cons ry rt =>
    rename_i uy ut
    cases rt
    obtain ⟨its, rv, ⟨⟨cls, dd, data, sl⟩, n, ho, hc, hdn, hd⟩, hlen⟩ := I.list hs
    simp only at hc hd
    subst hc hd
    refine call_meets PySem.F.slot_list_count ⟨_, ho, rfl⟩ PySem.F.entry_list_count (PySem.F.args_list_count_2 _ _)
      (SeqAt.list_countAt a its.toArray n dd sl uy (eqU y)) ⟨ho, fun u' hu' => mem_eqAt ry fy rv fys u' (by simpa using hu'), ?_⟩
    refine ⟨.int _, H, I.tok _, ⟨_, rfl⟩, ?_⟩
    rw [show its.toArray.toList = its by simp, count_eqU rv fys]
    exact q
end L2
namespace Sd
open PySem PySem.Spec PyProof.Rows L2
open Km438 (Good Ship Desk Lots)
section
variable {P : Program} {w : World} {K : PySem.W.Frag} {mg : Str → Option Value} {base : Heap} {c : Cl}
/-! ## sd_who -/
theorem sc_who : FnScope ["voyage", "day"] ["voyage", "day"] (defScope st_sd_who) := ⟨rfl, rfl, rfl, by decide +kernel, rfl, by decide +kernel, by decide +kernel⟩
theorem ok_who (F : FnAt K mg "sd_who" st_sd_who) (T : Txt K mg c) (N : TxtN mg) : Has P w K mg base 1 "sd_who" ["voyage", "day"] (spAsk c 1 fun l => .who (l.getD 0 0)) := by
  obtain ⟨f, fd, F, m⟩ := F
  refine ⟨f, fd, ?_, m, F.kp, F.binds fun _ _ _ _ _ _ us hl => match us, hl with | [_, _], _ => rfl⟩
  refine F.ok sc_who (fun vs H Q E h => ?_) (fun cdv A outer s H vs Q E hr h => ?_)
  · obtain ⟨v, s, l, rfl, hl, _⟩ := h
    show (l.map nv).length + 1 = 2
    rw [List.length_map, hl]
  · obtain ⟨v, sh, l, rfl, hl, hb, hv, ok, k⟩ := h
    obtain ⟨t, rfl⟩ : ∃ t, l = [t] := match l, hl with | [t], _ => ⟨t, rfl⟩
    obtain ⟨pp, qq, gg, as, hvA⟩ := id hv
    obtain ⟨dv, ho⟩ := hvA.obj
    refine ⟨_, pss_cons (ps_if (pt_cmpR op_gt (pv 1) (pe_fld (pv 0) rfl) (nomark _)) (pss_one (ps_ret (pe_lst (pa_cons (pe_num N.NOT_AS_TOLD (by rfl)) pa_nil)))) pss_nil)
      (pss_one (ps_ret (pe_lst (pa_cons (pe_ix ix_list (pe_fld (pv 0) rfl) (pv 1) (fun _ _ => rfl)) (pa_cons (pe_ix ix_list (pe_fld (pv 0) rfl) (pv 1) (fun _ _ => rfl)) pa_nil))))), ?_⟩
    have k := fun (H' : Hp) (r : Addr) s1 n1 (e1 : H' r = some (.lst ((ask sh (.who t)).map V.int))) => k H' r s1 n1 e1
    have hask : ask sh (.who t) = if sh.last < t then [-22] else [((sh.persons.getD t 0 : Nat) : Int), ((Km438.bit (sh.ports.contains t) : Nat) : Int)] := by
      unfold ask
      simp only [Km438.act]
      by_cases z : sh.last < t
      · rw [if_pos z, if_pos z]; rfl
      · rw [if_neg z, if_neg z]; rfl
    rw [hask] at k
    refine ⟨_, rfl, _, rfl, v, c.V, dv, _, _, rfl, ho, T.V.cl, T.V.last, rfl, _, _, rfl, rfl, _, rfl, ?_⟩
    dsimp only
    rw [dec_lt]
    by_cases h1 : sh.last < t
    · rw [decide_eq_true h1]
      exact one_fin k (if_pos h1)
    · rw [decide_eq_false h1]
      rw [if_neg h1] at k
      have hlt : t < sh.persons.length := by rw [ok.plen]; omega
      have hat : sh.persons[t]? = some (sh.persons.getD t 0) := by rw [List.getD_eq_getElem?_getD, List.getElem?_eq_getElem hlt]; rfl
      refine ⟨_, rfl, v, c.V, dv, _, _, rfl, ho, T.V.cl, T.V.persons, rfl, _, rfl, pp, _, _, _, rfl, rfl, SqL.of hvA.pers, atI_nat (v := nv (sh.persons.getD t 0)) (by rw [List.getElem?_map, hat]; rfl),
        _, rfl, v, c.V, dv, _, _, rfl, ho, T.V.cl, T.V.ports, rfl, _, rfl, qq, _, _, _, rfl, rfl, SqL.of hvA.port, atI_nat (v := nv (Km438.bit (sh.ports.contains t))) (by rw [List.getElem?_map, signs_at sh (by omega)]; rfl), ?_⟩
      exact list_fin k (Same.refl _) (by show 2 ≤ 1000; decide)
/-! ## sd_next -/
theorem sc_snext : FnScope ["voyage"] ["voyage"] (defScope st_sd_next) := ⟨rfl, rfl, rfl, by decide +kernel, rfl, by decide +kernel, by decide +kernel⟩
theorem ok_snext (F : FnAt K mg "sd_next" st_sd_next) (T : Txt K mg c) (hX : Has P w K mg base 1 "next_port" ["voyage"] (spNext c)) (hS : Has P w K mg base 1 "port_sign" ["voyage"] (spSign c)) :
    Has P w K mg base 2 "sd_next" ["voyage"] (spAsk c 0 fun _ => .next) := by
  obtain ⟨f, fd, F, m⟩ := F
  obtain ⟨fX, fdX, GX, mX, kX, bX⟩ := hX
  obtain ⟨fS, fdS, GS, mS, kS, bS⟩ := hS
  refine ⟨f, fd, ?_, m, F.kp, F.binds fun _ _ _ _ _ _ us hl => match us, hl with | [_], _ => rfl⟩
  refine F.ok sc_snext (fun vs H Q E h => ?_) (fun cdv A outer s H vs Q E hr h => ?_)
  · obtain ⟨v, s, l, rfl, hl, _⟩ := h
    show (l.map nv).length + 1 = 1
    rw [List.length_map, hl]
  · obtain ⟨v, sh, l, rfl, hl, hb, hv, ok, k⟩ := h
    obtain rfl : l = [] := match l, hl with | [], _ => rfl
    obtain ⟨pp, qq, gg, as, hvA⟩ := id hv
    obtain ⟨dv, ho⟩ := hvA.obj
    refine ⟨_, pss_one (ps_ret (pe_lst (pa_cons (pe_call GX hr rfl mX kX bX .nil pass0 (pa_cons (pv 0) pa_nil)) (pa_cons (pe_fld (pv 0) rfl) (pa_cons (pe_call GS hr rfl mS kS bS .nil pass0 (pa_cons (pv 0) pa_nil)) pa_nil))))), ?_⟩
    have k := fun (H' : Hp) (r : Addr) s1 n1 (e1 : H' r = some (.lst ((ask sh .next).map V.int))) => k H' r s1 n1 e1
    have hask : ask sh .next = [((sh.next : Nat) : Int), ((sh.today : Nat) : Int), ((Km438.bit (sh.ports.contains sh.today) : Nat) : Int)] := rfl
    rw [hask] at k
    refine ⟨_, rfl, v, sh, rfl, hv, ok, _, rfl, v, c.V, dv, _, _, rfl, ho, T.V.cl, T.V.today, rfl, _, rfl, v, sh, rfl, hv, ok, ?_⟩
    exact list_fin k (Same.refl _) (by show 3 ≤ 1000; decide)
/-! ## sd_room -/
theorem sc_sroom : FnScope ["voyage"] ["voyage"] (defScope st_sd_room) := ⟨rfl, rfl, rfl, by decide +kernel, rfl, by decide +kernel, by decide +kernel⟩
theorem ok_sroom (F : FnAt K mg "sd_room" st_sd_room) (T : Txt K mg c) (hR : Has P w K mg base 3 "room_left" ["voyage"] (spRoom c)) (hA : Has P w K mg base 2 "units_aboard" ["voyage"] (spAboard c)) :
    Has P w K mg base 4 "sd_room" ["voyage"] (spAsk c 0 fun _ => .room) := by
  obtain ⟨f, fd, F, m⟩ := F
  obtain ⟨fR, fdR, GR, mR, kR, bR⟩ := hR
  obtain ⟨fA, fdA, GA, mA, kA, bA⟩ := hA
  refine ⟨f, fd, ?_, m, F.kp, F.binds fun _ _ _ _ _ _ us hl => match us, hl with | [_], _ => rfl⟩
  refine F.ok sc_sroom (fun vs H Q E h => ?_) (fun cdv A outer s H vs Q E hr h => ?_)
  · obtain ⟨v, s, l, rfl, hl, _⟩ := h
    show (l.map nv).length + 1 = 1
    rw [List.length_map, hl]
  · obtain ⟨v, sh, l, rfl, hl, hb, hv, ok, k⟩ := h
    obtain rfl : l = [] := match l, hl with | [], _ => rfl
    have hr2 : Room 2 _ := hr.mono (by decide)
    refine ⟨_, pss_one (ps_ret (pe_lst (pa_cons (pe_call GR hr rfl mR kR bR .nil pass0 (pa_cons (pv 0) pa_nil)) (pa_cons (pe_call GA hr2 rfl mA kA bA .nil pass0 (pa_cons (pv 0) pa_nil)) pa_nil)))), ?_⟩
    have k := fun (H' : Hp) (r : Addr) s1 n1 (e1 : H' r = some (.lst ((ask sh .room).map V.int))) => k H' r s1 n1 e1
    have hfull := ok.full
    have hask : ask sh .room = [((sh.room : Nat) : Int) - ((sh.full : Nat) : Int), ((sh.full : Nat) : Int)] := by
      show [((sh.room - sh.full : Nat) : Int), ((sh.full : Nat) : Int)] = _
      congr 1; omega
    rw [hask] at k
    refine ⟨_, rfl, v, sh, rfl, hv, ok, fun H1 s1 => ⟨_, rfl, v, sh, rfl, hv.same s1, ok, fun H2 s2 => ?_⟩⟩
    exact list_fin k (s1.trans s2) (by show 2 ≤ 1000; decide)
/-! ## sd_short -/
theorem count_true (l : List Bool) : (l.map V.bl).countP (fun z => eqV z (.bl true)) = (l.filter id).length := by
  induction l with
  | nil => rfl
  | cons b l ih =>
    rw [List.map_cons, List.countP_cons, ih, List.filter_cons]
    cases b <;> rfl
theorem filter_map_id {α : Type} (f : α → Bool) : ∀ l : List α, ((l.map f).filter id).length = (l.filter f).length
  | [] => rfl
  | a :: l => by
    rw [List.map_cons, List.filter_cons, List.filter_cons]
    cases e : f a
    · exact filter_map_id f l
    · exact congrArg (· + 1) (filter_map_id f l)
theorem all_flat (l : List Bool) : (l.map V.bl).all flatV = true := by
  induction l with
  | nil => rfl
  | cons b l ih => rw [List.map_cons, List.all_cons, ih]; rfl
theorem sc_short : FnScope ["voyage", "port", "short", "good"] ["voyage"] (defScope st_sd_short) := ⟨rfl, rfl, rfl, by decide +kernel, rfl, by decide +kernel, by decide +kernel⟩
theorem ok_short (F : FnAt K mg "sd_short" st_sd_short) (T : Txt K mg c) (hX : Has P w K mg base 1 "next_port" ["voyage"] (spNext c)) (hU : Has P w K mg base 6 "lacks_up_to" ["voyage", "good", "behind"] (spUp c)) (hI : Has P w K mg base 1 "bits_of" ["signs"] spBits) :
    Has P w K mg base 7 "sd_short" ["voyage"] (spAsk c 0 fun _ => .short) := by
  obtain ⟨f, fd, F, m⟩ := F
  obtain ⟨fX, fdX, GX, mX, kX, bX⟩ := hX
  obtain ⟨fU, fdU, GU, mU, kU, bU⟩ := hU
  obtain ⟨fI, fdI, GI, mI, kI, bI⟩ := hI
  refine ⟨f, fd, ?_, m, F.kp, F.binds fun _ _ _ _ _ _ us hl => match us, hl with | [_], _ => rfl⟩
  refine F.ok sc_short (fun vs H Q E h => ?_) (fun cdv A outer s H vs Q E hr h => ?_)
  · obtain ⟨v, s, l, rfl, hl, _⟩ := h
    show (l.map nv).length + 1 = 1
    rw [List.length_map, hl]
  · obtain ⟨v, sh, l, rfl, hl, hb, hv, ok, k⟩ := h
    obtain rfl : l = [] := match l, hl with | [], _ => rfl
    obtain ⟨pp, qq, gg, as, hvA⟩ := id hv
    obtain ⟨dv, ho⟩ := hvA.obj
    have hr1 : Room 1 _ := hr.mono (by decide)
    refine ⟨_, pss_cons (ps_set (i := 1) sc_short.nd rfl (Or.inr rfl) (pe_call GX hr1 rfl mX kX bX .nil pass0 (pa_cons (pv 0) pa_nil)))
      (pss_cons (ps_setLc (i := 2) (te := tCB (rAnyI K) (tCons (tCall (spUp c) [] E0 (tCons (tVar 0) (tCons (tVar 3) (tCons (tVar 1) tNil)))) tNil)) rfl sc_short.nd rfl rfl (sw_true rfl rfl rfl (by kernel_rfl)) (pi_list (pe_fld (pv 0) rfl)) (blkOk_by (own := [("good", 3)]) (by kernel_rfl))
        (fun _ _ _ _ _ => pg_name (i := 3) sc_short.nd rfl (Or.inl rfl)) (fun _ _ _ _ _ => pts_nil) (fun _ _ _ _ _ => by exact pe_callB (cr_anyI rfl) (by rfl) T.B.any boot_any (pa_cons (pe_call GU hr rfl mU kU bU .nil pass0 (pa_cons (pv 0) (pa_cons (pv 3) (pa_cons (pv 1) pa_nil)))) pa_nil)))
      (pss_one (ps_ret (pe_lst (pa_cons (pe_bm PySem.F.plainAttrs_list PySem.F.slot_list_count PySem.F.type_list_count mt_countL (pv 2) (pa_cons pe_bl pa_nil)) (pa_cons (pe_call GI hr1 rfl mI kI bI .nil pass0 (pa_cons (pv 2) pa_nil)) pa_nil)))))), ?_⟩
    have k := fun (H' : Hp) (r : Addr) s1 n1 (e1 : H' r = some (.lst ((ask sh .short).map V.int))) => k H' r s1 n1 e1
    let fl : Nat → Bool := fun g => !(sh.enough g 0)
    have hask : ask sh .short = [((((List.range sh.goods.length).filter fl).length : Nat) : Int), ((Km438.bits ((List.range sh.goods.length).filter fl) : Nat) : Int)] := rfl
    rw [hask] at k
    refine ⟨_, rfl, v, sh, rfl, hv, ok, ?_⟩
    refine ⟨_, rfl, v, c.V, dv, _, _, rfl, ho, T.V.cl, T.V.goods, rfl, gg, rfl, ⟨_, SqL.of hvA.gods⟩, fun D hD => lc_list (K := K) (xs := as.map fun x => V.ref x.1)
      (fun i H' => Same H H' ∧ H' D = some (.lst (((List.range i).map fl).map V.bl))) ⟨Same.upd _ hD, upd_same⟩ (fun i H' _ ⟨s1, _⟩ => SqL.of (s1 _ _ hvA.gods)) ?_ ?_⟩
    · rintro i y H' hi ⟨s1, h1⟩
      obtain ⟨x, hx, rfl⟩ := map_get hi
      obtain ⟨g, hg, gA⟩ := Paired.get2 hvA.good hx
      have gok := ok.good hg
      have hi2 : i < sh.goods.length := (List.getElem?_eq_some_iff.mp hg).1
      have hgl := ok.glen
      refine ⟨rfl, _, rfl, _, rfl, _, rfl, v, x.1, x.2, sh, g, sh.next, rfl, hv.same s1, ok, gA.same s1, Nat.le_trans gok.few (by decide), gok.pos, next_le sh, fun H2 r s2 nr h2 => ?_⟩
      have e0 : g.with_ sh.today 0 = g.lots := by
        unfold Km438.Good.with_
        rw [if_pos rfl]
      have e1 : fl i = !zeros (lacks (needsOf sh g.per sh.today sh.next) sh.today g.lots) := by
        show (!(sh.enough i 0)) = _
        rw [enough_eq ok hg, e0]
      generalize lacks (needsOf sh g.per sh.today sh.next) sh.today g.lots = ks at h2 e1
      refine ⟨r, ks.map fun (y : Nat) => (y : Int), rfl, SqL.of (by rw [List.map_map]; exact h2), _, s2 _ _ h1, ?_, Same.put _ (s1.trans s2) hD, ?_⟩
      · rw [List.length_map, List.length_map, List.length_range]
        exact line_of (by omega)
      · rw [any_zeros, upd_same, List.range_succ, List.map_append, List.map_append, ← e1]; rfl
    rintro H1 ⟨s1, h1⟩
    rw [List.length_map, Paired.len hvA.good] at h1
    have hgl := ok.glen
    refine ⟨_, rfl, .inl ⟨rfl, _, SqL.of h1⟩, D, _, _, rfl, rfl, SqL.of h1, rfl, all_flat _, ?_⟩
    rw [count_true, filter_map_id]
    refine ⟨_, rfl, D, _, rfl, h1, (by rw [List.length_map, List.length_range]; omega), ?_⟩
    rw [bitsFrom_range]
    exact list_fin k s1 (by show 2 ≤ 1000; decide)
end
end Sd

end
section
set_option Elab.async false
set_option linter.all false
set_option maxRecDepth 100000
set_option maxHeartbeats 2000000
namespace Sd
open PySem PySem.Spec PyProof.Rows L2
open Km438 (Good Ship Desk Lots)
section
variable {P : Program} {w : World} {K : PySem.W.Frag} {mg : Str → Option Value} {base : Heap} {c : Cl}
/-- a change's promise -/
def spAct (c : Cl) (n : Nat) (x : List Nat → Km438.Call) : Sp := fun vs H Q _ => ∃ (a : Addr) (d : Desk) (l : List Nat), vs = .ref a :: l.map nv ∧ l.length = n ∧ (∀ y ∈ l, y ≤ 4294967295) ∧ DeskAt c H a d ∧ DeskOk d ∧
  ∀ (H' : Hp) (r : Addr), DeskAt c H' a (Km438.act d (x l)).1 → Kp [a] H H' → H r = none → H' r = some (.lst ((Km438Neutral.told (Km438.act d (x l)).2).map V.int)) → Q (.ref r) H'
theorem DeskAt.same {H H' : Hp} {a : Addr} {d : Desk} (s : Same H H') (h : DeskAt c H a d) : DeskAt c H' a d := by
  obtain ⟨da, v, pl, ul, vs, us, h1, h2, h3, n, h4, h5, h6⟩ := h
  exact ⟨da, v, pl, ul, vs, us, s _ _ h1, s _ _ h2, s _ _ h3, n, h4.same (hid_same s), Paired.mono h5 fun x y q => q.same (hid_same s), Paired.mono h6 fun x y q => q.same (hid_same s)⟩
/-- a change is refused -/
theorem ref_fin {H H1 : Hp} {Q : VK} {a : Addr} {d : Desk} {x : Km438.Call} {z : Int} (k : ∀ (H' : Hp) (r : Addr), DeskAt c H' a (Km438.act d x).1 → Kp [a] H H' → H r = none → H' r = some (.lst ((Km438Neutral.told (Km438.act d x).2).map V.int)) → Q (.ref r) H')
    (hd : DeskAt c H a d) (s1 : Same H H1) (e : Km438.act d x = (d, Km438.only z)) : 1 ≤ sizeLine ∧ ∀ r, H1 r = none → Q (.ref r) (L2.upd H1 r (.lst [V.int z])) := by
  rw [e] at k
  exact ⟨by decide, fun r nr => k _ r (hd.same (s1.trans (Same.upd _ nr))) (Kp.same (s1.trans (Same.upd _ nr)) [a]) (s1.free nr) upd_same⟩
/-- a change is made: the answer's list -/
theorem act_fin {H H1 : Hp} {Q : VK} {a : Addr} {d : Desk} {x : Km438.Call} {l : List Int} (k : ∀ (H' : Hp) (r : Addr), DeskAt c H' a (Km438.act d x).1 → Kp [a] H H' → H r = none → H' r = some (.lst ((Km438Neutral.told (Km438.act d x).2).map V.int)) → Q (.ref r) H')
    {s' : Ship} (e1 : (Km438.act d x).1 = d.become s') (e2 : Km438Neutral.told (Km438.act d x).2 = l) (hd : DeskAt c H1 a (d.become s')) (k1 : Kp [a] H H1) (ha : ∃ o, H1 a = some o) (hl : l.length ≤ 1000) :
    (l.map V.int).length ≤ sizeLine ∧ ∀ r, H1 r = none → Q (.ref r) (L2.upd H1 r (.lst (l.map V.int))) := by
  refine ⟨by rw [List.length_map]; exact line_le hl, fun r nr => ?_⟩
  obtain ⟨o, ha⟩ := ha
  have z := k1.free ha nr
  exact k _ r (by rw [e1]; exact hd.same (Same.upd _ nr)) (k1.put _ z) z (by rw [e2]; exact upd_same)
theorem DeskAt.there {H : Hp} {a : Addr} {d : Desk} (h : DeskAt c H a d) : ∃ o, H a = some o := by
  obtain ⟨da, v, pl, ul, vs, us, h1, _⟩ := h
  exact ⟨_, h1⟩
theorem DeskAt.voy {H : Hp} {a : Addr} {d : Desk} (h : DeskAt c H a d) : ∃ da v pl ul, H a = some (.ins c.S da (shipF (.ref v) pl ul)) ∧ VoyX c H v d.now := by
  obtain ⟨da, v, pl, ul, vs, us, h1, _, _, _, h4, _⟩ := h
  exact ⟨da, v, pl, ul, h1, h4.same hid_in⟩
/-! ## sd_ration -/
theorem sc_ration : FnScope ["ship", "g", "per", "changed", "before"] ["ship", "g", "per"] (defScope st_sd_ration) := ⟨rfl, rfl, rfl, by decide +kernel, rfl, by decide +kernel, by decide +kernel⟩
theorem ok_ration (F : FnAt K mg "sd_ration" st_sd_ration) (T : Txt K mg c) (N : TxtN mg) (hH : Has P w K mg base 1 "has_good" ["voyage", "g"] (spHas c)) (hB : Has P w K mg base 5 "begin_change" ["ship"] (spBegin c)) :
    Has P w K mg base 6 "sd_ration" ["ship", "g", "per"] (spAct c 2 fun l => .ration (l.getD 0 0) (l.getD 1 0)) := by
  obtain ⟨f, fd, F, m⟩ := F
  obtain ⟨fH, fdH, GH, mH, kH, bH⟩ := hH
  obtain ⟨fB, fdB, GB, mB, kB, bB⟩ := hB
  refine ⟨f, fd, ?_, m, F.kp, F.binds fun _ _ _ _ _ _ us hl => match us, hl with | [_, _, _], _ => rfl⟩
  refine F.ok sc_ration (fun vs H Q E h => ?_) (fun cdv A outer s H vs Q E hr h => ?_)
  · obtain ⟨a, d, l, rfl, hl, _⟩ := h
    show (l.map nv).length + 1 = 3
    rw [List.length_map, hl]
  · obtain ⟨a, d, l, rfl, hl, hb, hd, ok, k⟩ := h
    obtain ⟨g, p, rfl⟩ : ∃ g p, l = [g, p] := match l, hl with | [g, p], _ => ⟨g, p, rfl⟩
    have k := fun (H' : Hp) (r : Addr) (z1 : DeskAt c H' a (Km438.act d (.ration g p)).1) z2 z3 (z4 : H' r = some (.lst ((Km438Neutral.told (Km438.act d (.ration g p)).2).map V.int))) => k H' r z1 z2 z3 z4
    obtain ⟨da, v, pl, ul, ha, hv⟩ := hd.voy
    have hr1 : Room 1 _ := hr.mono (by decide)
    refine ⟨_, pss_cons (ps_if (pt_not (pt_val (pe_call GH hr1 rfl mH kH bH .nil pass0 (pa_cons (pe_fld (pv 0) rfl) (pa_cons (pv 1) pa_nil))))) (pss_one (ps_ret (pe_lst (pa_cons (pe_num N.NOT_THERE (by rfl)) pa_nil)))) pss_nil)
      (pss_cons (ps_if (PW.pt (pw_or (pt_cmpR op_lt (pv 2) pe_int (nomark _)) (pw_or1 (pt_cmpR op_gt (pv 2) (pe_num N.MOST_PER (by rfl)) (nomark _))))) (pss_one (ps_ret (pe_lst (pa_cons (pe_num N.NOT_AS_TOLD (by rfl)) pa_nil)))) pss_nil)
      (pss_cons (ps_set (i := 3) sc_ration.nd rfl (Or.inl rfl) (pe_ix ix_list (pe_fld (pe_call GB hr rfl mB kB bB .nil pass0 (pa_cons (pv 0) pa_nil)) rfl) (pv 1) (fun _ _ => rfl)))
      (pss_cons (ps_set (i := 4) sc_ration.nd rfl (Or.inl rfl) (pe_fld (pv 3) rfl))
      (pss_cons (ps_fld (pv 3) (pv 2) rfl)
      (pss_one (ps_ret (pe_lst (pa_cons (pv 4) pa_nil)))))))), ?_⟩
    refine ⟨_, rfl, a, c.S, da, _, _, rfl, ha, T.S.cl, T.S.voyage, rfl, _, rfl, v, d.now, g, rfl, hv, _, rfl, ?_⟩
    by_cases hg : g < d.now.goods.length
    · rw [decide_eq_true hg]
      obtain ⟨x, hx⟩ := good_there (s := d.now) (g := g) (by omega)
      refine ⟨_, rfl, _, _, rfl, rfl, _, rfl, ?_⟩
      have e1 : decide (((p : Nat) : Int) < 1) = decide (p < 1) := decide_eq_decide.mpr (by omega)
      dsimp only
      rw [e1]
      by_cases h1 : p < 1
      · rw [decide_eq_true h1]
        exact ref_fin k hd (Same.refl _) (by simp only [Km438.act, hx]; rw [if_pos (.inl (by omega))])
      · rw [decide_eq_false h1]
        refine ⟨_, rfl, _, _, rfl, rfl, _, rfl, ?_⟩
        have e2 : decide ((1000 : Int) < ((p : Nat) : Int)) = decide (1000 < p) := decide_eq_decide.mpr (by omega)
        dsimp only
        rw [e2]
        by_cases h2 : 1000 < p
        · rw [decide_eq_true h2]
          exact ref_fin k hd (Same.refl _) (by simp only [Km438.act, hx]; rw [if_pos (.inr h2)])
        · rw [decide_eq_false h2]
          have hact : Km438.act d (.ration g p) = (d.become (d.now.setGood g { x with per := p }), Km438.only ((x.per : Nat) : Int)) := by
            simp only [Km438.act, hx]
            rw [if_neg (by omega)]
          refine ⟨_, rfl, a, d, rfl, hd, ok, fun H1 v1 pp qq gg as hv1 k1 fr1 wand => ?_⟩
          obtain ⟨dv1, ho1⟩ := hv1.obj
          obtain ⟨ga, gp, hga, gA, hix⟩ := good_ix hv1 hx
          obtain ⟨dg, og⟩ := gA.obj
          refine ⟨v1, c.V, dv1, _, _, rfl, ho1, T.V.cl, T.V.goods, rfl, _, rfl, gg, _, _, _, rfl, rfl, SqL.of hv1.gods, hix, ?_⟩
          refine ⟨_, rfl, ga, c.G, dg, _, _, rfl, og, T.G.cl, T.G.per, rfl, ?_⟩
          refine ⟨_, rfl, _, rfl, ga, c.G, dg, _, rfl, og, T.G.cl, T.G.per, (by show 8 < 1000; decide), ?_⟩
          have k2 := Kp.upd (H := H1) ga (.ins c.G dg (putF "per" (nv p) (goodF x gp)))
          have g2 : GoodAt c (L2.upd H1 ga (.ins c.G dg (putF "per" (nv p) (goodF x gp)))) ga gp { x with per := p } := ⟨⟨dg, upd_same⟩, gA.lots.kp k2 (Off.ins og (by show 8 ≠ 2; decide))⟩
          have hv2 := hv1.setGood hga k2 g2 (hv1.gl _ (List.mem_of_getElem? hga))
          have mga : ga ∈ mutable v1 pp qq gg as := List.mem_cons_of_mem _ (List.mem_cons_of_mem _ (List.mem_cons_of_mem _ (List.mem_cons_of_mem _ (List.mem_map.mpr ⟨(ga, gp), List.mem_of_getElem? hga, rfl⟩))))
          have k3 : Kp (mutable v1 pp qq gg as) H1 _ := k2.mono fun z hz => by rw [List.mem_singleton.mp hz]; exact mga
          have hd2 := wand _ _ _ k3 hv2 (Fr.refl.set (.inl (List.mem_map.mpr ⟨(ga, gp), List.mem_of_getElem? hga, rfl⟩)))
          exact ⟨_, rfl, act_fin (l := [((x.per : Nat) : Int)]) k (congrArg Prod.fst hact) (by rw [hact]; rfl) hd2 (Kp.drop k1 k3 fun z hz => .inl (fr1 z hz)) hd2.there (by show 1 ≤ 1000; decide)⟩
    · rw [decide_eq_false hg]
      have e : d.now.goods[g]? = none := List.getElem?_eq_none (by omega)
      exact ref_fin k hd (Same.refl _) (by simp only [Km438.act, e])
end
end Sd

end
section
set_option Elab.async false
set_option linter.all false
set_option maxRecDepth 100000
set_option maxHeartbeats 2000000
namespace Sd
open PySem PySem.Spec PyProof.Rows L2
open Km438 (Good Ship Desk Lots)
section
variable {P : Program} {w : World} {K : PySem.W.Frag} {mg : Str → Option Value} {base : Heap} {c : Cl}
theorem ixN_nat {n j : Nat} (h : j < n) : ixN n (j : Int) = some j := by
  unfold ixN
  rw [if_pos (by omega), if_pos (by omega), Int.toNat_natCast]
theorem dec_eq (a b : Nat) : decide (nv a = nv b) = decide (a = b) := decide_eq_decide.mpr ⟨fun z => by have := V.int.inj z; omega, fun z => by rw [z]⟩
theorem set_nv (l : List Nat) (i n : Nat) : (l.map nv).set i (nv n) = (l.set i n).map nv := by rw [List.map_set]
theorem mem_mut {v pp qq gg : Addr} {as : List (Addr × Addr)} : v ∈ mutable v pp qq gg as ∧ pp ∈ mutable v pp qq gg as ∧ qq ∈ mutable v pp qq gg as ∧ gg ∈ mutable v pp qq gg as ∧ ∀ x ∈ as, x.1 ∈ mutable v pp qq gg as :=
  ⟨by simp [mutable], by simp [mutable], by simp [mutable], by simp [mutable], fun x hx => List.mem_cons_of_mem _ (List.mem_cons_of_mem _ (List.mem_cons_of_mem _ (List.mem_cons_of_mem _ (List.mem_map.mpr ⟨x, hx, rfl⟩))))⟩
theorem Kp.one {M : List Addr} {H H' : Hp} {a : Addr} (k : Kp [a] H H') (h : a ∈ M) : Kp M H H' := k.mono fun z hz => by rw [List.mem_singleton.mp hz]; exact h
/-! ## sd_persons -/
theorem sc_persons : FnScope ["ship", "day", "n", "voyage", "before"] ["ship", "day", "n"] (defScope st_sd_persons) := ⟨rfl, rfl, rfl, by decide +kernel, rfl, by decide +kernel, by decide +kernel⟩
theorem ok_persons (F : FnAt K mg "sd_persons" st_sd_persons) (T : Txt K mg c) (N : TxtN mg) (hB : Has P w K mg base 5 "begin_change" ["ship"] (spBegin c)) :
    Has P w K mg base 6 "sd_persons" ["ship", "day", "n"] (spAct c 2 fun l => .persons (l.getD 0 0) (l.getD 1 0)) := by
  obtain ⟨f, fd, F, m⟩ := F
  obtain ⟨fB, fdB, GB, mB, kB, bB⟩ := hB
  refine ⟨f, fd, ?_, m, F.kp, F.binds fun _ _ _ _ _ _ us hl => match us, hl with | [_, _, _], _ => rfl⟩
  refine F.ok sc_persons (fun vs H Q E h => ?_) (fun cdv A outer s H vs Q E hr h => ?_)
  · obtain ⟨a, d, l, rfl, hl, _⟩ := h
    show (l.map nv).length + 1 = 3
    rw [List.length_map, hl]
  · obtain ⟨a, d, l, rfl, hl, hb, hd, ok, k⟩ := h
    obtain ⟨t, n, rfl⟩ : ∃ t n, l = [t, n] := match l, hl with | [t, n], _ => ⟨t, n, rfl⟩
    have k := fun (H' : Hp) (r : Addr) (z1 : DeskAt c H' a (Km438.act d (.persons t n)).1) z2 z3 (z4 : H' r = some (.lst ((Km438Neutral.told (Km438.act d (.persons t n)).2).map V.int))) => k H' r z1 z2 z3 z4
    obtain ⟨da, v, pl, ul, ha, hv⟩ := hd.voy
    obtain ⟨pp0, qq0, gg0, as0, hv0⟩ := id hv
    obtain ⟨dv, ho⟩ := hv0.obj
    refine ⟨_, pss_cons (ps_if (PW.pt (pw_or (pt_cmpR op_lt (pv 1) (pe_fld (pe_fld (pv 0) rfl) rfl) (nomark _)) (pw_or (pt_cmpR op_gt (pv 1) (pe_fld (pe_fld (pv 0) rfl) rfl) (nomark _)) (pw_or1 (pt_cmpR op_gt (pv 2) (pe_num N.MOST_PERSONS (by rfl)) (nomark _)))))) (pss_one (ps_ret (pe_lst (pa_cons (pe_num N.NOT_AS_TOLD (by rfl)) pa_nil)))) pss_nil)
      (pss_cons (ps_set (i := 3) sc_persons.nd rfl (Or.inl rfl) (pe_call GB hr rfl mB kB bB .nil pass0 (pa_cons (pv 0) pa_nil)))
      (pss_cons (ps_set (i := 4) sc_persons.nd rfl (Or.inl rfl) (pe_ix ix_list (pe_fld (pv 3) rfl) (pv 1) (fun _ _ => rfl)))
      (pss_cons (ps_asg (pv 2) (pg_sub (pe_fld (pv 3) rfl) (pv 1) set_list))
      (pss_one (ps_ret (pe_lst (pa_cons (pv 4) pa_nil))))))), ?_⟩
    refine ⟨_, rfl, _, rfl, a, c.S, da, _, _, rfl, ha, T.S.cl, T.S.voyage, rfl, v, c.V, dv, _, _, rfl, ho, T.V.cl, T.V.today, rfl, _, _, rfl, rfl, _, rfl, ?_⟩
    dsimp only
    rw [dec_lt]
    by_cases h1 : t < d.now.today
    · rw [decide_eq_true h1]
      exact ref_fin k hd (Same.refl _) (by simp only [Km438.act]; rw [if_pos (.inl h1)])
    · rw [decide_eq_false h1]
      refine ⟨_, rfl, _, rfl, a, c.S, da, _, _, rfl, ha, T.S.cl, T.S.voyage, rfl, v, c.V, dv, _, _, rfl, ho, T.V.cl, T.V.last, rfl, _, _, rfl, rfl, _, rfl, ?_⟩
      dsimp only
      rw [dec_lt]
      by_cases h2 : d.now.last < t
      · rw [decide_eq_true h2]
        exact ref_fin k hd (Same.refl _) (by simp only [Km438.act]; rw [if_pos (.inr (.inl h2))])
      · rw [decide_eq_false h2]
        refine ⟨_, rfl, _, _, rfl, rfl, _, rfl, ?_⟩
        have e3 : decide ((5000 : Int) < ((n : Nat) : Int)) = decide (5000 < n) := decide_eq_decide.mpr (by omega)
        dsimp only
        rw [e3]
        by_cases h3 : 5000 < n
        · rw [decide_eq_true h3]
          exact ref_fin k hd (Same.refl _) (by simp only [Km438.act]; rw [if_pos (.inr (.inr h3))])
        · rw [decide_eq_false h3]
          have hact : Km438.act d (.persons t n) = (d.become { d.now with persons := d.now.persons.set t n }, Km438.only ((d.now.persons.getD t 0 : Nat) : Int)) := by
            simp only [Km438.act]
            rw [if_neg (by omega)]
          have hlt : t < d.now.persons.length := by rw [ok.now.plen]; omega
          have hat : d.now.persons[t]? = some (d.now.persons.getD t 0) := by rw [List.getD_eq_getElem?_getD, List.getElem?_eq_getElem hlt]; rfl
          refine ⟨_, rfl, a, d, rfl, hd, ok, fun H1 v1 pp qq gg as hv1 k1 fr1 wand => ?_⟩
          obtain ⟨dv1, ho1⟩ := hv1.obj
          refine ⟨_, rfl, v1, c.V, dv1, _, _, rfl, ho1, T.V.cl, T.V.persons, rfl, _, rfl, pp, _, _, _, rfl, rfl, SqL.of hv1.pers, atI_nat (by rw [List.getElem?_map, hat]; rfl), ?_⟩
          refine ⟨_, rfl, _, rfl, v1, c.V, dv1, _, _, rfl, ho1, T.V.cl, T.V.persons, rfl, _, rfl, pp, _, _, t, rfl, rfl, hv1.pers, ixN_nat (by rw [List.length_map]; exact hlt), ?_⟩
          have hv2 := hv1.setPersons (l := d.now.persons.set t n) (by intro z; rw [z] at hlt; exact absurd hlt (Nat.not_lt_zero _))
          rw [set_nv]
          have k3 : Kp (mutable v1 pp qq gg as) H1 _ := (Kp.upd (H := H1) pp (.lst ((d.now.persons.set t n).map nv))).one mem_mut.2.1
          have hd2 := wand _ _ _ k3 hv2 Fr.refl
          exact ⟨_, rfl, act_fin (l := [((d.now.persons.getD t 0 : Nat) : Int)]) k (congrArg Prod.fst hact) (by rw [hact]; rfl) hd2 (Kp.drop k1 k3 fun z hz => .inl (fr1 z hz)) hd2.there (by show 1 ≤ 1000; decide)⟩
/-! ## sd_port -/
theorem sc_port : FnScope ["ship", "day", "yes", "voyage"] ["ship", "day", "yes"] (defScope st_sd_port) := ⟨rfl, rfl, rfl, by decide +kernel, rfl, by decide +kernel, by decide +kernel⟩
theorem ok_port (F : FnAt K mg "sd_port" st_sd_port) (T : Txt K mg c) (N : TxtN mg) (hB : Has P w K mg base 5 "begin_change" ["ship"] (spBegin c)) (hX : Has P w K mg base 1 "next_port" ["voyage"] (spNext c)) :
    Has P w K mg base 6 "sd_port" ["ship", "day", "yes"] (spAct c 2 fun l => .port (l.getD 0 0) (l.getD 1 0)) := by
  obtain ⟨f, fd, F, m⟩ := F
  obtain ⟨fB, fdB, GB, mB, kB, bB⟩ := hB
  obtain ⟨fX, fdX, GX, mX, kX, bX⟩ := hX
  refine ⟨f, fd, ?_, m, F.kp, F.binds fun _ _ _ _ _ _ us hl => match us, hl with | [_, _, _], _ => rfl⟩
  refine F.ok sc_port (fun vs H Q E h => ?_) (fun cdv A outer s H vs Q E hr h => ?_)
  · obtain ⟨a, d, l, rfl, hl, _⟩ := h
    show (l.map nv).length + 1 = 3
    rw [List.length_map, hl]
  · obtain ⟨a, d, l, rfl, hl, hb, hd, ok, k⟩ := h
    obtain ⟨t, p, rfl⟩ : ∃ t p, l = [t, p] := match l, hl with | [t, p], _ => ⟨t, p, rfl⟩
    have k := fun (H' : Hp) (r : Addr) (z1 : DeskAt c H' a (Km438.act d (.port t p)).1) z2 z3 (z4 : H' r = some (.lst ((Km438Neutral.told (Km438.act d (.port t p)).2).map V.int))) => k H' r z1 z2 z3 z4
    obtain ⟨da, v, pl, ul, ha, hv⟩ := hd.voy
    obtain ⟨pp0, qq0, gg0, as0, hv0⟩ := id hv
    obtain ⟨dv, ho⟩ := hv0.obj
    have hr1 : Room 1 _ := hr.mono (by decide)
    refine ⟨_, pss_cons (ps_if (PW.pt (pw_or (pt_cmpR op_le (pv 1) (pe_fld (pe_fld (pv 0) rfl) rfl) (nomark _)) (pw_or (pt_cmpR op_gt (pv 1) (pe_fld (pe_fld (pv 0) rfl) rfl) (nomark _)) (pw_or1 (pt_cmpR op_gt (pv 2) pe_int (nomark _)))))) (pss_one (ps_ret (pe_lst (pa_cons (pe_num N.NOT_AS_TOLD (by rfl)) pa_nil)))) pss_nil)
      (pss_cons (ps_if (pt_cmpR op_eq (pe_ix ix_list (pe_fld (pe_fld (pv 0) rfl) rfl) (pv 1) (fun _ _ => rfl)) (pv 2) (nomark _)) (pss_one (ps_ret (pe_lst (pa_cons (pe_num N.ALREADY_SO (by rfl)) pa_nil)))) pss_nil)
      (pss_cons (ps_set (i := 3) sc_port.nd rfl (Or.inl rfl) (pe_call GB hr rfl mB kB bB .nil pass0 (pa_cons (pv 0) pa_nil)))
      (pss_cons (ps_asg (pv 2) (pg_sub (pe_fld (pv 3) rfl) (pv 1) set_list))
      (pss_one (ps_ret (pe_lst (pa_cons (pe_call GX hr1 rfl mX kX bX .nil pass0 (pa_cons (pv 3) pa_nil)) pa_nil))))))), ?_⟩
    refine ⟨_, rfl, _, rfl, a, c.S, da, _, _, rfl, ha, T.S.cl, T.S.voyage, rfl, v, c.V, dv, _, _, rfl, ho, T.V.cl, T.V.today, rfl, _, _, rfl, rfl, _, rfl, ?_⟩
    have e1 : decide (((t : Nat) : Int) ≤ ((d.now.today : Nat) : Int)) = decide (t ≤ d.now.today) := decide_eq_decide.mpr (by omega)
    dsimp only
    rw [e1]
    by_cases h1 : t ≤ d.now.today
    · rw [decide_eq_true h1]
      exact ref_fin k hd (Same.refl _) (by simp only [Km438.act]; rw [if_pos (.inl h1)])
    · rw [decide_eq_false h1]
      refine ⟨_, rfl, _, rfl, a, c.S, da, _, _, rfl, ha, T.S.cl, T.S.voyage, rfl, v, c.V, dv, _, _, rfl, ho, T.V.cl, T.V.last, rfl, _, _, rfl, rfl, _, rfl, ?_⟩
      dsimp only
      rw [dec_lt]
      by_cases h2 : d.now.last < t
      · rw [decide_eq_true h2]
        exact ref_fin k hd (Same.refl _) (by simp only [Km438.act]; rw [if_pos (.inr (.inl h2))])
      · rw [decide_eq_false h2]
        refine ⟨_, rfl, _, _, rfl, rfl, _, rfl, ?_⟩
        have e3 : decide ((1 : Int) < ((p : Nat) : Int)) = decide (1 < p) := decide_eq_decide.mpr (by omega)
        dsimp only
        rw [e3]
        by_cases h3 : 1 < p
        · rw [decide_eq_true h3]
          exact ref_fin k hd (Same.refl _) (by simp only [Km438.act]; rw [if_pos (.inr (.inr h3))])
        · rw [decide_eq_false h3]
          refine ⟨_, rfl, a, c.S, da, _, _, rfl, ha, T.S.cl, T.S.voyage, rfl, v, c.V, dv, _, _, rfl, ho, T.V.cl, T.V.ports, rfl, _, rfl, qq0, _, _, _, rfl, rfl, SqL.of hv0.port, atI_nat (by rw [List.getElem?_map, signs_at d.now (by omega)]; rfl), _, rfl, rfl, _, rfl, ?_⟩
          rw [dec_eq]
          have hiff : Km438.bit (d.now.ports.contains t) = p ↔ d.now.ports.contains t = (p == 1) := by
            cases z : d.now.ports.contains t with
            | true =>
              show (1 = p) ↔ (true = (p == 1))
              constructor
              · intro e; rw [← e]; rfl
              · intro e; exact (eq_of_beq e.symm).symm
            | false =>
              show (0 = p) ↔ (false = (p == 1))
              constructor
              · intro e; rw [← e]; rfl
              · intro e
                have : ¬ p = 1 := fun q => by rw [q] at e; cases e
                omega
          by_cases h4 : Km438.bit (d.now.ports.contains t) = p
          · rw [decide_eq_true h4]
            exact ref_fin k hd (Same.refl _) (by simp only [Km438.act]; rw [if_neg (by omega), if_pos (hiff.mp h4)])
          · rw [decide_eq_false h4]
            have hne : ¬ d.now.ports.contains t = (p == 1) := fun z => h4 (hiff.mpr z)
            have hact : Km438.act d (.port t p) = (d.become { d.now with ports := if p = 1 then d.now.ports ++ [t] else d.now.ports.filter fun x => x != t }, Km438.only ((({ d.now with ports := if p = 1 then d.now.ports ++ [t] else d.now.ports.filter fun x => x != t } : Ship).next : Nat) : Int)) := by
              simp only [Km438.act]
              rw [if_neg (by omega), if_neg hne]
            have okn : ShipOk { d.now with ports := if p = 1 then d.now.ports ++ [t] else d.now.ports.filter fun x => x != t } := by
              have := (act_ok ok (.port t p)).now
              rw [hact] at this
              exact this
            refine ⟨_, rfl, a, d, rfl, hd, ok, fun H1 v1 pp qq gg as hv1 k1 fr1 wand => ?_⟩
            obtain ⟨dv1, ho1⟩ := hv1.obj
            refine ⟨_, rfl, _, rfl, v1, c.V, dv1, _, _, rfl, ho1, T.V.cl, T.V.ports, rfl, _, rfl, qq, _, _, t, rfl, rfl, hv1.port, ixN_nat (by rw [List.length_map, signs_length]; omega), ?_⟩
            have hv2 := hv1.setPorts (signs_port (s := d.now) (by omega) h3 hne)
            rw [set_nv]
            have k3 : Kp (mutable v1 pp qq gg as) H1 _ := (Kp.upd (H := H1) qq (.lst (((signs d.now).set t p).map nv))).one mem_mut.2.2.1
            have hd2 := wand _ _ _ k3 hv2 Fr.refl
            refine ⟨_, rfl, v1, _, rfl, ⟨_, _, _, _, hv2⟩, okn, ?_⟩
            exact act_fin (l := [((({ d.now with ports := if p = 1 then d.now.ports ++ [t] else d.now.ports.filter fun x => x != t } : Ship).next : Nat) : Int)]) k (congrArg Prod.fst hact) (by rw [hact]; rfl) hd2 (Kp.drop k1 k3 fun z hz => .inl (fr1 z hz)) hd2.there (by show 1 ≤ 1000; decide)
end
end Sd

end
section
set_option Elab.async false
set_option linter.all false
set_option maxRecDepth 100000
set_option maxHeartbeats 2000000
namespace Sd
open PySem PySem.Spec PyProof.Rows L2
open Km438 (Good Ship Desk Lots)
section
variable {P : Program} {w : World} {K : PySem.W.Frag} {mg : Str → Option Value} {base : Heap} {c : Cl}
theorem dec_eq0 (a : Nat) : decide (nv a = V.int 0) = decide (a = 0) := dec_eq a 0
/-! ## sd_give -/
theorem sc_sgive : FnScope ["ship", "g", "n", "changed"] ["ship", "g", "n"] (defScope st_sd_give) := ⟨rfl, rfl, rfl, by decide +kernel, rfl, by decide +kernel, by decide +kernel⟩
theorem ok_sgive (F : FnAt K mg "sd_give" st_sd_give) (T : Txt K mg c) (N : TxtN mg) (hH : Has P w K mg base 1 "has_good" ["voyage", "g"] (spHas c)) (hU : Has P w K mg base 1 "units_in" ["lots"] (spUnits c)) (hB : Has P w K mg base 5 "begin_change" ["ship"] (spBegin c)) (hG : Has P w K mg base 4 "give" ["good", "n"] (spGive c)) :
    Has P w K mg base 6 "sd_give" ["ship", "g", "n"] (spAct c 2 fun l => .give (l.getD 0 0) (l.getD 1 0)) := by
  obtain ⟨f, fd, F, m⟩ := F
  obtain ⟨fH, fdH, GH, mH, kH, bH⟩ := hH
  obtain ⟨fU, fdU, GU, mU, kU, bU⟩ := hU
  obtain ⟨fB, fdB, GB, mB, kB, bB⟩ := hB
  obtain ⟨fG, fdG, GG, mG, kG, bG⟩ := hG
  refine ⟨f, fd, ?_, m, F.kp, F.binds fun _ _ _ _ _ _ us hl => match us, hl with | [_, _, _], _ => rfl⟩
  refine F.ok sc_sgive (fun vs H Q E h => ?_) (fun cdv A outer s H vs Q E hr h => ?_)
  · obtain ⟨a, d, l, rfl, hl, _⟩ := h
    show (l.map nv).length + 1 = 3
    rw [List.length_map, hl]
  · obtain ⟨a, d, l, rfl, hl, hb, hd, ok, k⟩ := h
    obtain ⟨g, n, rfl⟩ : ∃ g n, l = [g, n] := match l, hl with | [g, n], _ => ⟨g, n, rfl⟩
    have k := fun (H' : Hp) (r : Addr) (z1 : DeskAt c H' a (Km438.act d (.give g n)).1) z2 z3 (z4 : H' r = some (.lst ((Km438Neutral.told (Km438.act d (.give g n)).2).map V.int))) => k H' r z1 z2 z3 z4
    obtain ⟨da, v, pl, ul, ha, hv⟩ := hd.voy
    obtain ⟨pp0, qq0, gg0, as0, hv0⟩ := id hv
    obtain ⟨dv, ho⟩ := hv0.obj
    have hr1 : Room 1 _ := hr.mono (by decide)
    have hr4 : Room 4 _ := hr.mono (by decide)
    refine ⟨_, pss_cons (ps_if (pt_not (pt_val (pe_call GH hr1 rfl mH kH bH .nil pass0 (pa_cons (pe_fld (pv 0) rfl) (pa_cons (pv 1) pa_nil))))) (pss_one (ps_ret (pe_lst (pa_cons (pe_num N.NOT_THERE (by rfl)) pa_nil)))) pss_nil)
      (pss_cons (ps_if (pt_cmpR op_eq (pv 2) pe_int (nomark _)) (pss_one (ps_ret (pe_lst (pa_cons (pe_num N.NOT_AS_TOLD (by rfl)) pa_nil)))) pss_nil)
      (pss_cons (ps_if (pt_cmpR op_lt (pe_call GU hr1 rfl mU kU bU .nil pass0 (pa_cons (pe_fld (pe_ix ix_list (pe_fld (pe_fld (pv 0) rfl) rfl) (pv 1) (fun _ _ => rfl)) rfl) pa_nil)) (pv 2) (nomark _)) (pss_one (ps_ret (pe_lst (pa_cons (pe_num N.LESS_THERE (by rfl)) pa_nil)))) pss_nil)
      (pss_cons (ps_set (i := 3) sc_sgive.nd rfl (Or.inl rfl) (pe_ix ix_list (pe_fld (pe_call GB hr rfl mB kB bB .nil pass0 (pa_cons (pv 0) pa_nil)) rfl) (pv 1) (fun _ _ => rfl)))
      (pss_cons (ps_expr (pe_call GG hr4 rfl mG kG bG .nil pass0 (pa_cons (pv 3) (pa_cons (pv 2) pa_nil))))
      (pss_one (ps_ret (pe_lst (pa_cons (pe_call GU hr1 rfl mU kU bU .nil pass0 (pa_cons (pe_fld (pv 3) rfl) pa_nil)) pa_nil)))))))), ?_⟩
    refine ⟨_, rfl, a, c.S, da, _, _, rfl, ha, T.S.cl, T.S.voyage, rfl, _, rfl, v, d.now, g, rfl, hv, _, rfl, ?_⟩
    by_cases hg : g < d.now.goods.length
    · rw [decide_eq_true hg]
      obtain ⟨x, hx⟩ := good_there (s := d.now) (g := g) (by omega)
      have gok := ok.now.good hx
      obtain ⟨ga0, gp0, hga0, gA0, hix0⟩ := good_ix hv0 hx
      obtain ⟨dg0, og0⟩ := gA0.obj
      refine ⟨_, rfl, rfl, _, rfl, ?_⟩
      rw [dec_eq0]
      by_cases h1 : n = 0
      · rw [decide_eq_true h1]
        exact ref_fin k hd (Same.refl _) (by simp only [Km438.act, hx]; rw [if_pos h1])
      · rw [decide_eq_false h1]
        refine ⟨_, rfl, a, c.S, da, _, _, rfl, ha, T.S.cl, T.S.voyage, rfl, v, c.V, dv, _, _, rfl, ho, T.V.cl, T.V.goods, rfl, _, rfl, gg0, _, _, _, rfl, rfl, SqL.of hv0.gods, hix0, ga0, c.G, dg0, _, _, rfl, og0, T.G.cl, T.G.lots, rfl, gp0, x.lots, rfl, gA0.lots, Nat.le_trans gok.few (by decide), fun H1 s1 => ⟨_, rfl, _, _, rfl, rfl, _, rfl, ?_⟩⟩
        dsimp only
        rw [dec_lt]
        by_cases h2 : Km438.amount x.lots < n
        · rw [decide_eq_true h2]
          exact ref_fin k hd s1 (by simp only [Km438.act, hx]; rw [if_neg h1, if_pos h2])
        · rw [decide_eq_false h2]
          have hact : Km438.act d (.give g n) = (d.become (d.now.setGood g { x with lots := (Km438.eat n x.lots).1, given := x.given + n }), Km438.only ((Km438.amount x.lots - n : Nat) : Int)) := by
            simp only [Km438.act, hx]
            rw [if_neg h1, if_neg h2]
          refine ⟨_, rfl, a, d, rfl, hd.same s1, ok, fun H2 v1 pp qq gg as hv1 k1 fr1 wand => ?_⟩
          obtain ⟨dv1, ho1⟩ := hv1.obj
          obtain ⟨ga, gp, hga, gA, hix⟩ := good_ix hv1 hx
          refine ⟨v1, c.V, dv1, _, _, rfl, ho1, T.V.cl, T.V.goods, rfl, _, rfl, gg, _, _, _, rfl, rfl, SqL.of hv1.gods, hix, ?_⟩
          refine ⟨_, rfl, _, rfl, ga, gp, x, n, rfl, gA, Nat.le_trans gok.few (by decide), gok.pos, fun H3 r k3 nr g3 => ?_⟩
          have ngr : r ≠ gg := (ne_of_none hv1.gods nr).symm
          have hv3 := hv1.setGood hga k3 g3 ngr
          have k3m : Kp (mutable v1 pp qq gg as) H2 H3 := k3.one (mem_mut.2.2.2.2 _ (List.mem_of_getElem? hga))
          have hd3 := wand _ _ _ k3m hv3 (Fr.refl.set (.inr nr))
          have kA : Kp [a] H H3 := (Kp.same s1 [a]).trans (Kp.drop k1 k3m fun z hz => .inl (fr1 z hz))
          obtain ⟨dg3, og3⟩ := g3.obj
          refine ⟨_, rfl, ga, c.G, dg3, _, _, rfl, og3, T.G.cl, T.G.lots, rfl, r, (Km438.eat n x.lots).1, rfl, g3.lots, Nat.le_trans (Nat.le_trans (eat_length _ _) gok.few) (by decide), fun H4 s4 => ?_⟩
          rw [eat_left]
          have hd4 := hd3.same s4
          exact act_fin (l := [((Km438.amount x.lots - n : Nat) : Int)]) k (congrArg Prod.fst hact) (by rw [hact]; rfl) hd4 (kA.trans (Kp.same s4 [a])) hd4.there (by show 1 ≤ 1000; decide)
    · rw [decide_eq_false hg]
      have e : d.now.goods[g]? = none := List.getElem?_eq_none (by omega)
      exact ref_fin k hd (Same.refl _) (by simp only [Km438.act, e])
/-! ## sd_good -/
theorem VoyAt.addGood {H H2 : Hp} {v x p dx : Addr} {s : Ship} {pp qq gg : Addr} {as : List (Addr × Addr)} {per life : Nat} (h : VoyAt c H v s pp qq gg as) (hl : s.persons ≠ []) (s2 : Same H H2) (nx : H x = none) (np : H p = none)
    (hx : H2 x = some (.ins c.G dx (goodF (newGood per life) p))) (hp : H2 p = some (.lst [])) :
    VoyAt c (L2.upd H2 gg (.lst ((as.map fun y => V.ref y.1) ++ [V.ref x]))) v { s with goods := s.goods ++ [newGood per life] } pp qq gg (as ++ [(x, p)]) := by
  have h0 := h.same s2
  have npg : p ≠ gg := (ne_of_none h.gods np).symm
  obtain ⟨⟨dv, e⟩, h1, h2, h3, h4, h5, h6, h7⟩ := h0
  have of1 : Off c [pp] H2 := Off.ints h1 hl
  have of2 : Off c [qq] H2 := Off.ints h2 (fun z => by have := signs_length s; rw [z] at this; simp at this)
  refine ⟨⟨dv, by rw [upd_ne (ne_of h3 e lst_ne_ins).symm]; exact e⟩, ?_, ?_, ?_, ?_, ?_, h6, ?_⟩
  · rw [upd_ne (fun z => ?_)]
    · exact h1
    · rw [← z, map_refs] at h3
      exact of1.refs pp (by simp) _ h3
  · rw [upd_ne (fun z => ?_)]
    · exact h2
    · rw [← z, map_refs] at h3
      exact of2.refs qq (by simp) _ h3
  · rw [upd_same, List.map_append]; rfl
  · have all : ∀ {as' : List (Addr × Addr)} {gs : List Good} {o : HO}, GoodsAt c H2 as' gs → (∀ x ∈ as', x.2 ≠ gg) → GoodsAt c (L2.upd H2 gg o) as' gs := by
      intro as' gs o r n
      induction r with
      | nil => exact .nil
      | cons q t ih => exact .cons (q.updL h3 (n _ List.mem_cons_self)) (ih fun x hx => n x (List.mem_cons_of_mem _ hx))
    refine Paired.app (all h4 h7) (Paired.one ?_)
    exact GoodAt.updL (g := newGood per life) ⟨⟨dx, hx⟩, [], hp, .nil⟩ h3 npg
  · rw [List.map_append]
    refine nodup_snoc h5 fun z => ?_
    obtain ⟨y, hy, e⟩ := List.mem_map.mp z
    obtain ⟨j, hj⟩ := List.getElem?_of_mem hy
    obtain ⟨gj, _, gJ⟩ := Paired.get2 h.good hj
    obtain ⟨dj, oj⟩ := gJ.obj
    rw [e, show H x = none from nx] at oj
    cases oj
  · intro y hy
    rcases List.mem_append.mp hy with z | z
    · exact h7 y z
    · rw [List.mem_singleton.mp z]; exact npg
theorem sc_sgood : FnScope ["ship", "per", "life", "voyage"] ["ship", "per", "life"] (defScope st_sd_good) := ⟨rfl, rfl, rfl, by decide +kernel, rfl, by decide +kernel, by decide +kernel⟩
theorem ok_sgood (F : FnAt K mg "sd_good" st_sd_good) (T : Txt K mg c) (N : TxtN mg) (hM : Makes P w K mg base 1 "Good" c.G ["self", "per", "life"] (spGood c)) (hB : Has P w K mg base 5 "begin_change" ["ship"] (spBegin c)) :
    Has P w K mg base 6 "sd_good" ["ship", "per", "life"] (spAct c 2 fun l => .good (l.getD 0 0) (l.getD 1 0)) := by
  obtain ⟨f, fd, F, m⟩ := F
  obtain ⟨fM, fdM, MM, GM, bM, mM⟩ := hM
  obtain ⟨fB, fdB, GB, mB, kB, bB⟩ := hB
  refine ⟨f, fd, ?_, m, F.kp, F.binds fun _ _ _ _ _ _ us hl => match us, hl with | [_, _, _], _ => rfl⟩
  refine F.ok sc_sgood (fun vs H Q E h => ?_) (fun cdv A outer s H vs Q E hr h => ?_)
  · obtain ⟨a, d, l, rfl, hl, _⟩ := h
    show (l.map nv).length + 1 = 3
    rw [List.length_map, hl]
  · obtain ⟨a, d, l, rfl, hl, hb, hd, ok, k⟩ := h
    obtain ⟨p, q, rfl⟩ : ∃ p q, l = [p, q] := match l, hl with | [p, q], _ => ⟨p, q, rfl⟩
    have k := fun (H' : Hp) (r : Addr) (z1 : DeskAt c H' a (Km438.act d (.good p q)).1) z2 z3 (z4 : H' r = some (.lst ((Km438Neutral.told (Km438.act d (.good p q)).2).map V.int))) => k H' r z1 z2 z3 z4
    obtain ⟨da, v, pl, ul, ha, hv⟩ := hd.voy
    obtain ⟨pp0, qq0, gg0, as0, hv0⟩ := id hv
    obtain ⟨dv, ho⟩ := hv0.obj
    have hr2 : Room 2 _ := hr.mono (by decide)
    refine ⟨_, pss_cons (ps_if (PW.pt (pw_or (pt_cmpR op_lt (pv 1) pe_int (nomark _)) (pw_or (pt_cmpR op_gt (pv 1) (pe_num N.MOST_PER (by rfl)) (nomark _)) (pw_or (pt_cmpR op_lt (pv 2) pe_int (nomark _)) (pw_or1 (pt_cmpR op_gt (pv 2) (pe_num N.MOST_LIFE (by rfl)) (nomark _))))))) (pss_one (ps_ret (pe_lst (pa_cons (pe_num N.NOT_AS_TOLD (by rfl)) pa_nil)))) pss_nil)
      (pss_cons (ps_if (pt_cmpR op_eq (pe_callB call_len_seq (by rfl) T.B.len PySem.boot_len (pa_cons (pe_fld (pe_fld (pv 0) rfl) rfl) pa_nil)) (pe_num N.MOST_GOODS (by rfl)) (nomark _)) (pss_one (ps_ret (pe_lst (pa_cons (pe_num N.TOO_MANY (by rfl)) pa_nil)))) pss_nil)
      (pss_cons (ps_set (i := 3) sc_sgood.nd rfl (Or.inl rfl) (pe_call GB hr rfl mB kB bB .nil pass0 (pa_cons (pv 0) pa_nil)))
      (pss_cons (ps_expr (pe_bm PySem.F.plainAttrs_list PySem.F.slot_list_append PySem.F.type_list_append mt_append (pe_fld (pv 3) rfl) (pa_cons (pe_make MM GM hr2 rfl mM bM .nil pass0 (pa_cons (pv 1) (pa_cons (pv 2) pa_nil))) pa_nil)))
      (pss_one (ps_ret (pe_lst (pa_cons (pe_op op_sub (pe_callB call_len_seq (by rfl) T.B.len PySem.boot_len (pa_cons (pe_fld (pv 3) rfl) pa_nil)) pe_int) pa_nil))))))), ?_⟩
    have e1 : decide (((p : Nat) : Int) < 1) = decide (p < 1) := decide_eq_decide.mpr (by omega)
    have e2 : decide ((1000 : Int) < ((p : Nat) : Int)) = decide (1000 < p) := decide_eq_decide.mpr (by omega)
    have e3 : decide (((q : Nat) : Int) < 1) = decide (q < 1) := decide_eq_decide.mpr (by omega)
    have e4 : decide ((100 : Int) < ((q : Nat) : Int)) = decide (100 < q) := decide_eq_decide.mpr (by omega)
    refine ⟨_, rfl, _, _, rfl, rfl, _, rfl, ?_⟩
    dsimp only
    rw [e1]
    by_cases h1 : p < 1
    · rw [decide_eq_true h1]
      exact ref_fin k hd (Same.refl _) (by simp only [Km438.act]; rw [if_pos (by omega)])
    rw [decide_eq_false h1]
    refine ⟨_, rfl, _, _, rfl, rfl, _, rfl, ?_⟩
    dsimp only
    rw [e2]
    by_cases h2 : 1000 < p
    · rw [decide_eq_true h2]
      exact ref_fin k hd (Same.refl _) (by simp only [Km438.act]; rw [if_pos (by omega)])
    rw [decide_eq_false h2]
    refine ⟨_, rfl, _, _, rfl, rfl, _, rfl, ?_⟩
    dsimp only
    rw [e3]
    by_cases h3 : q < 1
    · rw [decide_eq_true h3]
      exact ref_fin k hd (Same.refl _) (by simp only [Km438.act]; rw [if_pos (by omega)])
    rw [decide_eq_false h3]
    refine ⟨_, rfl, _, _, rfl, rfl, _, rfl, ?_⟩
    dsimp only
    rw [e4]
    by_cases h4 : 100 < q
    · rw [decide_eq_true h4]
      exact ref_fin k hd (Same.refl _) (by simp only [Km438.act]; rw [if_pos (by omega)])
    rw [decide_eq_false h4]
    refine ⟨_, rfl, a, c.S, da, _, _, rfl, ha, T.S.cl, T.S.voyage, rfl, v, c.V, dv, _, _, rfl, ho, T.V.cl, T.V.goods, rfl, gg0, _, rfl, .inl (SqL.of hv0.gods), rfl, _, rfl, ?_⟩
    rw [List.length_map, Paired.len hv0.good]
    have hgl := ok.now.glen
    have e5 : decide (V.int ((d.now.goods.length : Nat) : Int) = V.int 6) = decide (6 ≤ d.now.goods.length) := (dec_eq d.now.goods.length 6).trans (decide_eq_decide.mpr (by omega))
    rw [e5]
    by_cases h5 : 6 ≤ d.now.goods.length
    · rw [decide_eq_true h5]
      exact ref_fin k hd (Same.refl _) (by simp only [Km438.act]; rw [if_neg (by omega), if_pos (show Km438.GOODS ≤ d.now.goods.length from h5)])
    rw [decide_eq_false h5]
    have hact : Km438.act d (.good p q) = (d.become { d.now with goods := d.now.goods ++ [newGood p q] }, Km438.only ((d.now.goods.length : Nat) : Int)) := by
      simp only [Km438.act]
      rw [if_neg (by omega), if_neg (show ¬ Km438.GOODS ≤ d.now.goods.length from h5)]; rfl
    refine ⟨_, rfl, a, d, rfl, hd, ok, fun H1 v1 pp qq gg as hv1 k1 fr1 wand => ?_⟩
    obtain ⟨dv1, ho1⟩ := hv1.obj
    have hlen := Paired.len hv1.good
    refine ⟨_, rfl, v1, c.V, dv1, _, _, rfl, ho1, T.V.cl, T.V.goods, rfl, .inl ⟨rfl, _, SqL.of hv1.gods⟩, _, rfl, _, rfl, fun x dx nx ndx nex => ⟨x, dx, p, q, rfl, upd_same, fun H2 px hx hp npx k2 => ⟨rfl, ?_⟩⟩⟩
    have s2 : Same H1 H2 := made_same nx ndx k2
    have npx1 : H1 px = none := by
      cases z : H1 px with
      | none => rfl
      | some o =>
        rw [upd_ne (ne_of_none z nx), upd_ne (ne_of_none z ndx), z] at npx
        cases npx
    refine ⟨gg, _, _, rfl, rfl, s2 _ _ hv1.gods, (by rw [List.length_map, hlen]; exact line_of (by omega)), ?_⟩
    have hlp : d.now.persons ≠ [] := fun z => by have := ok.now.plen; rw [z] at this; simp at this
    have hv2 := hv1.addGood (per := p) (life := q) hlp s2 nx npx1 hx hp
    have k3 : Kp (mutable v1 pp qq gg as) H1 _ := ((Kp.same s2 [gg]).trans (Kp.upd (H := H2) gg (.lst ((as.map fun y => V.ref y.1) ++ [V.ref x])))).one mem_mut.2.2.2.1
    have hd2 := wand _ _ _ k3 hv2 (Fr.refl.snoc npx1)
    obtain ⟨dv2, ho2⟩ := hv2.obj
    refine ⟨_, rfl, v1, c.V, dv2, _, _, rfl, ho2, T.V.cl, T.V.goods, rfl, gg, _, rfl, .inl (SqL.of hv2.gods), _, _, rfl, rfl, ?_⟩
    have e6 : (((((as ++ [(x, px)]).map fun y => V.ref y.1).length : Nat) : Int) - 1) = ((d.now.goods.length : Nat) : Int) := by
      rw [List.length_map, List.length_append, hlen]
      show ((d.now.goods.length + 1 : Nat) : Int) - 1 = _
      omega
    dsimp only
    rw [e6]
    exact act_fin (l := [((d.now.goods.length : Nat) : Int)]) k (congrArg Prod.fst hact) (by rw [hact]; rfl) hd2 (Kp.drop k1 k3 fun z hz => .inl (fr1 z hz)) hd2.there (by show 1 ≤ 1000; decide)
end
end Sd

end
section
set_option Elab.async false
set_option linter.all false
set_option maxRecDepth 100000
set_option maxHeartbeats 2000000
namespace Sd
open PySem PySem.Spec PyProof.Rows L2
open Km438 (Good Ship Desk Lots)
section
variable {P : Program} {w : World} {K : PySem.W.Frag} {mg : Str → Option Value} {base : Heap} {c : Cl}
theorem with_last (g : Good) (t n : Nat) (h : n ≠ 0) : ∃ l m, g.with_ t n = l ++ [(t + g.life, m)] := by
  rw [with_eq g t n h]
  rcases List.eq_nil_or_concat g.lots with e | ⟨l0, x, e⟩
  · rw [e]; exact ⟨[], n, rfl⟩
  · rw [e, List.concat_eq_append, withMore_snoc]
    by_cases q : x.1 = t + g.life
    · rw [if_pos q]; exact ⟨l0, _, rfl⟩
    · rw [if_neg q]; exact ⟨l0 ++ [x], _, rfl⟩
/-! ## sd_load -/
theorem sc_sload : FnScope ["ship", "g", "n", "good", "voyage", "changed"] ["ship", "g", "n"] (defScope st_sd_load) := ⟨rfl, rfl, rfl, by decide +kernel, rfl, by decide +kernel, by decide +kernel⟩
theorem ok_sload (F : FnAt K mg "sd_load" st_sd_load) (T : Txt K mg c) (N : TxtN mg) (hH : Has P w K mg base 1 "has_good" ["voyage", "g"] (spHas c)) (hS : Has P w K mg base 1 "port_sign" ["voyage"] (spSign c)) (hR : Has P w K mg base 3 "room_left" ["voyage"] (spRoom c))
    (hI : Has P w K mg base 4 "lots_if_loaded" ["good", "today", "n"] (spIf c)) (hU : Has P w K mg base 1 "units_in" ["lots"] (spUnits c)) (hB : Has P w K mg base 5 "begin_change" ["ship"] (spBegin c)) (hL : Has P w K mg base 5 "load" ["good", "today", "n"] (spLoad c)) :
    Has P w K mg base 6 "sd_load" ["ship", "g", "n"] (spAct c 2 fun l => .load (l.getD 0 0) (l.getD 1 0)) := by
  obtain ⟨f, fd, F, m⟩ := F
  obtain ⟨fH, fdH, GH, mH, kH, bH⟩ := hH
  obtain ⟨fS, fdS, GS, mS, kS, bS⟩ := hS
  obtain ⟨fR, fdR, GR, mR, kR, bR⟩ := hR
  obtain ⟨fI, fdI, GI, mI, kI, bI⟩ := hI
  obtain ⟨fU, fdU, GU, mU, kU, bU⟩ := hU
  obtain ⟨fB, fdB, GB, mB, kB, bB⟩ := hB
  obtain ⟨fL, fdL, GL, mL, kL, bL⟩ := hL
  refine ⟨f, fd, ?_, m, F.kp, F.binds fun _ _ _ _ _ _ us hl => match us, hl with | [_, _, _], _ => rfl⟩
  refine F.ok sc_sload (fun vs H Q E h => ?_) (fun cdv A outer s H vs Q E hr h => ?_)
  · obtain ⟨a, d, l, rfl, hl, _⟩ := h
    show (l.map nv).length + 1 = 3
    rw [List.length_map, hl]
  · obtain ⟨a, d, l, rfl, hl, hb, hd, ok, k⟩ := h
    obtain ⟨g, n, rfl⟩ : ∃ g n, l = [g, n] := match l, hl with | [g, n], _ => ⟨g, n, rfl⟩
    have k := fun (H' : Hp) (r : Addr) (z1 : DeskAt c H' a (Km438.act d (.load g n)).1) z2 z3 (z4 : H' r = some (.lst ((Km438Neutral.told (Km438.act d (.load g n)).2).map V.int))) => k H' r z1 z2 z3 z4
    obtain ⟨da, v, pl, ul, ha, hv⟩ := hd.voy
    obtain ⟨pp0, qq0, gg0, as0, hv0⟩ := id hv
    obtain ⟨dv, ho⟩ := hv0.obj
    have hr1 : Room 1 _ := hr.mono (by decide)
    have hr2 : Room 3 _ := hr.mono (by decide)
    have hr4 : Room 4 _ := hr.mono (by decide)
    refine ⟨_, pss_cons (ps_if (pt_not (pt_val (pe_call GH hr1 rfl mH kH bH .nil pass0 (pa_cons (pe_fld (pv 0) rfl) (pa_cons (pv 1) pa_nil))))) (pss_one (ps_ret (pe_lst (pa_cons (pe_num N.NOT_THERE (by rfl)) pa_nil)))) pss_nil)
      (pss_cons (ps_if (pt_cmpR op_eq (pv 2) pe_int (nomark _)) (pss_one (ps_ret (pe_lst (pa_cons (pe_num N.NOT_AS_TOLD (by rfl)) pa_nil)))) pss_nil)
      (pss_cons (ps_if (pt_cmpR op_eq (pe_call GS hr1 rfl mS kS bS .nil pass0 (pa_cons (pe_fld (pv 0) rfl) pa_nil)) pe_int (nomark _)) (pss_one (ps_ret (pe_lst (pa_cons (pe_num N.NO_PORT (by rfl)) pa_nil)))) pss_nil)
      (pss_cons (ps_set (i := 3) sc_sload.nd rfl (Or.inl rfl) (pe_ix ix_list (pe_fld (pe_fld (pv 0) rfl) rfl) (pv 1) (fun _ _ => rfl)))
      (pss_cons (ps_if (PW.pt (pw_or (pt_cmpR op_gt (pv 2) (pe_call GR hr2 rfl mR kR bR .nil pass0 (pa_cons (pe_fld (pv 0) rfl) pa_nil)) (nomark _)) (pw_or1 (pt_cmpR op_gt (pe_op op_add (pe_fld (pv 3) rfl) (pv 2)) (pe_num N.MOST_UNITS (by rfl)) (nomark _))))) (pss_one (ps_ret (pe_lst (pa_cons (pe_num N.NO_ROOM (by rfl)) pa_nil)))) pss_nil)
      (pss_cons (ps_if (pt_cmpR op_gt (pe_callB call_len_seq (by rfl) T.B.len PySem.boot_len (pa_cons (pe_call GI hr4 rfl mI kI bI .nil pass0 (pa_cons (pv 3) (pa_cons (pe_fld (pe_fld (pv 0) rfl) rfl) (pa_cons (pv 2) pa_nil)))) pa_nil)) (pe_num N.MOST_LOTS (by rfl)) (nomark _)) (pss_one (ps_ret (pe_lst (pa_cons (pe_num N.TOO_MANY (by rfl)) pa_nil)))) pss_nil)
      (pss_cons (ps_set (i := 4) sc_sload.nd rfl (Or.inl rfl) (pe_call GB hr rfl mB kB bB .nil pass0 (pa_cons (pv 0) pa_nil)))
      (pss_cons (ps_set (i := 5) sc_sload.nd rfl (Or.inl rfl) (pe_ix ix_list (pe_fld (pv 4) rfl) (pv 1) (fun _ _ => rfl)))
      (pss_cons (ps_expr (pe_call GL hr rfl mL kL bL .nil pass0 (pa_cons (pv 5) (pa_cons (pe_fld (pv 4) rfl) (pa_cons (pv 2) pa_nil)))))
      (pss_one (ps_ret (pe_lst (pa_cons (pe_call GU hr1 rfl mU kU bU .nil pass0 (pa_cons (pe_fld (pv 5) rfl) pa_nil)) (pa_cons (pe_fld (pe_ix ix_list (pe_fld (pv 5) rfl) (pe_un un_neg pe_int) (fun _ _ => rfl)) rfl) pa_nil))))))))))))), ?_⟩
    refine ⟨_, rfl, a, c.S, da, _, _, rfl, ha, T.S.cl, T.S.voyage, rfl, _, rfl, v, d.now, g, rfl, hv, _, rfl, ?_⟩
    by_cases hg : g < d.now.goods.length
    case neg =>
      rw [decide_eq_false hg]
      have e : d.now.goods[g]? = none := List.getElem?_eq_none (by omega)
      exact ref_fin k hd (Same.refl _) (by simp only [Km438.act, e])
    rw [decide_eq_true hg]
    obtain ⟨x, hx⟩ := good_there (s := d.now) (g := g) (by omega)
    have gok := ok.now.good hx
    obtain ⟨ga0, gp0, hga0, gA0, hix0⟩ := good_ix hv0 hx
    obtain ⟨dg0, og0⟩ := gA0.obj
    refine ⟨_, rfl, rfl, _, rfl, ?_⟩
    rw [dec_eq0]
    by_cases h1 : n = 0
    · rw [decide_eq_true h1]
      exact ref_fin k hd (Same.refl _) (by simp only [Km438.act, hx]; rw [if_pos h1])
    rw [decide_eq_false h1]
    refine ⟨_, rfl, a, c.S, da, _, _, rfl, ha, T.S.cl, T.S.voyage, rfl, v, d.now, rfl, hv, ok.now, rfl, _, rfl, ?_⟩
    rw [dec_eq0]
    by_cases h2 : Km438.bit (d.now.ports.contains d.now.today) = 0
    · rw [decide_eq_true h2]
      have hc : d.now.ports.contains d.now.today = false := by
        cases z : d.now.ports.contains d.now.today with
        | false => rfl
        | true => rw [z] at h2; cases h2
      exact ref_fin k hd (Same.refl _) (by simp only [Km438.act, hx]; rw [if_neg h1, if_pos hc])
    rw [decide_eq_false h2]
    have hc : ¬ d.now.ports.contains d.now.today = false := fun z => h2 (by rw [z]; rfl)
    refine ⟨_, rfl, a, c.S, da, _, _, rfl, ha, T.S.cl, T.S.voyage, rfl, v, c.V, dv, _, _, rfl, ho, T.V.cl, T.V.goods, rfl, _, rfl, gg0, _, _, _, rfl, rfl, SqL.of hv0.gods, hix0, ?_⟩
    refine ⟨_, rfl, _, rfl, a, c.S, da, _, _, rfl, ha, T.S.cl, T.S.voyage, rfl, v, d.now, rfl, hv, ok.now, fun H1 s1 => ⟨_, _, rfl, rfl, _, rfl, ?_⟩⟩
    have e3 : decide (((d.now.room : Nat) : Int) - ((d.now.full : Nat) : Int) < ((n : Nat) : Int)) = decide (d.now.room < d.now.full + n) := decide_eq_decide.mpr (by omega)
    dsimp only
    rw [e3]
    by_cases h3 : d.now.room < d.now.full + n
    · rw [decide_eq_true h3]
      exact ref_fin k hd s1 (by simp only [Km438.act, hx]; rw [if_neg h1, if_neg hc, if_pos (.inl h3)])
    rw [decide_eq_false h3]
    refine ⟨_, rfl, ga0, c.G, dg0, _, _, rfl, s1 _ _ og0, T.G.cl, T.G.loaded, rfl, _, rfl, _, _, rfl, rfl, _, _, rfl, rfl, _, rfl, ?_⟩
    have e4 : decide ((1000000000 : Int) < ((x.loaded : Nat) : Int) + ((n : Nat) : Int)) = decide (1000000000 < x.loaded + n) := decide_eq_decide.mpr (by omega)
    dsimp only
    rw [e4]
    by_cases h4 : 1000000000 < x.loaded + n
    · rw [decide_eq_true h4]
      exact ref_fin k hd s1 (by simp only [Km438.act, hx]; rw [if_neg h1, if_neg hc, if_pos (.inr h4)])
    rw [decide_eq_false h4]
    have h34 : ¬ (d.now.room < d.now.full + n ∨ Km438.MOST < x.loaded + n) := fun z => z.elim h3 h4
    refine ⟨_, rfl, _, rfl, a, c.S, da, _, _, rfl, s1 _ _ ha, T.S.cl, T.S.voyage, rfl, v, c.V, dv, _, _, rfl, s1 _ _ ho, T.V.cl, T.V.today, rfl, _, rfl, ga0, gp0, x, d.now.today, n, rfl, gA0.same s1, Nat.le_trans gok.few (by decide), fun H2 r2 s2 nr2 hl2 => ?_⟩
    rw [← with_eq x d.now.today n h1] at hl2
    obtain ⟨bs2, hb2, rr2⟩ := hl2
    have s12 := s1.trans s2
    refine ⟨r2, _, rfl, .inl (SqL.of hb2), _, _, rfl, rfl, _, rfl, ?_⟩
    have e5 : decide ((6 : Int) < (((bs2.map V.ref).length : Nat) : Int)) = decide (6 < (x.with_ d.now.today n).length) := by
      rw [List.length_map, Paired.len rr2]
      exact decide_eq_decide.mpr (by omega)
    dsimp only
    rw [e5]
    by_cases h5 : 6 < (x.with_ d.now.today n).length
    · rw [decide_eq_true h5]
      exact ref_fin k hd s12 (by simp only [Km438.act, hx]; rw [if_neg h1, if_neg hc, if_neg h34, if_pos (show Km438.LOTS < (x.with_ d.now.today n).length from h5)])
    rw [decide_eq_false h5]
    have hact : Km438.act d (.load g n) = (d.become (d.now.setGood g { x with lots := x.with_ d.now.today n, loaded := x.loaded + n }), ⟨((Km438.amount x.lots + n : Nat) : Int), [d.now.today + x.life]⟩) := by
      simp only [Km438.act, hx]
      rw [if_neg h1, if_neg hc, if_neg h34, if_neg (show ¬ Km438.LOTS < (x.with_ d.now.today n).length from h5)]
    refine ⟨_, rfl, a, d, rfl, hd.same s12, ok, fun H3 v1 pp qq gg as hv1 k1 fr1 wand => ?_⟩
    obtain ⟨dv1, ho1⟩ := hv1.obj
    obtain ⟨ga, gp, hga, gA, hix⟩ := good_ix hv1 hx
    refine ⟨_, rfl, v1, c.V, dv1, _, _, rfl, ho1, T.V.cl, T.V.goods, rfl, _, rfl, gg, _, _, _, rfl, rfl, SqL.of hv1.gods, hix, ?_⟩
    refine ⟨_, rfl, _, rfl, v1, c.V, dv1, _, _, rfl, ho1, T.V.cl, T.V.today, rfl, _, rfl, ga, gp, x, d.now.today, n, rfl, gA, Nat.le_trans gok.few (by decide), h1, fun H4 r k4 nr g4 => ?_⟩
    have ngr : r ≠ gg := (ne_of_none hv1.gods nr).symm
    have hv4 := hv1.setGood hga k4 g4 ngr
    have k4m : Kp (mutable v1 pp qq gg as) H3 H4 := k4.one (mem_mut.2.2.2.2 _ (List.mem_of_getElem? hga))
    have hd4 := wand _ _ _ k4m hv4 (Fr.refl.set (.inr nr))
    have kA : Kp [a] H H4 := (Kp.same s12 [a]).trans (Kp.drop k1 k4m fun z hz => .inl (fr1 z hz))
    obtain ⟨dg4, og4⟩ := g4.obj
    have hfew : (x.with_ d.now.today n).length ≤ 100 := by omega
    refine ⟨_, rfl, ga, c.G, dg4, _, _, rfl, og4, T.G.cl, T.G.lots, rfl, r, x.with_ d.now.today n, rfl, g4.lots, hfew, fun H5 s5 => ?_⟩
    rw [with_amount]
    obtain ⟨l0, mm, el⟩ := with_last x d.now.today n h1
    have hl5 : LotsAt c H5 r (x.with_ d.now.today n) := g4.lots.same s5
    rw [el] at hl5
    obtain ⟨bs, hb, rr⟩ := hl5
    have hlen := Paired.len rr
    have hl1 : (l0 ++ [(d.now.today + x.life, mm)])[l0.length]? = some (d.now.today + x.life, mm) := by simp
    obtain ⟨b, hbb, dx, hbx⟩ := Paired.get1 rr hl1
    have hbs : bs = bs.dropLast ++ [b] := by
      apply snoc_of_getLast
      rw [List.getLast?_eq_getElem?, hlen, List.length_append]
      exact hbb
    have hlast : atI (bs.map V.ref) (-1) = some (V.ref b) := by
      rw [hbs, List.map_append]
      exact atI_last _ _
    refine ⟨_, rfl, ga, c.G, dg4, _, _, rfl, s5 _ _ og4, T.G.cl, T.G.lots, rfl, 1, rfl, r, _, _, _, rfl, rfl, SqL.of hb, hlast, b, c.L, dx, _, _, rfl, hbx, T.L.cl, T.L.until_, rfl, ?_⟩
    have hd5 := hd4.same s5
    exact act_fin (l := [((Km438.amount x.lots + n : Nat) : Int), ((d.now.today + x.life : Nat) : Int)]) k (congrArg Prod.fst hact) (by rw [hact]; rfl) hd5 (kA.trans (Kp.same s5 [a])) hd5.there (by show 2 ≤ 1000; decide)
end
end Sd

end
section
set_option Elab.async false
set_option linter.all false
set_option maxRecDepth 100000
set_option maxHeartbeats 2000000
namespace L2
open PySem PySem.Spec PyProof.Rows
/-- a comprehension over zip of two lists that stay -/
theorem lc_zip {K : PySem.W.Frag} {a b : Addr} {xs ys : List V} {g : TG} {tt : TT} {te : TE} {vs : List Nat} {σ : St} {H1 : Hp} {D : Addr} {Qd : Hp → Prop} (Pv : Nat → Hp → Prop) (hxy : xs.length = ys.length) (h0 : Pv 0 (upd H1 D (.lst []))) (hl : ∀ i H, i ≤ xs.length → Pv i H → SqL K H a xs ∧ SqL K H b ys)
    (hs : ∀ i x y t H, xs[i]? = some x → ys[i]? = some y → Pv i H → H t = none → g (.ref t) (wipe σ vs) (upd H t (.tup [x, y])) fun σ2 H2 => wipe σ2 vs = wipe σ vs ∧ tt σ2 H2 fun b H3 =>
      if b = true then te σ2 H3 fun y H4 => ∃ acc, H4 D = some (.lst acc) ∧ acc.length < sizeLine ∧ Pv (i + 1) (upd H4 D (.lst (acc ++ [y]))) else Pv (i + 1) H3) (hd : ∀ H, Pv xs.length H → Qd H) :
    ∃ W : Nat → Nat → Hp → Prop, (∃ m, W 0 m (upd H1 D (.lst []))) ∧ ∀ i m H, W i m H →
      ((Itz K a b).stop i H ∧ Qd H) ∨ ((Itz K a b).go i H ∧ ∃ Nx : Hp → Prop, (∀ H', Nx H' → ∃ m', m' < m ∧ W (i + 1) m' H') ∧ ∀ x H', (Itz K a b).yld i H x H' → g x (wipe σ vs) H' fun σ2 H2 => wipe σ2 vs = wipe σ vs ∧ tt σ2 H2 fun b H3 =>
        if b = true then te σ2 H3 fun y H4 => ∃ acc, H4 D = some (.lst acc) ∧ acc.length < sizeLine ∧ Nx (upd H4 D (.lst (acc ++ [y]))) else Nx H3) := by
  refine ⟨fun i m H => m = xs.length - i ∧ i ≤ xs.length ∧ Pv i H, ⟨xs.length, by simp, Nat.zero_le _, h0⟩, ?_⟩
  rintro i m H ⟨rfl, hi, p⟩
  obtain ⟨q1, q2⟩ := hl i H hi p
  by_cases hlt : i < xs.length
  · refine .inr ⟨⟨xs, ys, xs[i], ys[i], q1, q2, by simp [hlt], by simp [← hxy, hlt]⟩, Pv (i + 1), fun H' p' => ⟨xs.length - (i + 1), by omega, rfl, hlt, p'⟩, fun x H' y => ?_⟩
    obtain ⟨t, x', y', rfl, nt, rfl, hx, hy⟩ := y
    exact hs i x' y' t _ (hx xs q1) (hy ys q2) p nt
  · have e : i = xs.length := by omega
    subst e
    exact .inl ⟨⟨xs, ys, q1, q2, .inl (Nat.le_refl _)⟩, hd H p⟩
end L2
namespace Sd
open PySem PySem.Spec PyProof.Rows L2
open Km438 (Good Ship Desk Lots)
section
variable {P : Program} {w : World} {K : PySem.W.Frag} {mg : Str → Option Value} {base : Heap} {c : Cl}
/-! ## end_today -/
def dayF (s : Ship) (g : Good) : Good := g.day (s.persons.getD s.today 0 * g.per) s.today
def dayTo (s : Ship) (i : Nat) : Ship := { s with goods := (s.goods.take i).map (dayF s) ++ s.goods.drop i }
theorem dayTo_at {s : Ship} {i : Nat} {g : Good} (h : s.goods[i]? = some g) : (dayTo s i).goods[i]? = some g := by
  have hi : i < s.goods.length := (List.getElem?_eq_some_iff.mp h).1
  show ((s.goods.take i).map (dayF s) ++ s.goods.drop i)[i]? = some g
  rw [List.getElem?_append_right (by rw [List.length_map, List.length_take]; omega), List.length_map, List.length_take, List.getElem?_drop]
  have : i + (i - min i s.goods.length) = i := by omega
  rw [this]; exact h
theorem dayTo_set {s : Ship} {i : Nat} {g : Good} (h : s.goods[i]? = some g) : (dayTo s i).setGood i (dayF s g) = dayTo s (i + 1) := by
  have hi : i < s.goods.length := (List.getElem?_eq_some_iff.mp h).1
  have el : ((s.goods.take i).map (dayF s)).length = i := by rw [List.length_map, List.length_take]; omega
  have ed : s.goods.drop i = g :: s.goods.drop (i + 1) := by
    rw [List.drop_eq_getElem_cons hi]
    congr 1
    exact (List.getElem?_eq_some_iff.mp h).2
  have : ((s.goods.take i).map (dayF s) ++ s.goods.drop i).set i (dayF s g) = (s.goods.take (i + 1)).map (dayF s) ++ s.goods.drop (i + 1) := by
    rw [List.set_append_right _ _ (by omega), el, Nat.sub_self, ed, take_succ h, List.map_append, List.append_assoc]; rfl
  unfold Km438.Ship.setGood dayTo
  dsimp only
  rw [this]
theorem dayTo_all (s : Ship) : { dayTo s s.goods.length with today := s.today + 1 } = s.day := by
  have e : s.day = { s with today := s.today + 1, goods := s.day.goods } := rfl
  rw [e, day_goods]
  unfold dayTo
  dsimp only
  rw [List.take_length, List.drop_length, List.append_nil]
  rfl
theorem dayTo_zero (s : Ship) : dayTo s 0 = s := rfl
theorem VoyAt.setToday {H : Hp} {v dv : Addr} {s : Ship} {pp qq gg : Addr} {as : List (Addr × Addr)} (t : Nat) (h : VoyAt c H v s pp qq gg as) (ho : H v = some (.ins c.V dv (voyF s pp qq gg))) :
    VoyAt c (L2.upd H v (.ins c.V dv (voyF { s with today := t } pp qq gg))) v { s with today := t } pp qq gg as := by
  have k8 := Kp.upd (H := H) v (.ins c.V dv (voyF { s with today := t } pp qq gg))
  have of8 : Off c [v] H := Off.ins ho (by show 6 ≠ 2; decide)
  have nl : ∀ {q : Addr} {xs : List V}, H q = some (.lst xs) → q ∉ [v] := fun {q xs} e2 z => ne_of e2 ho lst_ne_ins (List.mem_singleton.mp z)
  exact ⟨⟨dv, upd_same⟩, k8 _ _ h.pers (nl h.pers), k8 _ _ h.port (nl h.port), k8 _ _ h.gods (nl h.gods), Paired.mono h.good fun x g q => q.kp k8 of8 fun z => GoodAt.lt8 q c.V dv _ ho (by show 6 ≠ 8; decide) (List.mem_singleton.mp z), h.nd, h.pq, h.gl⟩
def spEnd (c : Cl) : Sp := fun vs H Q _ => ∃ (v : Addr) (s : Ship) (pp qq gg : Addr) (as : List (Addr × Addr)), vs = [.ref v] ∧ VoyAt c H v s pp qq gg as ∧ ShipOk s ∧ s.today ≤ s.last ∧
  ∀ (H' : Hp) (as' : List (Addr × Addr)), VoyAt c H' v s.day pp qq gg as' → as'.map (·.1) = as.map (·.1) → Kp (v :: as.map (·.1)) H H' → Fr H as as' → Q .non H'
theorem sc_end : FnScope ["voyage", "good"] ["voyage"] (defScope st_end_today) := ⟨rfl, rfl, rfl, by decide +kernel, rfl, by decide +kernel, by decide +kernel⟩
theorem ok_end (F : FnAt K mg "end_today" st_end_today) (T : Txt K mg c) (hL : Has P w K mg base 4 "live_day" ["good", "need", "day"] (spLive c)) : Has P w K mg base 5 "end_today" ["voyage"] (spEnd c) := by
  obtain ⟨f, fd, F, m⟩ := F
  obtain ⟨fL, fdL, GL, mL, kL, bL⟩ := hL
  refine ⟨f, fd, ?_, m, F.kp, F.binds fun _ _ _ _ _ _ us hl => match us, hl with | [_], _ => rfl⟩
  refine F.ok sc_end (fun vs H Q E h => ?_) (fun cdv A outer s H vs Q E hr h => ?_)
  · obtain ⟨v, s, pp, qq, gg, as, rfl, _⟩ := h
    rfl
  · obtain ⟨v, sh, pp, qq, gg, as, rfl, hv, ok, hday, k⟩ := h
    obtain ⟨dv, ho⟩ := hv.obj
    refine ⟨_, pss_cons (ps_for PassesOwn.never rfl (pi_list (pe_fld (pv 0) rfl)) (pg_name (i := 1) sc_end.nd rfl (Or.inl rfl))
        (pss_one (ps_expr (pe_call GL hr rfl mL kL bL .nil pass0 (pa_cons (pv 1) (pa_cons (pe_op op_mul (pe_ix ix_list (pe_fld (pv 0) rfl) (pe_fld (pv 0) rfl) (fun _ _ => rfl)) (pe_fld (pv 1) rfl)) (pa_cons (pe_fld (pv 0) rfl) pa_nil)))))))
      (pss_one (ps_fldaug (pv 0) pe_int in_add)), ?_⟩
    have hlt : sh.today < sh.persons.length := by rw [ok.plen]; omega
    have hat : sh.persons[sh.today]? = some (sh.persons.getD sh.today 0) := by rw [List.getD_eq_getElem?_getD, List.getElem?_eq_getElem hlt]; rfl
    have hpm := persons_le ok sh.today
    refine ⟨_, rfl, v, c.V, dv, _, _, rfl, ho, T.V.cl, T.V.goods, rfl, gg, rfl, ⟨_, SqL.of hv.gods⟩, for_list (K := K) (a := gg) (xs := as.map fun x => V.ref x.1)
      (fun i σ H' => ∃ (v1 : Option V) (as' : List (Addr × Addr)), σ = [some (.ref v), v1] ∧ Kp (as.map (·.1)) H H' ∧ as'.map (·.1) = as.map (·.1) ∧ VoyAt c H' v (dayTo sh i) pp qq gg as' ∧ Fr H as as')
      ⟨none, as, rfl, Kp.same (Same.refl _) _, rfl, hv, Fr.refl⟩ (fun i σ H' _ ⟨_, as', _, _, e, h, _⟩ => by rw [map_refs, ← e, ← map_refs]; exact SqL.of h.gods) ?_ ?_⟩
    · rintro i y σ H' hi ⟨v1, as', rfl, kp, ea, hv1, frs⟩
      obtain ⟨x0, hx0, rfl⟩ := map_get hi
      obtain ⟨g, hg, _⟩ := Paired.get2 hv.good hx0
      have gok := ok.good hg
      obtain ⟨x, hx, gA⟩ := Paired.get1 hv1.good (dayTo_at hg)
      have exx : x.1 = x0.1 := by
        have h1 : (as'.map (·.1))[i]? = some x.1 := by rw [List.getElem?_map, hx]; rfl
        have h2 : (as.map (·.1))[i]? = some x0.1 := by rw [List.getElem?_map, hx0]; rfl
        rw [ea, h2] at h1
        exact (Option.some.inj h1).symm
      obtain ⟨ga, gp⟩ := x
      have exx : ga = x0.1 := exx
      subst exx
      obtain ⟨dg, og⟩ := gA.obj
      obtain ⟨dv1, ho1⟩ := hv1.obj
      refine ⟨_, rfl, _, rfl, v, c.V, dv1, _, _, rfl, ho1, T.V.cl, T.V.persons, rfl, _, rfl, v, c.V, dv1, _, _, rfl, ho1, T.V.cl, T.V.today, rfl, pp, _, _, _, rfl, rfl, SqL.of hv1.pers, atI_nat (by show (sh.persons.map nv)[sh.today]? = _; rw [List.getElem?_map, hat]; rfl),
        _, rfl, x0.1, c.G, dg, _, _, rfl, og, T.G.cl, T.G.per, rfl, _, _, rfl, rfl, .inl ⟨(by show -(2 ^ 64) < ((sh.persons.getD sh.today 0 : Nat) : Int); omega), (by show ((sh.persons.getD sh.today 0 : Nat) : Int) < 2 ^ 64; omega)⟩,
        _, rfl, v, c.V, dv1, _, _, rfl, ho1, T.V.cl, T.V.today, rfl, x0.1, gp, g, sh.persons.getD sh.today 0 * g.per, sh.today, rfl, gA, Nat.le_trans gok.few (by decide), gok.pos, fun H2 r k2 nr g2 => ?_⟩
      have ngr : r ≠ gg := (ne_of_none hv1.gods nr).symm
      have hv2 := hv1.setGood hx k2 g2 ngr
      have hv2' : VoyAt c H2 v (dayTo sh (i + 1)) pp qq gg (as'.set i (x0.1, r)) := by
        rw [← dayTo_set hg]; exact hv2
      refine ⟨_, _, rfl, kp.trans (k2.one (List.mem_map.mpr ⟨x0, List.mem_of_getElem? hx0, rfl⟩)), ?_, hv2', frs.set (.inr (kp.nothing (fun m hm => ?_) _ nr))⟩
      · rw [nd_set hx]; exact ea
      · rw [← ea] at hm
        exact hv1.stands m (List.mem_cons_of_mem _ (List.mem_cons_of_mem _ (List.mem_cons_of_mem _ (List.mem_cons_of_mem _ hm))))
    · rintro σ H' ⟨v1, as', rfl, kp, ea, hv1, frs⟩
      rw [List.length_map, Paired.len hv.good] at hv1
      obtain ⟨dv1, ho1⟩ := hv1.obj
      refine ⟨_, rfl, v, c.V, dv1, _, _, rfl, ho1, T.V.cl, T.V.today, rfl, _, _, rfl, rfl, dv1, _, ho1, (by show 6 < 1000; decide), ?_⟩
      have hv2 := hv1.setToday (sh.today + 1) ho1
      rw [dayTo_all] at hv2
      refine k _ as' hv2 ea ((kp.mono fun z hz => List.mem_cons_of_mem _ hz).trans ((Kp.upd (H := H') v _).one List.mem_cons_self)) frs
/-! ## sd_days -/
theorem days_good_lacked {s t : Ship} {g : Nat} : True := trivial
theorem VoyAt.goodsLen {H : Hp} {v : Addr} {s : Ship} {pp qq gg : Addr} {as : List (Addr × Addr)} (h : VoyAt c H v s pp qq gg as) : as.length = s.goods.length := Paired.len h.good
theorem sc_sdays : FnScope ["ship", "n", "voyage", "lacked_before", "passed", "lacking", "good", "before"] ["ship", "n"] (defScope st_sd_days) := ⟨rfl, rfl, rfl, by decide +kernel, rfl, by decide +kernel, by decide +kernel⟩
theorem range_map {α β : Type} (l : List α) (f : α → β) (h : Nat → β) (e : ∀ i x, l[i]? = some x → f x = h i) : l.map f = (List.range l.length).map h := by
  apply List.ext_getElem?
  intro i
  rw [List.getElem?_map, List.getElem?_map]
  by_cases q : i < l.length
  · rw [List.getElem?_eq_getElem q, List.getElem?_range q]
    exact congrArg some (e i _ (List.getElem?_eq_getElem q))
  · rw [List.getElem?_eq_none (by omega), List.getElem?_eq_none (by rw [List.length_range]; omega)]; rfl
theorem ok_sdays (F : FnAt K mg "sd_days" st_sd_days) (T : Txt K mg c) (N : TxtN mg) (hB : Has P w K mg base 5 "begin_change" ["ship"] (spBegin c)) (hE : Has P w K mg base 5 "end_today" ["voyage"] (spEnd c)) (hI : Has P w K mg base 1 "bits_of" ["signs"] spBits) (hS : Has P w K mg base 1 "port_sign" ["voyage"] (spSign c)) :
    Has P w K mg base 6 "sd_days" ["ship", "n"] (spAct c 1 fun l => .days (l.getD 0 0)) := by
  obtain ⟨f, fd, F, m⟩ := F
  obtain ⟨fB, fdB, GB, mB, kB, bB⟩ := hB
  obtain ⟨fE, fdE, GE, mE, kE, bE⟩ := hE
  obtain ⟨fI, fdI, GI, mI, kI, bI⟩ := hI
  obtain ⟨fS, fdS, GS, mS, kS, bS⟩ := hS
  refine ⟨f, fd, ?_, m, F.kp, F.binds fun _ _ _ _ _ _ us hl => match us, hl with | [_, _], _ => rfl⟩
  refine F.ok sc_sdays (fun vs H Q E h => ?_) (fun cdv A outer s H vs Q E hr h => ?_)
  · obtain ⟨a, d, l, rfl, hl, _⟩ := h
    show (l.map nv).length + 1 = 2
    rw [List.length_map, hl]
  · obtain ⟨a, d, l, rfl, hl, hb, hd, ok, k⟩ := h
    obtain ⟨n, rfl⟩ : ∃ n, l = [n] := match l, hl with | [n], _ => ⟨n, rfl⟩
    have k := fun (H' : Hp) (r : Addr) (z1 : DeskAt c H' a (Km438.act d (.days n)).1) z2 z3 (z4 : H' r = some (.lst ((Km438Neutral.told (Km438.act d (.days n)).2).map V.int))) => k H' r z1 z2 z3 z4
    obtain ⟨da, v, pl, ul, ha, hv⟩ := hd.voy
    obtain ⟨pp0, qq0, gg0, as0, hv0⟩ := id hv
    obtain ⟨dv, ho⟩ := hv0.obj
    have hr1 : Room 1 _ := hr.mono (by decide)
    refine ⟨_, pss_cons (ps_if (PW.pt (pw_or (pt_cmpR op_lt (pv 1) pe_int (nomark _)) (pw_or1 (pt_cmpR op_gt (pv 1) (pe_num N.MOST_DAYS (by rfl)) (nomark _))))) (pss_one (ps_ret (pe_lst (pa_cons (pe_num N.NOT_AS_TOLD (by rfl)) pa_nil)))) pss_nil)
      (pss_cons (ps_if (pt_cmpR op_gt (pe_op op_add (pe_fld (pe_fld (pv 0) rfl) rfl) (pv 1)) (pe_op op_add (pe_fld (pe_fld (pv 0) rfl) rfl) pe_int) (nomark _)) (pss_one (ps_ret (pe_lst (pa_cons (pe_num N.TOO_LATE (by rfl)) pa_nil)))) pss_nil)
      (pss_cons (ps_set (i := 2) sc_sdays.nd rfl (Or.inl rfl) (pe_call GB hr rfl mB kB bB .nil pass0 (pa_cons (pv 0) pa_nil)))
      (pss_cons (ps_setLc (i := 3) (te := tFld K (tVar 6) "lacked") rfl sc_sdays.nd rfl rfl (sw_true rfl rfl rfl (by kernel_rfl)) (pi_list (pe_fld (pv 2) rfl)) (blkOk_by (own := [("good", 6)]) (by kernel_rfl))
        (fun _ _ _ _ _ => pg_name (i := 6) sc_sdays.nd rfl (Or.inl rfl)) (fun _ _ _ _ _ => pts_nil) (fun _ _ _ _ _ => by exact pe_fld (pv 6) rfl))
      (pss_cons (ps_for PassesOwn.never rfl (pi_range1 rfl T.B.range (pa_cons (pv 1) pa_nil)) (pg_name (i := 4) sc_sdays.nd rfl (Or.inl rfl))
        (pss_one (ps_expr (pe_call GE hr rfl mE kE bE .nil pass0 (pa_cons (pv 2) pa_nil)))))
      (pss_cons (ps_setLc (i := 5) (g := gTup K 2 (gCons (gName 6) (gCons (gName 7) gNil))) (te := tOp (rI0 fun i j => .bl (decide (j < i))) (tFld K (tVar 6) "lacked") (tVar 7)) rfl sc_sdays.nd rfl rfl (sw_true rfl rfl rfl (by kernel_rfl)) (pi_zip rfl T.B.zip (pa_cons (pe_fld (pv 2) rfl) (pa_cons (pv 3) pa_nil))) (blkOk_by (own := [("good", 6), ("before", 7)]) (by kernel_rfl))
        (fun _ _ _ _ _ => by exact pg_tup rfl (pgs_cons (pg_name (i := 6) sc_sdays.nd rfl (Or.inl rfl)) (pgs_cons (pg_name (i := 7) sc_sdays.nd rfl (Or.inl rfl)) pgs_nil))) (fun _ _ _ _ _ => pts_nil) (fun _ _ _ _ _ => by exact pe_cmpR op_gt (pe_fld (pv 6) rfl) (pv 7) (nomark _)))
      (pss_one (ps_ret (pe_lst (pa_cons (pe_fld (pv 2) rfl) (pa_cons (pe_call GI hr1 rfl mI kI bI .nil pass0 (pa_cons (pv 5) pa_nil)) (pa_cons (pe_call GS hr1 rfl mS kS bS .nil pass0 (pa_cons (pv 2) pa_nil)) pa_nil))))))))))), ?_⟩
    have e1 : decide (((n : Nat) : Int) < 1) = decide (n < 1) := decide_eq_decide.mpr (by omega)
    have e2 : decide ((60 : Int) < ((n : Nat) : Int)) = decide (60 < n) := decide_eq_decide.mpr (by omega)
    refine ⟨_, rfl, _, _, rfl, rfl, _, rfl, ?_⟩
    dsimp only
    rw [e1]
    by_cases h1 : n < 1
    · rw [decide_eq_true h1]
      exact ref_fin k hd (Same.refl _) (by simp only [Km438.act]; rw [if_pos (by omega)])
    rw [decide_eq_false h1]
    refine ⟨_, rfl, _, _, rfl, rfl, _, rfl, ?_⟩
    dsimp only
    rw [e2]
    by_cases h2 : 60 < n
    · rw [decide_eq_true h2]
      exact ref_fin k hd (Same.refl _) (by simp only [Km438.act]; rw [if_pos (by omega)])
    rw [decide_eq_false h2]
    refine ⟨_, rfl, a, c.S, da, _, _, rfl, ha, T.S.cl, T.S.voyage, rfl, v, c.V, dv, _, _, rfl, ho, T.V.cl, T.V.today, rfl, _, rfl, _, _, rfl, rfl, _, rfl, a, c.S, da, _, _, rfl, ha, T.S.cl, T.S.voyage, rfl, v, c.V, dv, _, _, rfl, ho, T.V.cl, T.V.last, rfl, _, _, rfl, rfl, _, _, rfl, rfl, _, rfl, ?_⟩
    have e3 : decide (((d.now.last : Nat) : Int) + 1 < ((d.now.today : Nat) : Int) + ((n : Nat) : Int)) = decide (d.now.last + 1 < d.now.today + n) := decide_eq_decide.mpr (by omega)
    dsimp only
    rw [e3]
    by_cases h3 : d.now.last + 1 < d.now.today + n
    · rw [decide_eq_true h3]
      exact ref_fin k hd (Same.refl _) (by simp only [Km438.act]; rw [if_neg (by omega), if_pos h3])
    rw [decide_eq_false h3]
    have hgl := ok.now.glen
    obtain ⟨dl1, dl2, dl3, dl4, dl5, dl6⟩ := days_last n d.now
    have hact : Km438.act d (.days n) = (d.become (d.now.days n), ⟨(((d.now.days n).today : Nat) : Int), [Km438.bits ((List.range (d.now.days n).goods.length).filter fun g => decide ((d.now.good g).lacked < ((d.now.days n).good g).lacked)), Km438.bit ((d.now.days n).ports.contains (d.now.days n).today)]⟩) := by
      simp only [Km438.act]
      rw [if_neg (by omega), if_neg h3]
    refine ⟨_, rfl, a, d, rfl, hd, ok, fun H1 v1 pp qq gg as hv1 k1 fr1 wand => ?_⟩
    obtain ⟨dv1, ho1⟩ := hv1.obj
    -- what lacked before
    refine ⟨_, rfl, v1, c.V, dv1, _, _, rfl, ho1, T.V.cl, T.V.goods, rfl, gg, rfl, ⟨_, SqL.of hv1.gods⟩, fun D hD => lc_list (K := K) (xs := as.map fun x => V.ref x.1)
      (fun i H' => Same H1 H' ∧ H' D = some (.lst ((d.now.goods.take i).map fun g => nv g.lacked))) ⟨Same.upd _ hD, upd_same⟩ (fun i H' _ ⟨s1, _⟩ => SqL.of (s1 _ _ hv1.gods)) ?_ ?_⟩
    · rintro i y H' hi ⟨s1, h1⟩
      obtain ⟨x, hx, rfl⟩ := map_get hi
      obtain ⟨g, hg, gA⟩ := Paired.get2 hv1.good hx
      obtain ⟨dg, og⟩ := gA.obj
      refine ⟨rfl, _, rfl, x.1, c.G, dg, _, _, rfl, s1 _ _ og, T.G.cl, T.G.lacked, rfl, _, h1, ?_, Same.put _ s1 hD, ?_⟩
      · rw [List.length_map, List.length_take]
        exact line_of (by omega)
      · rw [upd_same, take_succ hg, List.map_append]; rfl
    rintro H2 ⟨s2, h2'⟩
    rw [List.length_map, hv1.goodsLen, List.take_length] at h2'
    have nD : D ∉ mutable v1 pp qq gg as := fun z => by
      have some_of : ∀ m ∈ mutable v1 pp qq gg as, ∃ o, H1 m = some o := fun m hm => by
        rcases List.mem_cons.mp hm with z | hm
        · rw [z]; exact ⟨_, ho1⟩
        rcases List.mem_cons.mp hm with z | hm
        · rw [z]; exact ⟨_, hv1.pers⟩
        rcases List.mem_cons.mp hm with z | hm
        · rw [z]; exact ⟨_, hv1.port⟩
        rcases List.mem_cons.mp hm with z | hm
        · rw [z]; exact ⟨_, hv1.gods⟩
        obtain ⟨x, hx, z⟩ := List.mem_map.mp hm
        obtain ⟨j, hj⟩ := List.getElem?_of_mem hx
        obtain ⟨gj, _, gJ⟩ := Paired.get2 hv1.good hj
        obtain ⟨dj, oj⟩ := gJ.obj
        rw [← z]; exact ⟨_, oj⟩
      obtain ⟨o, e⟩ := some_of D z
      rw [hD] at e; cases e
    -- the days go by
    refine ⟨_, rfl, ((n : Nat) : Int), rfl, (by omega), (by omega), for_range (fun i σ H' => ∃ (v4 : Option V) (as' : List (Addr × Addr)), σ = [some (.ref a), some (nv n), some (.ref v1), some (.ref D), v4, none, none, none] ∧ Kp (mutable v1 pp qq gg as) H2 H' ∧ as'.map (·.1) = as.map (·.1) ∧ VoyAt c H' v1 (d.now.days i) pp qq gg as' ∧ Fr H2 as as')
      ⟨none, as, rfl, Kp.same (Same.refl _) _, rfl, hv1.same s2, Fr.refl⟩ ?_ ?_⟩
    · rintro i σ H' hi ⟨v4, as', rfl, kp, ea, hv2, frs⟩
      have hi2 : i < ((n : Nat) : Int).toNat := hi
      have oki : ShipOk (d.now.days i) := ok.now.days (by omega)
      obtain ⟨q1, q2, q3, q4, q5, q6⟩ := days_last i d.now
      refine ⟨_, rfl, v1, d.now.days i, pp, qq, gg, as', rfl, hv2, oki, by rw [q1, q3]; omega, fun H3 as3 hv3 ea3 k3 fr3 => ?_⟩
      refine ⟨_, as3, rfl, kp.trans (k3.mono fun z hz => ?_), ea3.trans ea, ?_, frs.trans fr3 (kp.nothing fun m hm => ?_)⟩
      · rw [ea] at hz
        rcases List.mem_cons.mp hz with q | q
        · rw [q]; exact List.mem_cons_self
        · exact List.mem_cons_of_mem _ (List.mem_cons_of_mem _ (List.mem_cons_of_mem _ (List.mem_cons_of_mem _ q)))
      · rw [days_succ]; exact hv3
      · rw [mutable, ← ea] at hm
        exact hv2.stands m hm
    rintro σ H3 ⟨v4, as3, rfl, k3, ea3, hv3, frs⟩
    have en : ((n : Nat) : Int).toNat = n := Int.toNat_natCast n
    rw [en] at hv3
    have okn : ShipOk (d.now.days n) := ok.now.days (by omega)
    obtain ⟨dv3, ho3⟩ := hv3.obj
    have hD3 := k3 _ _ h2' nD
    have hlen3 := hv3.goodsLen
    -- what lacks now
    let fl : Nat → Bool := fun i => decide ((d.now.good i).lacked < ((d.now.days n).good i).lacked)
    refine ⟨_, rfl, v1, c.V, dv3, _, _, rfl, ho3, T.V.cl, T.V.goods, rfl, _, rfl, gg, D, _, _, rfl, SqL.of hv3.gods, SqL.of hD3, fun L hL => lc_zip (K := K) (xs := as3.map fun x => V.ref x.1) (ys := d.now.goods.map fun g => nv g.lacked)
      (fun i H' => Same H3 H' ∧ H' L = some (.lst (((List.range i).map fl).map V.bl))) (by rw [List.length_map, List.length_map, hlen3, dl6]) ⟨Same.upd _ hL, upd_same⟩ (fun i H' _ ⟨s4, _⟩ => ⟨SqL.of (s4 _ _ hv3.gods), SqL.of (s4 _ _ hD3)⟩) ?_ ?_⟩
    · rintro i y z t H' hi hj ⟨s4, h4⟩ nt
      obtain ⟨x, hx, rfl⟩ := map_get hi
      obtain ⟨g0, hg0, rfl⟩ := map_get hj
      obtain ⟨g, hg, gA⟩ := Paired.get2 hv3.good hx
      obtain ⟨dg, og⟩ := gA.obj
      have hi3 : i < d.now.goods.length := (List.getElem?_eq_some_iff.mp hg0).1
      have s5 := s4.trans (Same.upd (.tup [V.ref x.1, nv g0.lacked]) nt)
      have h5 := (Same.upd (.tup [V.ref x.1, nv g0.lacked]) nt) _ _ h4
      refine ⟨t, _, rfl, SqT.of upd_same, rfl, _, _, rfl, _, _, rfl, rfl, rfl, ?_⟩
      refine ⟨_, rfl, x.1, c.G, dg, _, _, rfl, s5 _ _ og, T.G.cl, T.G.lacked, rfl, _, rfl, _, _, rfl, rfl, _, h5, ?_, Same.put _ s5 hL, ?_⟩
      · rw [List.length_map, List.length_map, List.length_range]
        exact line_of (by omega)
      · dsimp only
        rw [dec_lt, upd_same, List.range_succ, List.map_append, List.map_append]
        have e : fl i = decide (g0.lacked < g.lacked) := by
          show decide ((d.now.good i).lacked < ((d.now.days n).good i).lacked) = _
          rw [good_at hg0, good_at hg]
        show _ = some (HO.lst (_ ++ [V.bl (fl i)]))
        rw [e]
    rintro H4 ⟨s4, h4⟩
    rw [List.length_map, hlen3] at h4
    have hv4 := hv3.same s4
    obtain ⟨dv4, ho4⟩ := hv4.obj
    refine ⟨_, rfl, v1, c.V, dv4, _, _, rfl, ho4, T.V.cl, T.V.today, rfl, _, rfl, L, (List.range (d.now.days n).goods.length).map fl, rfl, h4, ?_, _, rfl, v1, d.now.days n, rfl, ⟨_, _, _, _, hv4⟩, okn, ?_⟩
    · rw [List.length_map, List.length_range, dl6]; omega
    · rw [bitsFrom_range]
      have k4 : Kp (mutable v1 pp qq gg as) H1 H4 := ((Kp.same s2 _).trans k3).trans (Kp.same s4 _)
      have hd4 := wand _ _ _ k4 hv4 fun x hx => (frs x hx).imp id s2.free
      exact act_fin (l := [(((d.now.days n).today : Nat) : Int), ((Km438.bits ((List.range (d.now.days n).goods.length).filter fl) : Nat) : Int), ((Km438.bit ((d.now.days n).ports.contains (d.now.days n).today) : Nat) : Int)]) k (congrArg Prod.fst hact) (by rw [hact]; rfl) hd4 (Kp.drop k1 k4 fun z hz => .inl (fr1 z hz)) hd4.there (by show 3 ≤ 1000; decide)
end
end Sd

end
section
set_option Elab.async false
set_option linter.all false
set_option maxRecDepth 100000
set_option maxHeartbeats 2000000
namespace Sd
open PySem PySem.Spec PyProof.Rows L2
open Km438 (Good Ship Desk Lots)
section
variable {P : Program} {w : World} {K : PySem.W.Frag} {mg : Str → Option Value} {base : Heap} {c : Cl}
/-- the object: not started, or at a desk -/
def StAt (c : Cl) (H : Hp) (a : Addr) : Option Desk → Prop
  | none => ∃ da pl ul, H a = some (.ins c.S da (shipF .non pl ul)) ∧ H pl = some (.lst []) ∧ H ul = some (.lst [])
  | some d => DeskAt c H a d ∧ DeskOk d
theorem StAt.same {H H' : Hp} {a : Addr} {s : Option Desk} (k : Same H H') (h : StAt c H a s) : StAt c H' a s := by
  cases s with
  | none =>
    obtain ⟨da, pl, ul, h1, h2, h3⟩ := h
    exact ⟨da, pl, ul, k _ _ h1, k _ _ h2, k _ _ h3⟩
  | some d => exact ⟨h.1.same k, h.2⟩
theorem StAt.obj {H : Hp} {a : Addr} {s : Option Desk} (h : StAt c H a s) : ∃ da x pl ul, H a = some (.ins c.S da (shipF x pl ul)) := by
  cases s with
  | none =>
    obtain ⟨da, pl, ul, h1, _⟩ := h
    exact ⟨da, _, pl, ul, h1⟩
  | some d =>
    obtain ⟨da, v, pl, ul, h1, _⟩ := h.1.voy
    exact ⟨da, _, pl, ul, h1⟩
theorem StAt.lists {H : Hp} {a : Addr} {s : Option Desk} (h : StAt c H a s) : ∃ da x pl ul, ∃ vs us : List Addr, H a = some (.ins c.S da (shipF x pl ul)) ∧ H pl = some (.lst (vs.map V.ref)) ∧ H ul = some (.lst (us.map V.ref)) := by
  cases s with
  | none =>
    obtain ⟨da, pl, ul, h1, h2, h3⟩ := h
    exact ⟨da, _, pl, ul, [], [], h1, h2, h3⟩
  | some d =>
    obtain ⟨⟨da, v, pl, ul, vs, us, h1, h2, h3, _⟩, _⟩ := h
    exact ⟨da, _, pl, ul, vs, us, h1, h2, h3⟩
/-- all that stood stands, but the ship and its two lists -/
def Kq (c : Cl) (a : Addr) (H H' : Hp) : Prop := ∀ b o, H b = some o → b ≠ a → (∀ da x pl ul, H a = some (.ins c.S da (shipF x pl ul)) → b ≠ pl ∧ b ≠ ul) → H' b = some o
theorem Kq.of {a : Addr} {H H' : Hp} (k : Kp [a] H H') : Kq c a H H' := fun b o e n _ => k b o e fun z => n (List.mem_singleton.mp z)
theorem Kq.keep {a b : Addr} {H H' : Hp} {s : Option Desk} {o : HO} (k : Kq c a H H') (st : StAt c H a s) (e : H b = some o) (hl : ∀ bs : List Addr, o ≠ .lst (bs.map V.ref)) (hi : ∀ C d fs, o ≠ .ins C d fs) : H' b = some o := by
  obtain ⟨da, x, pl, ul, vs, us, e0, e1, e2⟩ := st.lists
  refine k b o e (ne_of e e0 (hi _ _ _)) fun da' x' pl' ul' z => ?_
  have q := (HO.ins.inj (Option.some.inj (e0.symm.trans z))).2.2
  unfold shipF at q
  injection q with _ q
  injection q with q1 q
  injection q with q2 _
  injection q1 with _ q1
  injection q2 with _ q2
  injection q1 with q1
  injection q2 with q2
  rw [← q1, ← q2]
  exact ⟨ne_of e e1 (hl _), ne_of e e2 (hl _)⟩
theorem ints_ne_refs {l : List Int} {bs : List Addr} (h : l ≠ []) : HO.lst (l.map V.int) ≠ HO.lst (bs.map V.ref) := fun z => by
  injection z with z
  cases l with
  | nil => exact h rfl
  | cons a r =>
    cases bs with
    | nil => cases z
    | cons b bs =>
      have e := (List.cons.inj z).1
      cases e
theorem Kq.seq {a q : Addr} {H H' : Hp} {s : Option Desk} {l : List Int} (k : Kq c a H H') (st : StAt c H a s) (hl : l ≠ []) (h : SqL K H q (l.map V.int)) : SqL K H' q (l.map V.int) := by
  rcases h with (h | ⟨o, h⟩) | h
  · exact .inl (.inl (k.keep st h (fun bs => ints_ne_refs hl) fun _ _ _ z => by cases z))
  · exact .inl (.inr ⟨o, k.keep st h (fun bs z => by cases z) fun _ _ _ z => by cases z⟩)
  · exact .inr h
theorem SqL.putNe {q D : Addr} {H : Hp} {xs : List V} {o : HO} (h : SqL K H q xs) (n : q ≠ D) : SqL K (L2.upd H D o) q xs := by
  rcases h with (h | ⟨u, h⟩) | h
  · exact .inl (.inl ((upd_ne n).trans h))
  · exact .inl (.inr ⟨u, (upd_ne n).trans h⟩)
  · exact .inr h
theorem start_step (s : Option Desk) (x y z : Nat) : stepN s [[0, (x : Int), (y : Int), (z : Int)]] = if Km438.okStart x y z = false then (s, [-22]) else (some ⟨Km438.opened x y z, [], []⟩, [0]) := by
  have e : Km438Neutral.callOf [[0, (x : Int), (y : Int), (z : Int)]] = some (.start x y z) := rfl
  unfold stepN Km438Neutral.step
  rw [e]
  cases s with
  | some d =>
    dsimp only
    simp only [Km438.act]
    by_cases h : Km438.okStart x y z = false
    · rw [if_pos h, if_pos h]; rfl
    · rw [if_neg h, if_neg h]; rfl
  | none =>
    dsimp only
    generalize hA : Km438.act (Km438.fresh 1 1 0) (.start x y z) = A
    simp only [Km438.act] at hA
    by_cases h : Km438.okStart x y z = false
    · rw [if_pos h] at hA ⊢
      subst hA; rfl
    · rw [if_neg h] at hA ⊢
      subst hA; rfl
def spStart (c : Cl) : Sp := fun vs H Q _ => ∃ (a : Addr) (s : Option Desk) (x y z : Nat), vs = [.ref a, nv x, nv y, nv z] ∧ StAt c H a s ∧
  ∀ (H' : Hp) (r : Addr), StAt c H' a (stepN s [[0, (x : Int), (y : Int), (z : Int)]]).1 → Kp [a] H H' → H r = none → H' r = some (.lst ((stepN s [[0, (x : Int), (y : Int), (z : Int)]]).2.map V.int)) → Q (.ref r) H'
theorem sc_start : FnScope ["ship", "last", "room", "persons"] ["ship", "last", "room", "persons"] (defScope st_sd_start) := ⟨rfl, rfl, rfl, by decide +kernel, rfl, by decide +kernel, by decide +kernel⟩
theorem okStart_iff (x y z : Nat) : Km438.okStart x y z = false ↔ x < 1 ∨ 60 < x ∨ y < 1 ∨ 1000000000 < y ∨ 5000 < z := by
  unfold Km438.okStart Km438.LONGEST Km438.MOST
  rw [← Bool.not_eq_true, Bool.and_eq_true, Bool.and_eq_true, Bool.and_eq_true, Bool.and_eq_true, decide_eq_true_eq, decide_eq_true_eq, decide_eq_true_eq, decide_eq_true_eq, decide_eq_true_eq]
  omega
theorem ok_start (F : FnAt K mg "sd_start" st_sd_start) (T : Txt K mg c) (N : TxtN mg) (hV : Makes P w K mg base 1 "Voyage" c.V ["self", "last", "room", "persons"] (spVoy c)) (hB : Has P w K mg base 1 "begin_voyage" ["ship", "voyage"] (spBeginV c)) :
    Has P w K mg base 3 "sd_start" ["ship", "last", "room", "persons"] (spStart c) := by
  obtain ⟨f, fd, F, m⟩ := F
  obtain ⟨fV, fdV, MV, GV, bV, mV⟩ := hV
  obtain ⟨fB, fdB, GB, mB, kB, bB⟩ := hB
  refine ⟨f, fd, ?_, m, F.kp, F.binds fun _ _ _ _ _ _ us hl => match us, hl with | [_, _, _, _], _ => rfl⟩
  refine F.ok sc_start (fun vs H Q E h => ?_) (fun cdv A outer s H vs Q E hr h => ?_)
  · obtain ⟨a, s, x, y, z, rfl, _⟩ := h
    rfl
  · obtain ⟨a, st, x, y, z, rfl, hst, k⟩ := h
    rw [start_step] at k
    have hr1 : Room 1 _ := hr.mono (by decide)
    obtain ⟨da, x0, pl, ul, ha⟩ := hst.obj
    refine ⟨_, pss_cons (ps_if (PW.pt (pw_or (pt_cmpR op_lt (pv 1) pe_int (nomark _)) (pw_or (pt_cmpR op_gt (pv 1) (pe_num N.LATEST_LAST (by rfl)) (nomark _)) (pw_or (pt_cmpR op_lt (pv 2) pe_int (nomark _)) (pw_or (pt_cmpR op_gt (pv 2) (pe_num N.MOST_UNITS (by rfl)) (nomark _)) (pw_or1 (pt_cmpR op_gt (pv 3) (pe_num N.MOST_PERSONS (by rfl)) (nomark _)))))))) (pss_one (ps_ret (pe_lst (pa_cons (pe_num N.NOT_AS_TOLD (by rfl)) pa_nil)))) pss_nil)
      (pss_cons (ps_expr (pe_call GB hr1 rfl mB kB bB .nil pass0 (pa_cons (pv 0) (pa_cons (pe_make MV GV hr rfl mV bV .nil pass0 (pa_cons (pv 1) (pa_cons (pv 2) (pa_cons (pv 3) pa_nil)))) pa_nil))))
      (pss_one (ps_ret (pe_lst (pa_cons pe_int pa_nil))))), ?_⟩
    have refuse : Km438.okStart x y z = false → 1 ≤ sizeLine ∧ ∀ r, H r = none → Q (.ref r) (L2.upd H r (.lst [V.int (-22)])) := fun e => by
      rw [if_pos e] at k
      exact ⟨by decide, fun r nr => k _ r (hst.same (Same.upd _ nr)) (Kp.same (Same.upd _ nr) [a]) nr upd_same⟩
    have iff := okStart_iff x y z
    have e1 : decide (((x : Nat) : Int) < 1) = decide (x < 1) := decide_eq_decide.mpr (by omega)
    have e2 : decide ((60 : Int) < ((x : Nat) : Int)) = decide (60 < x) := decide_eq_decide.mpr (by omega)
    have e3 : decide (((y : Nat) : Int) < 1) = decide (y < 1) := decide_eq_decide.mpr (by omega)
    have e4 : decide ((1000000000 : Int) < ((y : Nat) : Int)) = decide (1000000000 < y) := decide_eq_decide.mpr (by omega)
    have e5 : decide ((5000 : Int) < ((z : Nat) : Int)) = decide (5000 < z) := decide_eq_decide.mpr (by omega)
    refine ⟨_, rfl, _, _, rfl, rfl, _, rfl, ?_⟩
    dsimp only
    rw [e1]
    by_cases h1 : x < 1
    · rw [decide_eq_true h1]; exact refuse (iff.mpr (by omega))
    rw [decide_eq_false h1]
    refine ⟨_, rfl, _, _, rfl, rfl, _, rfl, ?_⟩
    dsimp only
    rw [e2]
    by_cases h2 : 60 < x
    · rw [decide_eq_true h2]; exact refuse (iff.mpr (by omega))
    rw [decide_eq_false h2]
    refine ⟨_, rfl, _, _, rfl, rfl, _, rfl, ?_⟩
    dsimp only
    rw [e3]
    by_cases h3 : y < 1
    · rw [decide_eq_true h3]; exact refuse (iff.mpr (by omega))
    rw [decide_eq_false h3]
    refine ⟨_, rfl, _, _, rfl, rfl, _, rfl, ?_⟩
    dsimp only
    rw [e4]
    by_cases h4 : 1000000000 < y
    · rw [decide_eq_true h4]; exact refuse (iff.mpr (by omega))
    rw [decide_eq_false h4]
    refine ⟨_, rfl, _, _, rfl, rfl, _, rfl, ?_⟩
    dsimp only
    rw [e5]
    by_cases h5 : 5000 < z
    · rw [decide_eq_true h5]; exact refuse (iff.mpr (by omega))
    rw [decide_eq_false h5]
    have hno : ¬ Km438.okStart x y z = false := fun q => by have := iff.mp q; omega
    rw [if_neg hno] at k
    have hyes : Km438.okStart x y z = true := by
      cases q : Km438.okStart x y z with
      | true => rfl
      | false => exact absurd q hno
    refine ⟨_, rfl, _, rfl, _, rfl, _, rfl, fun v dv nv_ ndv nev => ⟨v, dv, x, y, z, rfl, by omega, upd_same, fun H1 pp qq gg f1 g1 h1' i1 n1 n2 n3 npq k1 => ⟨rfl, ?_⟩⟩⟩
    have s1 : Same H H1 := made_same nv_ ndv k1
    have a1 := s1 _ _ ha
    have hv1 : VoyAt c H1 v (Km438.opened x y z) pp qq gg [] := ⟨⟨dv, f1⟩, g1, by rw [signs_opened]; exact h1', i1, .nil, List.nodup_nil, npq, fun q hq => by cases hq⟩
    refine ⟨a, da, v, x0, pl, ul, rfl, a1, fun H2 pl' ul' a2 p2 u2 np nu npu k2 => ?_⟩
    have hv2 := hv1.keepS (hid_fr k2 np nu) a1 rfl
    have hd2 : StAt c H2 a (some ⟨Km438.opened x y z, [], []⟩) := ⟨⟨da, v, pl', ul', [], [], a2, p2, u2, npu, ⟨_, _, _, _, hv2⟩, .nil, .nil⟩, opened_ok hyes, fun q hq => (by cases hq), fun q hq => (by cases hq), Nat.zero_le _⟩
    have kA : Kp [a] H H2 := (Kp.same s1 [a]).trans k2
    refine ⟨(by show 1 ≤ sizeLine; decide), fun r nr => ?_⟩
    have zr := kA.free a2 nr
    exact k _ r (hd2.same (Same.upd _ nr)) (kA.put _ zr) zr upd_same
/-! ## answers -/
def counts : List Nat := [3, 2, 2, 2, 2, 2, 2, 1, 1, 1, 2, 3, 1, 1, 2, 1, 1, 0, 0, 0, 1, 0, 0, 0]
theorem shape_counts {p : Int} {n k : Nat} (h : PyKm438.shape p = some (n, k)) : ∃ q : Nat, p = (q : Int) ∧ counts[q]? = some n := by
  obtain ⟨_, h0, h1⟩ := shape_of h
  obtain ⟨q, rfl⟩ : ∃ q : Nat, p = (q : Int) := ⟨p.toNat, by omega⟩
  refine ⟨q, rfl, ?_⟩
  have hq : q < 24 := by omega
  have all : ∀ q : Nat, q < 24 → ∀ n k, PyKm438.shape ((q : Nat) : Int) = some (n, k) → counts[q]? = some n := by
    intro q hq
    match q, hq with
    | 0, _ | 1, _ | 2, _ | 3, _ | 4, _ | 5, _ | 6, _ | 7, _ | 8, _ | 9, _ | 10, _ | 11, _ | 12, _ | 13, _ | 14, _ | 15, _ | 16, _ | 17, _ | 18, _ | 19, _ | 20, _ | 21, _ | 22, _ | 23, _ =>
      intro n k h
      have := (Prod.mk.inj (Option.some.inj (show some _ = some (n, k) from h))).1
      exact congrArg some this
    | q + 24, hq => omega
  exact all q hq n k h
end
end Sd

end
section
set_option Elab.async false
set_option linter.all false
set_option maxRecDepth 100000
set_option maxHeartbeats 2000000
namespace Sd
open PySem PySem.Spec PyProof.Rows L2
open Km438 (Good Ship Desk Lots)
theorem Paired.unsnoc {α β : Type} {F : α → β → Prop} {y : β} : ∀ {k : List β} {l : List α}, Paired F l (k ++ [y]) → ∃ l' x, l = l' ++ [x] ∧ Paired F l' k ∧ F x y
  | [], _, .cons r .nil => ⟨[], _, rfl, .nil, r⟩
  | _ :: k, _, .cons r t => by
    obtain ⟨l', x, e, h1, h2⟩ := Paired.unsnoc (k := k) t
    exact ⟨_ :: l', x, by rw [e]; rfl, .cons r h1, h2⟩
section
variable {P : Program} {w : World} {K : PySem.W.Frag} {mg : Str → Option Value} {base : Heap} {c : Cl}
/-- the ship and its two lists are written: the voyages stay -/
theorem hist_keep {H H3 : Hp} {a da v v' pl ul : Addr} {x y : Addr} {s : Ship} (ha : H a = some (.ins c.S da (shipF (.ref v) pl ul))) (hn : a ≠ pl ∧ a ≠ ul) (h : ∀ b, b ≠ a → b ≠ pl → b ≠ ul → H3 b = H b) (q : VoyX c (hid H pl ul) x s) : VoyX c (hid H3 pl ul) x s := by
  have k : Kp [a] (hid H pl ul) (hid H3 pl ul) := fun b o e n => by
    obtain ⟨h1, h2, h3⟩ := hid_of e
    rw [hid_ne h1 h2, h b (fun z => n (List.mem_singleton.mpr z)) h1 h2]
    exact h3
  exact q.keepS k ((hid_ne hn.1 hn.2).trans ha) rfl
/-! ## take_back -/
def spBack (c : Cl) : Sp := fun vs H Q _ => ∃ (a : Addr) (d : Desk) (s : Ship) (p : List Ship), vs = [.ref a] ∧ DeskAt c H a d ∧ d.past = s :: p ∧ d.future.length ≤ 100 ∧
  ∀ H' : Hp, DeskAt c H' a ⟨s, p, d.now :: d.future⟩ → Kq c a H H' → (∀ q, H' q = none → H q = none) → Q .non H'
theorem sc_back : FnScope ["ship"] ["ship"] (defScope st_take_back) := ⟨rfl, rfl, rfl, by decide +kernel, rfl, by decide +kernel, by decide +kernel⟩
theorem ok_back (F : FnAt K mg "take_back" st_take_back) (T : Txt K mg c) : Has P w K mg base 1 "take_back" ["ship"] (spBack c) := by
  obtain ⟨f, fd, F, m⟩ := F
  refine ⟨f, fd, ?_, m, F.kp, F.binds fun _ _ _ _ _ _ us hl => match us, hl with | [_], _ => rfl⟩
  refine F.ok sc_back (fun vs H Q E h => ?_) (fun cdv A outer s H vs Q E hr h => ?_)
  · obtain ⟨a, d, s, p, rfl, _⟩ := h
    rfl
  · obtain ⟨a, d, s', p, rfl, ⟨da, v, pl, ul, vs, us, ha, hpl, hul, npu, hv, hvs, hus⟩, ep, few, k⟩ := h
    refine ⟨_, pss_cons (ps_expr (pe_bm PySem.F.plainAttrs_list PySem.F.slot_list_append PySem.F.type_list_append mt_append (pe_fld (pv 0) rfl) (pa_cons (pe_fld (pv 0) rfl) pa_nil)))
      (pss_one (ps_fld (pv 0) (pe_bm0 PySem.F.plainAttrs_list PySem.F.slot_list_pop PySem.F.type_list_pop mt_pop (pe_fld (pv 0) rfl)) rfl)), ?_⟩
    rw [ep, List.reverse_cons] at hvs
    obtain ⟨vs', v', rfl, hvs', hv'⟩ := Paired.unsnoc hvs
    have n1 : a ≠ pl := (ne_of hpl ha lst_ne_ins).symm
    have n2 : a ≠ ul := (ne_of hul ha lst_ne_ins).symm
    have hlen := Paired.len hus
    rw [List.length_reverse] at hlen
    refine ⟨_, rfl, a, c.S, da, _, _, rfl, ha, T.S.cl, T.S.undone, rfl, .inl ⟨rfl, _, SqL.of hul⟩, _, rfl, a, c.S, da, _, _, rfl, ha, T.S.cl, T.S.voyage, rfl, ul, _, _, rfl, rfl, hul, (by rw [List.length_map, hlen]; exact line_of (by omega)), ?_⟩
    have ha1 : L2.upd H ul (.lst (us.map V.ref ++ [V.ref v])) a = _ := (upd_ne n2).trans ha
    have hp1 : L2.upd H ul (.lst (us.map V.ref ++ [V.ref v])) pl = _ := (upd_ne npu).trans hpl
    have hu1 := upd_same (H := H) (a := ul) (o := .lst (us.map V.ref ++ [V.ref v]))
    have b1 : ∀ b, b ≠ ul → L2.upd H ul (.lst (us.map V.ref ++ [V.ref v])) b = H b := fun b hb => upd_ne hb
    generalize L2.upd H ul (.lst (us.map V.ref ++ [V.ref v])) = H1 at ha1 hp1 hu1 b1 ⊢
    refine ⟨_, rfl, a, c.S, da, _, _, rfl, ha1, T.S.cl, T.S.past, rfl, .inl ⟨rfl, _, SqL.of hp1⟩, pl, _, V.ref v', rfl, rfl, hp1, (by rw [List.map_append]; simp), ?_⟩
    have ed : ((vs' ++ [v']).map V.ref).dropLast = vs'.map V.ref := by rw [List.map_append]; exact List.dropLast_concat
    rw [ed]
    have ha2 : L2.upd H1 pl (.lst (vs'.map V.ref)) a = _ := (upd_ne n1).trans ha1
    have hp2 := upd_same (H := H1) (a := pl) (o := .lst (vs'.map V.ref))
    have hu2 : L2.upd H1 pl (.lst (vs'.map V.ref)) ul = _ := (upd_ne npu.symm).trans hu1
    have b2 : ∀ b, b ≠ pl → L2.upd H1 pl (.lst (vs'.map V.ref)) b = H1 b := fun b hb => upd_ne hb
    generalize L2.upd H1 pl (.lst (vs'.map V.ref)) = H2 at ha2 hp2 hu2 b2 ⊢
    refine ⟨_, rfl, a, c.S, da, _, rfl, ha2, T.S.cl, T.S.voyage, (by show 3 < 1000; decide), ?_⟩
    have b3 : ∀ b, b ≠ a → b ≠ pl → b ≠ ul → L2.upd H2 a (.ins c.S da (putF "voyage" (.ref v') (shipF (.ref v) pl ul))) b = H b := fun b h1 h2 h3 => by rw [upd_ne h1, b2 b h2, b1 b h3]
    refine k _ ⟨da, v', pl, ul, vs', us ++ [v], upd_same, (upd_ne n1.symm).trans hp2, ?_, npu, hist_keep (y := a) (v' := v') ha ⟨n1, n2⟩ b3 hv', Paired.mono hvs' fun x y q => hist_keep (y := a) (v' := v') ha ⟨n1, n2⟩ b3 q, ?_⟩ ?_ ?_
    · rw [upd_ne n2.symm, hu2, List.map_append]; rfl
    · show Paired _ _ (d.now :: d.future).reverse
      rw [List.reverse_cons]
      exact Paired.app (Paired.mono hus fun x y q => hist_keep (y := a) (v' := v') ha ⟨n1, n2⟩ b3 q) (Paired.one (hist_keep (y := a) (v' := v') ha ⟨n1, n2⟩ b3 hv))
    · intro b o e nb hb
      obtain ⟨h1, h2⟩ := hb da _ pl ul ha
      rw [b3 b nb h1 h2]; exact e
    · intro q hq
      by_cases z1 : q = a
      · rw [z1, upd_same] at hq; cases hq
      by_cases z2 : q = pl
      · rw [z2, upd_ne n1.symm, hp2] at hq; cases hq
      by_cases z3 : q = ul
      · rw [z3, upd_ne n2.symm, hu2] at hq; cases hq
      rw [← b3 q z1 z2 z3]; exact hq
/-! ## do_again -/
def spAgain (c : Cl) : Sp := fun vs H Q _ => ∃ (a : Addr) (d : Desk) (s : Ship) (p : List Ship), vs = [.ref a] ∧ DeskAt c H a d ∧ d.future = s :: p ∧ d.past.length ≤ 100 ∧
  ∀ H' : Hp, DeskAt c H' a ⟨s, d.now :: d.past, p⟩ → Kq c a H H' → (∀ q, H' q = none → H q = none) → Q .non H'
theorem sc_again : FnScope ["ship"] ["ship"] (defScope st_do_again) := ⟨rfl, rfl, rfl, by decide +kernel, rfl, by decide +kernel, by decide +kernel⟩
theorem ok_again (F : FnAt K mg "do_again" st_do_again) (T : Txt K mg c) : Has P w K mg base 1 "do_again" ["ship"] (spAgain c) := by
  obtain ⟨f, fd, F, m⟩ := F
  refine ⟨f, fd, ?_, m, F.kp, F.binds fun _ _ _ _ _ _ us hl => match us, hl with | [_], _ => rfl⟩
  refine F.ok sc_again (fun vs H Q E h => ?_) (fun cdv A outer s H vs Q E hr h => ?_)
  · obtain ⟨a, d, s, p, rfl, _⟩ := h
    rfl
  · obtain ⟨a, d, s', p, rfl, ⟨da, v, pl, ul, vs, us, ha, hpl, hul, npu, hv, hvs, hus⟩, ep, few, k⟩ := h
    refine ⟨_, pss_cons (ps_expr (pe_bm PySem.F.plainAttrs_list PySem.F.slot_list_append PySem.F.type_list_append mt_append (pe_fld (pv 0) rfl) (pa_cons (pe_fld (pv 0) rfl) pa_nil)))
      (pss_one (ps_fld (pv 0) (pe_bm0 PySem.F.plainAttrs_list PySem.F.slot_list_pop PySem.F.type_list_pop mt_pop (pe_fld (pv 0) rfl)) rfl)), ?_⟩
    rw [ep, List.reverse_cons] at hus
    obtain ⟨us', v', rfl, hus', hv'⟩ := Paired.unsnoc hus
    have n1 : a ≠ pl := (ne_of hpl ha lst_ne_ins).symm
    have n2 : a ≠ ul := (ne_of hul ha lst_ne_ins).symm
    have hlen := Paired.len hvs
    rw [List.length_reverse] at hlen
    refine ⟨_, rfl, a, c.S, da, _, _, rfl, ha, T.S.cl, T.S.past, rfl, .inl ⟨rfl, _, SqL.of hpl⟩, _, rfl, a, c.S, da, _, _, rfl, ha, T.S.cl, T.S.voyage, rfl, pl, _, _, rfl, rfl, hpl, (by rw [List.length_map, hlen]; exact line_of (by omega)), ?_⟩
    have ha1 : L2.upd H pl (.lst (vs.map V.ref ++ [V.ref v])) a = _ := (upd_ne n1).trans ha
    have hu1 : L2.upd H pl (.lst (vs.map V.ref ++ [V.ref v])) ul = _ := (upd_ne npu.symm).trans hul
    have hp1 := upd_same (H := H) (a := pl) (o := .lst (vs.map V.ref ++ [V.ref v]))
    have b1 : ∀ b, b ≠ pl → L2.upd H pl (.lst (vs.map V.ref ++ [V.ref v])) b = H b := fun b hb => upd_ne hb
    generalize L2.upd H pl (.lst (vs.map V.ref ++ [V.ref v])) = H1 at ha1 hp1 hu1 b1 ⊢
    refine ⟨_, rfl, a, c.S, da, _, _, rfl, ha1, T.S.cl, T.S.undone, rfl, .inl ⟨rfl, _, SqL.of hu1⟩, ul, _, V.ref v', rfl, rfl, hu1, (by rw [List.map_append]; simp), ?_⟩
    have ed : ((us' ++ [v']).map V.ref).dropLast = us'.map V.ref := by rw [List.map_append]; exact List.dropLast_concat
    rw [ed]
    have ha2 : L2.upd H1 ul (.lst (us'.map V.ref)) a = _ := (upd_ne n2).trans ha1
    have hu2 := upd_same (H := H1) (a := ul) (o := .lst (us'.map V.ref))
    have hp2 : L2.upd H1 ul (.lst (us'.map V.ref)) pl = _ := (upd_ne npu).trans hp1
    have b2 : ∀ b, b ≠ ul → L2.upd H1 ul (.lst (us'.map V.ref)) b = H1 b := fun b hb => upd_ne hb
    generalize L2.upd H1 ul (.lst (us'.map V.ref)) = H2 at ha2 hp2 hu2 b2 ⊢
    refine ⟨_, rfl, a, c.S, da, _, rfl, ha2, T.S.cl, T.S.voyage, (by show 3 < 1000; decide), ?_⟩
    have b3 : ∀ b, b ≠ a → b ≠ pl → b ≠ ul → L2.upd H2 a (.ins c.S da (putF "voyage" (.ref v') (shipF (.ref v) pl ul))) b = H b := fun b h1 h2 h3 => by rw [upd_ne h1, b2 b h3, b1 b h2]
    refine k _ ⟨da, v', pl, ul, vs ++ [v], us', upd_same, ?_, (upd_ne n2.symm).trans hu2, npu, hist_keep (y := a) (v' := v') ha ⟨n1, n2⟩ b3 hv', ?_, Paired.mono hus' fun x y q => hist_keep (y := a) (v' := v') ha ⟨n1, n2⟩ b3 q⟩ ?_ ?_
    · rw [upd_ne n1.symm, hp2, List.map_append]; rfl
    · show Paired _ _ (d.now :: d.past).reverse
      rw [List.reverse_cons]
      exact Paired.app (Paired.mono hvs fun x y q => hist_keep (y := a) (v' := v') ha ⟨n1, n2⟩ b3 q) (Paired.one (hist_keep (y := a) (v' := v') ha ⟨n1, n2⟩ b3 hv))
    · intro b o e nb hb
      obtain ⟨h1, h2⟩ := hb da _ pl ul ha
      rw [b3 b nb h1 h2]; exact e
    · intro q hq
      by_cases z1 : q = a
      · rw [z1, upd_same] at hq; cases hq
      by_cases z2 : q = pl
      · rw [z2, upd_ne n1.symm, hp2] at hq; cases hq
      by_cases z3 : q = ul
      · rw [z3, upd_ne n2.symm, hu2] at hq; cases hq
      rw [← b3 q z1 z2 z3]; exact hq
/-! ## sd_back, sd_again, sd_state -/
def spHis (c : Cl) (x : Km438.Call) : Sp := fun vs H Q _ => ∃ (a : Addr) (d : Desk), vs = [.ref a] ∧ DeskAt c H a d ∧ DeskOk d ∧
  ∀ (H' : Hp) (r : Addr), DeskAt c H' a (Km438.act d x).1 → Kq c a H H' → H r = none → H' r = some (.lst ((Km438Neutral.told (Km438.act d x).2).map V.int)) → Q (.ref r) H'
theorem Kq.put {a r : Addr} {H H' : Hp} (o : HO) (k : Kq c a H H') (hr : H r = none) : Kq c a H (L2.upd H' r o) := fun b u e n h => by
  rw [upd_ne (ne_of_none e hr)]
  exact k b u e n h
theorem sc_sback : FnScope ["ship"] ["ship"] (defScope st_sd_back) := ⟨rfl, rfl, rfl, by decide +kernel, rfl, by decide +kernel, by decide +kernel⟩
theorem ok_sback (F : FnAt K mg "sd_back" st_sd_back) (T : Txt K mg c) (N : TxtN mg) (hB : Has P w K mg base 1 "take_back" ["ship"] (spBack c)) : Has P w K mg base 2 "sd_back" ["ship"] (spHis c .back) := by
  obtain ⟨f, fd, F, m⟩ := F
  obtain ⟨fB, fdB, GB, mB, kB, bB⟩ := hB
  refine ⟨f, fd, ?_, m, F.kp, F.binds fun _ _ _ _ _ _ us hl => match us, hl with | [_], _ => rfl⟩
  refine F.ok sc_sback (fun vs H Q E h => ?_) (fun cdv A outer s H vs Q E hr h => ?_)
  · obtain ⟨a, d, rfl, _⟩ := h
    rfl
  · obtain ⟨a, d, rfl, hd, ok, k⟩ := h
    obtain ⟨da, v, pl, ul, vs, us, ha, hpl, hul, npu, hv, hvs, hus⟩ := id hd
    refine ⟨_, pss_cons (ps_if (pt_not (pt_truth (pe_fld (pv 0) rfl) (fun _ => rfl))) (pss_one (ps_ret (pe_lst (pa_cons (pe_num N.NOT_THERE (by rfl)) pa_nil)))) pss_nil)
      (pss_cons (ps_expr (pe_call GB hr rfl mB kB bB .nil pass0 (pa_cons (pv 0) pa_nil)))
      (pss_one (ps_ret (pe_lst (pa_cons (pe_callB call_len_seq (by rfl) T.B.len PySem.boot_len (pa_cons (pe_fld (pv 0) rfl) pa_nil)) pa_nil))))), ?_⟩
    have hlen := Paired.len hvs
    rw [List.length_reverse] at hlen
    refine ⟨_, rfl, a, c.S, da, _, _, rfl, ha, T.S.cl, T.S.past, rfl, _, .inl ⟨_, SqL.of hpl, rfl⟩, ?_⟩
    cases ep : d.past with
    | nil =>
      rw [ep] at hlen
      obtain rfl : vs = [] := List.eq_nil_of_length_eq_zero hlen
      have hact : Km438.act d .back = (d, Km438.only (-2)) := by simp only [Km438.act, ep]
      rw [hact] at k
      exact ⟨by decide, fun r nr => k _ r (hd.same (Same.upd _ nr)) (Kq.of (Kp.same (Same.upd _ nr) [a])) nr upd_same⟩
    | cons s' p =>
      rw [ep] at hlen
      have e0 : (!(vs.map V.ref).isEmpty) = true := by
        cases vs with
        | nil => cases hlen
        | cons b r => rfl
      rw [e0]
      have hact : Km438.act d .back = (⟨s', p, d.now :: d.future⟩, Km438.only ((p.length : Nat) : Int)) := by simp only [Km438.act, ep]
      rw [hact] at k
      have few := ok.few
      refine ⟨_, rfl, a, d, s', p, rfl, hd, ep, by omega, fun H1 hd1 k1 f1 => ?_⟩
      obtain ⟨da1, v1, pl1, ul1, vs1, us1, ha1, hpl1, _, _, _, hvs1, _⟩ := id hd1
      have hl1 := Paired.len hvs1
      rw [List.length_reverse] at hl1
      refine ⟨_, rfl, a, c.S, da1, _, _, rfl, ha1, T.S.cl, T.S.past, rfl, pl1, _, rfl, .inl (SqL.of hpl1), ?_⟩
      rw [List.length_map, hl1]
      exact ⟨(by show 1 ≤ sizeLine; decide), fun r nr => k _ r (hd1.same (Same.upd _ nr)) (k1.put _ (f1 r nr)) (f1 r nr) upd_same⟩
theorem sc_sagain : FnScope ["ship"] ["ship"] (defScope st_sd_again) := ⟨rfl, rfl, rfl, by decide +kernel, rfl, by decide +kernel, by decide +kernel⟩
theorem ok_sagain (F : FnAt K mg "sd_again" st_sd_again) (T : Txt K mg c) (N : TxtN mg) (hB : Has P w K mg base 1 "do_again" ["ship"] (spAgain c)) : Has P w K mg base 2 "sd_again" ["ship"] (spHis c .again) := by
  obtain ⟨f, fd, F, m⟩ := F
  obtain ⟨fB, fdB, GB, mB, kB, bB⟩ := hB
  refine ⟨f, fd, ?_, m, F.kp, F.binds fun _ _ _ _ _ _ us hl => match us, hl with | [_], _ => rfl⟩
  refine F.ok sc_sagain (fun vs H Q E h => ?_) (fun cdv A outer s H vs Q E hr h => ?_)
  · obtain ⟨a, d, rfl, _⟩ := h
    rfl
  · obtain ⟨a, d, rfl, hd, ok, k⟩ := h
    obtain ⟨da, v, pl, ul, vs, us, ha, hpl, hul, npu, hv, hvs, hus⟩ := id hd
    refine ⟨_, pss_cons (ps_if (pt_not (pt_truth (pe_fld (pv 0) rfl) (fun _ => rfl))) (pss_one (ps_ret (pe_lst (pa_cons (pe_num N.NOT_THERE (by rfl)) pa_nil)))) pss_nil)
      (pss_cons (ps_expr (pe_call GB hr rfl mB kB bB .nil pass0 (pa_cons (pv 0) pa_nil)))
      (pss_one (ps_ret (pe_lst (pa_cons (pe_callB call_len_seq (by rfl) T.B.len PySem.boot_len (pa_cons (pe_fld (pv 0) rfl) pa_nil)) pa_nil))))), ?_⟩
    have hlen := Paired.len hus
    rw [List.length_reverse] at hlen
    refine ⟨_, rfl, a, c.S, da, _, _, rfl, ha, T.S.cl, T.S.undone, rfl, _, .inl ⟨_, SqL.of hul, rfl⟩, ?_⟩
    cases ep : d.future with
    | nil =>
      rw [ep] at hlen
      obtain rfl : us = [] := List.eq_nil_of_length_eq_zero hlen
      have hact : Km438.act d .again = (d, Km438.only (-2)) := by simp only [Km438.act, ep]
      rw [hact] at k
      exact ⟨by decide, fun r nr => k _ r (hd.same (Same.upd _ nr)) (Kq.of (Kp.same (Same.upd _ nr) [a])) nr upd_same⟩
    | cons s' p =>
      have few := ok.few
      rw [ep] at hlen few
      have few2 : d.past.length + (p.length + 1) ≤ 30 := few
      have e0 : (!(us.map V.ref).isEmpty) = true := by
        cases us with
        | nil => cases hlen
        | cons b r => rfl
      rw [e0]
      have hact : Km438.act d .again = (⟨s', d.now :: d.past, p⟩, Km438.only ((p.length : Nat) : Int)) := by
        simp only [Km438.act, ep]
        rw [List.take_of_length_le (show (d.now :: d.past).length ≤ Km438.PAST by show d.past.length + 1 ≤ 30; omega)]
      rw [hact] at k
      refine ⟨_, rfl, a, d, s', p, rfl, hd, ep, by omega, fun H1 hd1 k1 f1 => ?_⟩
      obtain ⟨da1, v1, pl1, ul1, vs1, us1, ha1, _, hul1, _, _, _, hus1⟩ := id hd1
      have hl1 := Paired.len hus1
      rw [List.length_reverse] at hl1
      refine ⟨_, rfl, a, c.S, da1, _, _, rfl, ha1, T.S.cl, T.S.undone, rfl, ul1, _, rfl, .inl (SqL.of hul1), ?_⟩
      rw [List.length_map, hl1]
      exact ⟨(by show 1 ≤ sizeLine; decide), fun r nr => k _ r (hd1.same (Same.upd _ nr)) (k1.put _ (f1 r nr)) (f1 r nr) upd_same⟩
theorem sc_state : FnScope ["ship", "voyage"] ["ship"] (defScope st_sd_state) := ⟨rfl, rfl, rfl, by decide +kernel, rfl, by decide +kernel, by decide +kernel⟩
theorem ok_state (F : FnAt K mg "sd_state" st_sd_state) (T : Txt K mg c) : Has P w K mg base 1 "sd_state" ["ship"] (spHis c .state) := by
  obtain ⟨f, fd, F, m⟩ := F
  refine ⟨f, fd, ?_, m, F.kp, F.binds fun _ _ _ _ _ _ us hl => match us, hl with | [_], _ => rfl⟩
  refine F.ok sc_state (fun vs H Q E h => ?_) (fun cdv A outer s H vs Q E hr h => ?_)
  · obtain ⟨a, d, rfl, _⟩ := h
    rfl
  · obtain ⟨a, d, rfl, hd, ok, k⟩ := h
    obtain ⟨da, v, pl, ul, vs, us, ha, hpl, hul, npu, hv, hvs, hus⟩ := id hd
    obtain ⟨pp, qq, gg, as, hvA⟩ := hv.same hid_in
    obtain ⟨dv, ho⟩ := hvA.obj
    have l1 := Paired.len hvs
    have l2 := Paired.len hus
    rw [List.length_reverse] at l1 l2
    have fl : ∀ x : V, True := fun _ => trivial
    refine ⟨_, pss_cons (ps_set (i := 1) sc_state.nd rfl (Or.inl rfl) (pe_fld (pv 0) rfl))
      (pss_one (ps_ret (pe_lst (pa_cons (pe_fld (pv 1) rfl) (pa_cons (pe_fld (pv 1) rfl) (pa_cons (pe_callB call_len_seq (by rfl) T.B.len PySem.boot_len (pa_cons (pe_fld (pv 1) rfl) pa_nil)) (pa_cons (pe_callB (cr_sum rfl) (by rfl) T.B.sum boot_sum (pa_cons (pe_fld (pv 1) rfl) pa_nil))
        (pa_cons (pe_callB call_len_seq (by rfl) T.B.len PySem.boot_len (pa_cons (pe_fld (pv 0) rfl) pa_nil)) (pa_cons (pe_callB call_len_seq (by rfl) T.B.len PySem.boot_len (pa_cons (pe_fld (pv 0) rfl) pa_nil)) pa_nil))))))))), ?_⟩
    refine ⟨_, rfl, a, c.S, da, _, _, rfl, ha, T.S.cl, T.S.voyage, rfl, ?_⟩
    refine ⟨_, rfl, v, c.V, dv, _, _, rfl, ho, T.V.cl, T.V.today, rfl, _, rfl, v, c.V, dv, _, _, rfl, ho, T.V.cl, T.V.last, rfl, _, rfl, v, c.V, dv, _, _, rfl, ho, T.V.cl, T.V.goods, rfl, gg, _, rfl, .inl (SqL.of hvA.gods), ?_⟩
    refine ⟨_, rfl, v, c.V, dv, _, _, rfl, ho, T.V.cl, T.V.ports, rfl, qq, (signs d.now).map fun (y : Nat) => (y : Int), rfl, SqL.of (by rw [List.map_map]; exact hvA.port), ?_⟩
    refine ⟨_, rfl, a, c.S, da, _, _, rfl, ha, T.S.cl, T.S.past, rfl, pl, _, rfl, .inl (SqL.of hpl), _, rfl, a, c.S, da, _, _, rfl, ha, T.S.cl, T.S.undone, rfl, ul, _, rfl, .inl (SqL.of hul), ?_⟩
    rw [sum_int, signs_sum ok.now, List.length_map, List.length_map, List.length_map, Paired.len hvA.good, l1, l2]
    exact ⟨(by show 6 ≤ sizeLine; decide), fun r nr => k _ r (hd.same (Same.upd _ nr)) (Kq.of (Kp.same (Same.upd _ nr) [a])) nr upd_same⟩
end
end Sd

end
section
set_option Elab.async false
set_option linter.all false
set_option maxRecDepth 100000
set_option maxHeartbeats 2000000
namespace Sd
open PySem PySem.Spec PyProof.Rows L2
open Km438 (Good Ship Desk Lots)
section
variable {P : Program} {w : World} {K : PySem.W.Frag} {mg : Str → Option Value} {base : Heap} {c : Cl}
def zs (l : List Nat) : List Int := l.map fun (y : Nat) => (y : Int)
theorem cut_mid (x y z : List V) : cutV (x ++ (y ++ z)) (some ((x.length : Nat) : Int)) (some ((x.length + y.length : Nat) : Int)) = y := by
  unfold cutV
  rw [HT.sIx_nat, HT.sIx_nat]
  have hl : (x ++ (y ++ z)).length = x.length + (y.length + z.length) := by rw [List.length_append, List.length_append]
  rw [hl, Nat.min_eq_left (by omega), Nat.min_eq_left (by omega), List.drop_left]
  have : x.length + y.length - x.length = y.length := by omega
  rw [this, List.take_left]
section
variable {H H' : Hp} {D a : Addr} {od : Obj} {u : HO}
theorem frz_ins {C d : Addr} {fs : List (Str × V)} : HO.ins C d fs ≠ HO.frz od u := fun z => by cases z
theorem frz_lst {xs : List V} : HO.lst xs ≠ HO.frz od u := fun z => by cases z
theorem Off.frz (hD : H D = some (.frz od u)) : Off c [D] H := by
  refine ⟨fun m hm dx x z => ?_, fun m hm bs z => ?_⟩
  · rw [List.mem_singleton.mp hm, hD] at z
    exact frz_ins (Option.some.inj z).symm
  · rw [List.mem_singleton.mp hm, hD] at z
    exact frz_lst (Option.some.inj z).symm
theorem VoyX.frz {v : Addr} {s : Ship} (k : Kp [D] H H') (hD : H D = some (.frz od u)) (h : VoyX c H v s) : VoyX c H' v s := by
  obtain ⟨pp, qq, gg, as, ⟨dv, e⟩, h1, h2, h3, h4, h5, h6, h7⟩ := h
  have nl : ∀ {q : Addr} {xs : List V}, H q = some (.lst xs) → q ∉ [D] := fun {q xs} e2 z => ne_of e2 hD frz_lst (List.mem_singleton.mp z)
  have ni : ∀ {q C d : Addr} {fs : List (Str × V)}, H q = some (.ins C d fs) → q ∉ [D] := fun {q C d fs} e2 z => ne_of e2 hD frz_ins (List.mem_singleton.mp z)
  refine ⟨pp, qq, gg, as, ⟨dv, k _ _ e (ni e)⟩, k _ _ h1 (nl h1), k _ _ h2 (nl h2), k _ _ h3 (nl h3), Paired.mono h4 fun x g q => ?_, h5, h6, h7⟩
  obtain ⟨dg, og⟩ := q.obj
  exact q.kp k (Off.frz hD) (ni og)
theorem StAt.frz {s : Option Desk} (k : Kp [D] H H') (hD : H D = some (.frz od u)) (h : StAt c H a s) : StAt c H' a s := by
  have nl : ∀ {q : Addr} {xs : List V}, H q = some (.lst xs) → q ∉ [D] := fun {q xs} e2 z => ne_of e2 hD frz_lst (List.mem_singleton.mp z)
  have ni : ∀ {q C d : Addr} {fs : List (Str × V)}, H q = some (.ins C d fs) → q ∉ [D] := fun {q C d fs} e2 z => ne_of e2 hD frz_ins (List.mem_singleton.mp z)
  cases s with
  | none =>
    obtain ⟨da, pl, ul, h1, h2, h3⟩ := h
    exact ⟨da, pl, ul, k _ _ h1 (ni h1), k _ _ h2 (nl h2), k _ _ h3 (nl h3)⟩
  | some d =>
    obtain ⟨⟨da, v, pl, ul, vs, us, h1, h2, h3, n, h4, h5, h6⟩, ok⟩ := h
    have hD' : hid H pl ul D = some (.frz od u) := (hid_ne (ne_of hD h2 fun z => frz_lst z.symm) (ne_of hD h3 fun z => frz_lst z.symm)).trans hD
    exact ⟨⟨da, v, pl, ul, vs, us, k _ _ h1 (ni h1), k _ _ h2 (nl h2), k _ _ h3 (nl h3), n, h4.frz (hid_kp k) hD', Paired.mono h5 fun x y q => q.frz (hid_kp k) hD', Paired.mono h6 fun x y q => q.frz (hid_kp k) hD'⟩, ok⟩
end
/-- one call, whichever -/
def spCall (c : Cl) : Sp := fun vs H Q _ => ∃ (a q : Addr) (s : Option Desk) (p : Nat) (l : List Nat), vs = [.ref a, nv p, .ref q] ∧ StAt c H a s ∧ H q = some (.lst (l.map nv)) ∧ counts[p]? = some l.length ∧ (∀ y ∈ l, y ≤ 4294967295) ∧ (stepN s [((p : Nat) : Int) :: zs l]).2 ≠ [] ∧
  ∀ (H' : Hp) (r : Addr), StAt c H' a (stepN s [((p : Nat) : Int) :: zs l]).1 → Kq c a H H' → H r = none → H' r = some (.lst ((stepN s [((p : Nat) : Int) :: zs l]).2.map V.int)) → Q (.ref r) H'
def spAns (K : PySem.W.Frag) : Sp := fun vs H Q _ => ∃ (a : Addr) (l : List Int) (cs : List (List (List Int))), vs = [.ref a] ∧ SqL K H a (l.map V.int) ∧ (∀ x ∈ l, 0 ≤ x ∧ x ≤ 4294967295) ∧ Asked l cs ∧
  ∀ (H' : Hp) (p : Addr), H' p = some (.lst ((PyKm438.answers l).map V.int)) → Q (.ref p) H'
theorem sc_ans : FnScope ["calls", "ship", "told", "at", "behind", "answer"] ["calls"] (defScope st_answers) := ⟨rfl, rfl, rfl, by decide +kernel, rfl, by decide +kernel, by decide +kernel⟩
theorem nats_of : ∀ {a : List Int}, (∀ x ∈ a, 0 ≤ x ∧ x ≤ 4294967295) → ∃ l : List Nat, a = zs l ∧ ∀ y ∈ l, y ≤ 4294967295
  | [], _ => ⟨[], rfl, fun y hy => by cases hy⟩
  | x :: a, h => by
    obtain ⟨l, e, hl⟩ := nats_of (a := a) fun y hy => h y (List.mem_cons_of_mem _ hy)
    have hx := h x List.mem_cons_self
    refine ⟨x.toNat :: l, ?_, fun y hy => ?_⟩
    · rw [e]
      show x :: zs l = ((x.toNat : Nat) : Int) :: zs l
      congr 1; omega
    · rcases List.mem_cons.mp hy with q | q
      · omega
      · exact hl y q
/-- the tuple of the text that tells how many numbers stand behind a call's own -/
def Tup (K : PySem.W.Frag) (mg : Str → Option Value) (x : Str) (l : List Nat) : Prop := ∃ t, mg x = some (.ref t) ∧ ∀ H : Hp, SqT K H t (l.map nv)
theorem binds_ans {f : Addr} {fd : FuncData} (F : Fun K "answers" "answers" st_answers f fd) : ∀ (s : Shared) (us : List Value), us.length = (["calls"] : List Str).length → BindsTo s fd ⟨us, []⟩ ((["calls"] : List Str).zip us) := by
  obtain ⟨oc, od, kV, doc, pm, an, cdv, ct, osl, rfl, lk, hcd⟩ := F.ex
  exact fun s us hu => match us, hu with | [_], _ => .of_eq rfl
theorem ok_ans {n : Nat} {f : Addr} {fd : FuncData} (hn : n ≤ 30) (h2 : 1 ≤ n) (F : Fun K "answers" "answers" st_answers f fd) (T : Txt K mg c) (hNB : Tup K mg "NUMBERS_BEHIND" counts) (hM : Makes P w K mg base 1 "Ship" c.S ["self"] (spShip c)) (hC : Has P w K mg base (n + 1) "answer_of_call" ["ship", "call", "given"] (spCall c)) :
    FnOk P w K mg base CX0 (n + 2) f fd ["calls"] (spAns K) := by
  obtain ⟨fM, fdM, MM, GM, bM, mM⟩ := hM
  obtain ⟨fC, fdC, GC, mC, kC, bC⟩ := hC
  obtain ⟨nb, mNB, hT⟩ := hNB
  refine F.ok sc_ans (fun vs H Q E h => ?_) (fun cdv A outer s H vs Q E hr h => ?_)
  · obtain ⟨a, l, cs, rfl, _⟩ := h
    rfl
  · obtain ⟨q0, l, cs, rfl, hS, hbd, ask, k⟩ := h
    have hrM : Room 2 _ := hr.mono (by omega)
    refine ⟨_, pss_cons (ps_set (i := 1) sc_ans.nd rfl (Or.inl rfl) (pe_make0 MM GM hrM rfl mM bM .nil pass0))
      (pss_cons (ps_set (i := 2) sc_ans.nd rfl (Or.inl rfl) (pe_lst pa_nil))
      (pss_cons (ps_set (i := 3) sc_ans.nd rfl (Or.inl rfl) pe_int)
      (pss_cons (ps_while PassesOwn.never (pt_cmpR op_lt (pv 3) (pe_callB call_len_seq (by rfl) T.B.len PySem.boot_len (pa_cons (pv 0) pa_nil)) (nomark _))
        (pss_cons (ps_set (i := 4) sc_ans.nd rfl (Or.inl rfl) (pe_op op_add (pe_op op_add (pv 3) pe_int) (pe_ix ix_tup (pe_glob (v := .ref nb) (by rfl) mNB rfl) (pe_ix ix_list (pv 0) (pv 3) (fun _ _ => rfl)) (fun _ _ => rfl))))
        (pss_cons (ps_set (i := 5) sc_ans.nd rfl (Or.inl rfl) (pe_lock (pe_call GC hr rfl mC kC bC .nil pass0 (pa_cons (pv 1) (pa_cons (pe_ix ix_list (pv 0) (pv 3) (fun _ _ => rfl)) (pa_cons (pe_slice sl_list (pv 0) (po_some (pe_op op_add (pv 3) pe_int)) (po_some (pv 4))) pa_nil))))))
        (pss_cons (ps_expr (pe_bm PySem.F.plainAttrs_list PySem.F.slot_list_append PySem.F.type_list_append mt_append (pv 2) (pa_cons (pe_callB call_len_seq (by rfl) T.B.len PySem.boot_len (pa_cons (pv 5) pa_nil)) pa_nil)))
        (pss_cons (ps_expr (pe_bm PySem.F.plainAttrs_list PySem.F.slot_list_extend PySem.F.type_list_extend mt_extend (pv 2) (pa_cons (pv 5) pa_nil)))
        (pss_one (ps_set (i := 3) sc_ans.nd rfl (Or.inl rfl) (pv 4))))))))
      (pss_one (ps_ret (pv 2)))))), ?_⟩
    intro a da na nda nea
    refine ⟨a, da, rfl, upd_same, fun H1 pl ul a1 p1 u1 npl nul k1 => ⟨rfl, ?_⟩⟩
    have s1 : Same H H1 := made_same na nda k1
    refine ⟨Nat.zero_le _, fun D hD => ?_⟩
    have s2 := s1.trans (Same.upd (.lst []) hD)
    have st0 : StAt c (hide (L2.upd H1 D (.lst [])) D) a none := StAt.same (fun b o e => by rw [hide_ne (ne_of_none e hD), upd_ne (ne_of_none e hD)]; exact e) (s := none) (show StAt c H1 a none from ⟨da, pl, ul, a1, p1, u1⟩)
    have naD : a ≠ D := ne_of_none a1 hD
    have zD : H D = none := s1.free hD
    have hq : q0 ≠ D ∨ ∀ H2 : Hp, SqL K H2 q0 (l.map V.int) := by
      rcases hS with (h | ⟨o, h⟩) | h
      · exact .inl (ne_of_none h zD)
      · exact .inl (ne_of_none h zD)
      · exact .inr fun _ => .inr h
    have hput : ∀ {H2 : Hp} {o : HO}, SqL K H2 q0 (l.map V.int) → SqL K (L2.upd H2 D o) q0 (l.map V.int) := fun {H2 o} h => hq.elim (fun n => SqL.putNe h n) fun f => f _
    refine while_by (fun σ H' => ∃ (done rest : List (List (List Int))) (v4 v5 : Option V), cs = done ++ rest ∧ σ = [some (.ref q0), some (.ref a), some (.ref D), some (nv (PyFlat.put done).length), v4, v5] ∧ SqL K H' q0 (l.map V.int) ∧
        H' D = some (.lst ((PyFlat.told (PyFlat.played stepN Km438Neutral.start done)).map V.int)) ∧ StAt c (hide H' D) a (after stepN Km438Neutral.start done))
      (fun σ _ => match σ[3]? with | some (some (V.int i)) => l.length - i.toNat | _ => 0)
      ⟨[], cs, none, none, rfl, rfl, s2.seq hS, upd_same, st0⟩ ?_ ?_
    · rintro σ H' ⟨done, rest, v4, v5, ecs, rfl, hS3, hD3, hst3⟩
      have el : l = PyFlat.put done ++ PyFlat.put rest := by rw [ask.put, ecs, put_append]
      refine ⟨_, rfl, _, rfl, q0, _, rfl, .inl hS3, _, _, rfl, rfl, _, rfl, ?_⟩
      rw [List.length_map]
      dsimp only
      rw [dec_lt]
      cases rest with
      | nil =>
        have e0 : ¬ (PyFlat.put done).length < l.length := by rw [el]; show ¬ _ < (PyFlat.put done ++ []).length; rw [List.append_nil]; exact Nat.lt_irrefl _
        rw [decide_eq_false e0]
        rw [List.append_nil] at ecs
        rw [← ecs] at hD3
        refine ⟨_, rfl, k H' D ?_⟩
        rw [ask.due]; exact hD3
      | cons cl r =>
        have hmem : cl ∈ cs := by rw [ecs]; simp
        obtain ⟨p, ag, ec, hshape⟩ := ask.call cl hmem
        subst ec
        rw [put_one] at el
        have e0 : (PyFlat.put done).length < l.length := by rw [el, List.length_append, List.length_cons]; omega
        rw [decide_eq_true e0]
        obtain ⟨qn, rfl, hcount⟩ := shape_counts hshape
        have hin : ∀ x ∈ ag, 0 ≤ x ∧ x ≤ 4294967295 := fun x hx => hbd x (by rw [el]; simp [hx])
        obtain ⟨ls, eag, hls⟩ := nats_of hin
        have hagl : ag.length = ls.length := by rw [eag]; unfold zs; rw [List.length_map]
        have hat : atI (l.map V.int) (((PyFlat.put done).length : Nat) : Int) = some (nv qn) := atI_nat (by
          rw [List.getElem?_map, el, List.getElem?_append_right (Nat.le_refl _), Nat.sub_self]; rfl)
        have hnb : atI (counts.map nv) ((qn : Nat) : Int) = some (nv ag.length) := atI_nat (by rw [List.getElem?_map, hcount]; rfl)
        refine ⟨_, rfl, _, _, rfl, rfl, _, rfl, _, rfl, q0, _, _, _, rfl, rfl, hS3, hat, nb, _, _, _, rfl, rfl, hT H', hnb, _, _, rfl, rfl, ?_⟩
        have eb : ((((PyFlat.put done).length : Nat) : Int) + 1 + ((ag.length : Nat) : Int)) = (((PyFlat.put done).length + 1 + ag.length : Nat) : Int) := by omega
        dsimp only
        rw [eb]
        -- while the call runs, what was told is locked
        refine ⟨D, _, hD3, trivial, fun od => ?_⟩
        have eF : ∀ b, b ≠ D → L2.upd H' D (.frz od (.lst ((PyFlat.told (PyFlat.played stepN Km438Neutral.start done)).map V.int))) b = H' b := fun b hb => upd_ne hb
        have hSF : SqL K (L2.upd H' D (.frz od (.lst ((PyFlat.told (PyFlat.played stepN Km438Neutral.start done)).map V.int)))) q0 (l.map V.int) := hput hS3
        have stF : StAt c (L2.upd H' D (.frz od (.lst ((PyFlat.told (PyFlat.played stepN Km438Neutral.start done)).map V.int)))) a (after stepN Km438Neutral.start done) := hst3.same (hide_in eF)
        have hDF := upd_same (H := H') (a := D) (o := .frz od (.lst ((PyFlat.told (PyFlat.played stepN Km438Neutral.start done)).map V.int)))
        generalize L2.upd H' D (.frz od (.lst ((PyFlat.told (PyFlat.played stepN Km438Neutral.start done)).map V.int))) = HF at hSF stF hDF ⊢
        refine ⟨_, rfl, _, rfl, _, rfl, q0, _, _, _, rfl, rfl, hSF, hat, _, rfl, _, rfl, _, _, rfl, rfl, _, rfl, _, rfl, _, rfl, q0, _, rfl, hSF, fun q nq => ?_⟩
        have ecut : cutV (l.map V.int) (some ((((PyFlat.put done).length : Nat) : Int) + 1)) (some (((PyFlat.put done).length + 1 + ag.length : Nat) : Int)) = ls.map nv := by
          have e1 : l.map V.int = ((PyFlat.put done).map V.int ++ [V.int ((qn : Nat) : Int)]) ++ (ls.map nv ++ (PyFlat.put r).map V.int) := by
            rw [el, eag, List.map_append, List.map_cons, List.map_append, List.append_assoc]
            unfold zs
            rw [List.map_map]; rfl
          have e2 := cut_mid ((PyFlat.put done).map V.int ++ [V.int ((qn : Nat) : Int)]) (ls.map nv) ((PyFlat.put r).map V.int)
          rw [← e1, List.length_append, List.length_map, List.length_map] at e2
          rw [hagl]
          exact e2
        have s4 := Same.upd (.lst (cutV (l.map V.int) (some ((((PyFlat.put done).length : Nat) : Int) + 1)) (some (((PyFlat.put done).length + 1 + ag.length : Nat) : Int)))) nq
        have hq4 : L2.upd HF q (.lst (cutV (l.map V.int) (some ((((PyFlat.put done).length : Nat) : Int) + 1)) (some (((PyFlat.put done).length + 1 + ag.length : Nat) : Int)))) q = some (.lst (ls.map nv)) := by rw [upd_same, ecut]
        have hD4 := s4 _ _ hDF
        have st4 := stF.same s4
        have hS4 := s4.seq hSF
        generalize L2.upd HF q (.lst (cutV (l.map V.int) (some ((((PyFlat.put done).length : Nat) : Int) + 1)) (some (((PyFlat.put done).length + 1 + ag.length : Nat) : Int)))) = H4 at hS4 hq4 hD4 st4 ⊢
        have hmay : (stepN (after stepN Km438Neutral.start done) [((qn : Nat) : Int) :: zs ls]).2 ≠ [] := by
          have := may_append (a := done) (b := [((qn : Nat) : Int) :: ag] :: r) (s := Km438Neutral.start) (by rw [← ecs]; exact ask.may)
          rw [← eag]
          exact may_head this
        refine ⟨a, q, after stepN Km438Neutral.start done, qn, ls, rfl, st4, hq4, by rw [hcount, hagl], hls, hmay, fun H5 r5 st5 k5 nr5 h5 => ?_⟩
        have hfew := step_few (after stepN Km438Neutral.start done) [((qn : Nat) : Int) :: zs ls]
        have etold : PyFlat.told (PyFlat.played stepN Km438Neutral.start (done ++ [[((qn : Nat) : Int) :: zs ls]])) = PyFlat.told (PyFlat.played stepN Km438Neutral.start done) ++ ((((stepN (after stepN Km438Neutral.start done) [((qn : Nat) : Int) :: zs ls]).2.length : Nat) : Int) :: (stepN (after stepN Km438Neutral.start done) [((qn : Nat) : Int) :: zs ls]).2) := by
          rw [played_append, told_append]
          show _ ++ PyFlat.told [_] = _
          rw [told_one]
        have eafter : after stepN Km438Neutral.start (done ++ [[((qn : Nat) : Int) :: zs ls]]) = (stepN (after stepN Km438Neutral.start done) [((qn : Nat) : Int) :: zs ls]).1 := by
          rw [after_append]; rfl
        rw [← eafter] at st5
        have hdl : done.length ≤ 1000 := by
          have := ask.few
          rw [ecs, List.length_append] at this
          omega
        have hsh := told_short done Km438Neutral.start
        generalize (stepN (after stepN Km438Neutral.start done) [((qn : Nat) : Int) :: zs ls]).2 = an at h5 hfew etold
        have hne : l ≠ [] := fun z => by rw [z] at e0; exact absurd e0 (Nat.not_lt_zero _)
        have hD5 := k5.keep st4 hD4 (fun _ z => by cases z) fun _ _ _ z => by cases z
        have hS5 := k5.seq st4 hne hS4
        have nrD : r5 ≠ D := (ne_of_none hD4 nr5).symm
        have stH : StAt c (hide H5 D) a _ := st5.frz (hide_kp H5 D) hD5
        refine ⟨hD5, ?_⟩
        refine ⟨_, rfl, .inl ⟨rfl, _, SqL.of upd_same⟩, _, rfl, r5, _, rfl, .inl (SqL.of ((upd_ne nrD).trans h5)), D, _, _, rfl, rfl, upd_same, ?_, ?_⟩
        · rw [List.length_map]
          have : 7000 < sizeLine := by decide
          omega
        · refine ⟨_, rfl, .inl ⟨rfl, _, SqL.of upd_same⟩, _, rfl, D, r5, _, _, rfl, rfl, upd_same, (by rw [upd_ne nrD, upd_ne nrD]; exact h5), ?_, ?_⟩
          · rw [List.length_append, List.length_map, List.length_map]
            have : 8000 < sizeLine := by decide
            show (PyFlat.told (PyFlat.played stepN Km438Neutral.start done)).length + 1 + an.length ≤ sizeLine
            omega
          · have ep : (PyFlat.put (done ++ [[((qn : Nat) : Int) :: zs ls]])).length = (PyFlat.put done).length + 1 + ag.length := by
              rw [put_append, put_one, List.length_append, ← eag, List.length_cons, List.length_append]
              show _ + (ag.length + 0 + 1) = _
              omega
            refine ⟨_, rfl, ⟨done ++ [[((qn : Nat) : Int) :: zs ls]], r, some (nv ((PyFlat.put done).length + 1 + ag.length)), some (.ref r5), ?_, ?_, ?_, ?_, ?_⟩, ?_⟩
            · rw [ecs, ← eag, List.append_assoc]; rfl
            · rw [ep]; rfl
            · exact hput (hput (hput hS5))
            · rw [upd_same, etold, List.map_append, List.append_assoc, List.length_map]; rfl
            · exact stH.same (hide_same fun b hb => by rw [upd_ne hb, upd_ne hb, upd_ne hb])
            · show l.length - (((PyFlat.put done).length + 1 + ag.length : Nat) : Int).toNat < l.length - (((PyFlat.put done).length : Nat) : Int).toNat
              rw [Int.toNat_natCast, Int.toNat_natCast]
              omega
    · intro σ H' Q1 Q2 hQ h
      obtain ⟨x1, h1, x2, h2', p, ys, e1, h3, i, j, e2, e3, b, e4, q⟩ := h
      exact ⟨x1, h1, x2, h2', p, ys, e1, h3, i, j, e2, e3, b, e4, hQ _ _ q⟩
end
end Sd

end
section
set_option Elab.async false
set_option linter.all false
set_option maxRecDepth 100000
set_option maxHeartbeats 2000000
namespace Sd
open PySem PySem.Spec PyProof.Rows L2
open Km438 (Good Ship Desk Lots)
/-! ## a call and its step -/
theorem step_some (d : Desk) {cl : List (List Int)} {x : Km438.Call} (h : Km438Neutral.callOf cl = some x) : stepN (some d) cl = (some (Km438.act d x).1, Km438Neutral.told (Km438.act d x).2) := by
  unfold stepN Km438Neutral.step
  rw [h]
theorem step_none {cl : List (List Int)} {x : Km438.Call} (h : Km438Neutral.callOf cl = some x) (hs : Km438Neutral.isStart x = false) : stepN none cl = (none, []) := by
  unfold stepN Km438Neutral.step
  rw [h]
  dsimp only
  rw [hs]; rfl
/-- the call that a number and its own numbers are -/
def callN (p : Nat) (l : List Nat) : Km438.Call := match p with
  | 0 => .start (l.getD 0 0) (l.getD 1 0) (l.getD 2 0)
  | 1 => .good (l.getD 0 0) (l.getD 1 0)
  | 2 => .persons (l.getD 0 0) (l.getD 1 0)
  | 3 => .port (l.getD 0 0) (l.getD 1 0)
  | 4 => .load (l.getD 0 0) (l.getD 1 0)
  | 5 => .give (l.getD 0 0) (l.getD 1 0)
  | 6 => .ration (l.getD 0 0) (l.getD 1 0)
  | 7 => .days (l.getD 0 0)
  | 8 => .lasts (l.getD 0 0)
  | 9 => .least (l.getD 0 0)
  | 10 => .enough (l.getD 0 0) (l.getD 1 0)
  | 11 => .need (l.getD 0 0) (l.getD 1 0) (l.getD 2 0)
  | 12 => .spoils (l.getD 0 0)
  | 13 => .stock (l.getD 0 0)
  | 14 => .lot (l.getD 0 0) (l.getD 1 0)
  | 15 => .look (l.getD 0 0)
  | 16 => .who (l.getD 0 0)
  | 17 => .next
  | 18 => .short
  | 19 => .room
  | 20 => .sums (l.getD 0 0)
  | 21 => .back
  | 22 => .again
  | _ => .state
theorem callN_of {p : Nat} {l : List Nat} (h : counts[p]? = some l.length) : Km438Neutral.callOf [((p : Nat) : Int) :: zs l] = some (callN p l) := by
  have hp : p < 24 := (List.getElem?_eq_some_iff.mp h).1
  match p, hp, h with
  | 0, _, h => match l, h with | [_, _, _], _ => rfl
  | 1, _, h => match l, h with | [_, _], _ => rfl
  | 2, _, h => match l, h with | [_, _], _ => rfl
  | 3, _, h => match l, h with | [_, _], _ => rfl
  | 4, _, h => match l, h with | [_, _], _ => rfl
  | 5, _, h => match l, h with | [_, _], _ => rfl
  | 6, _, h => match l, h with | [_, _], _ => rfl
  | 7, _, h => match l, h with | [_], _ => rfl
  | 8, _, h => match l, h with | [_], _ => rfl
  | 9, _, h => match l, h with | [_], _ => rfl
  | 10, _, h => match l, h with | [_, _], _ => rfl
  | 11, _, h => match l, h with | [_, _, _], _ => rfl
  | 12, _, h => match l, h with | [_], _ => rfl
  | 13, _, h => match l, h with | [_], _ => rfl
  | 14, _, h => match l, h with | [_, _], _ => rfl
  | 15, _, h => match l, h with | [_], _ => rfl
  | 16, _, h => match l, h with | [_], _ => rfl
  | 17, _, h => match l, h with | [], _ => rfl
  | 18, _, h => match l, h with | [], _ => rfl
  | 19, _, h => match l, h with | [], _ => rfl
  | 20, _, h => match l, h with | [_], _ => rfl
  | 21, _, h => match l, h with | [], _ => rfl
  | 22, _, h => match l, h with | [], _ => rfl
  | 23, _, h => match l, h with | [], _ => rfl
  | p + 24, hp, _ => omega
/-- what is not a start needs a desk -/
theorem desk_of {s : Option Desk} {p : Nat} {l : List Nat} (h : counts[p]? = some l.length) (hp : p ≠ 0) (hm : (stepN s [((p : Nat) : Int) :: zs l]).2 ≠ []) : ∃ d, s = some d := by
  cases s with
  | some d => exact ⟨d, rfl⟩
  | none =>
    exfalso
    apply hm
    have hs : Km438Neutral.isStart (callN p l) = false := by
      have hlt : p < 24 := (List.getElem?_eq_some_iff.mp h).1
      match p, hlt, hp with
      | 0, _, hp => exact absurd rfl hp
      | 1, _, _ | 2, _, _ | 3, _, _ | 4, _, _ | 5, _, _ | 6, _, _ | 7, _, _ | 8, _, _ | 9, _, _ | 10, _, _ | 11, _, _ | 12, _, _ | 13, _, _ | 14, _, _ | 15, _, _ | 16, _, _ | 17, _, _ | 18, _, _ | 19, _, _ | 20, _, _ | 21, _, _ | 22, _, _ | 23, _, _ => rfl
      | p + 24, hlt, _ => omega
    rw [step_none (callN_of h) hs]
/-- behind a question the desk is as it was -/
def isAsk (p : Nat) : Bool := decide (8 ≤ p) && !(p == 21) && !(p == 22)
theorem ask_desk {p : Nat} (h : isAsk p = true) (hp : p < 24) (d : Desk) (l : List Nat) (hq : p ≠ 23) : (Km438.act d (callN p l)).1 = d ∧ Km438Neutral.told (Km438.act d (callN p l)).2 = ask d.now (callN p l) := by
  match p, hp, h, hq with
  | 8, _, _, _ | 9, _, _, _ | 10, _, _, _ | 11, _, _, _ | 12, _, _, _ | 13, _, _, _ | 14, _, _, _ | 15, _, _, _ | 16, _, _, _ | 17, _, _, _ | 18, _, _, _ | 19, _, _, _ | 20, _, _, _ => exact ⟨rfl, rfl⟩
  | 0, _, h, _ | 1, _, h, _ | 2, _, h, _ | 3, _, h, _ | 4, _, h, _ | 5, _, h, _ | 6, _, h, _ | 7, _, h, _ | 21, _, h, _ | 22, _, h, _ => cases h
  | 23, _, _, hq => exact absurd rfl hq
  | p + 24, hp, _, _ => omega
end Sd

end
section
set_option Elab.async false
set_option linter.all false
set_option maxRecDepth 100000
set_option maxHeartbeats 2000000
namespace Sd
open PySem PySem.Spec PyProof.Rows L2
open Km438 (Good Ship Desk Lots)
theorem at_0 {x : Nat} {l : List Nat} : atI ((x :: l).map nv) 0 = some (nv x) := atI_nat (j := 0) rfl
theorem at_1 {x y : Nat} {l : List Nat} : atI ((x :: y :: l).map nv) 1 = some (nv y) := atI_nat (j := 1) rfl
theorem at_2 {x y z : Nat} {l : List Nat} : atI ((x :: y :: z :: l).map nv) 2 = some (nv z) := atI_nat (j := 2) rfl
section
variable {P : Program} {w : World} {K : PySem.W.Frag} {mg : Str → Option Value} {base : Heap} {c : Cl}
/-- a change, whichever -/
def spChange (c : Cl) : Sp := fun vs H Q _ => ∃ (a q : Addr) (d : Desk) (p : Nat) (l : List Nat), vs = [.ref a, nv p, .ref q] ∧ DeskAt c H a d ∧ DeskOk d ∧ H q = some (.lst (l.map nv)) ∧ counts[p]? = some l.length ∧ (∀ y ∈ l, y ≤ 4294967295) ∧ 1 ≤ p ∧ p ≤ 7 ∧
  ∀ (H' : Hp) (r : Addr), DeskAt c H' a (Km438.act d (callN p l)).1 → Kp [a] H H' → H r = none → H' r = some (.lst ((Km438Neutral.told (Km438.act d (callN p l)).2).map V.int)) → Q (.ref r) H'
/-- a question of one good -/
def spQuest (c : Cl) : Sp := fun vs H Q _ => ∃ (v q : Addr) (s : Ship) (p : Nat) (l : List Nat), vs = [.ref v, nv p, .ref q] ∧ VoyX c H v s ∧ ShipOk s ∧ H q = some (.lst (l.map nv)) ∧ counts[p]? = some l.length ∧ (∀ y ∈ l, y ≤ 4294967295) ∧ (8 ≤ p ∧ p ≤ 15 ∨ p = 20) ∧
  ∀ (H' : Hp) (r : Addr), Same H H' → H r = none → H' r = some (.lst ((ask s (callN p l)).map V.int)) → Q (.ref r) H'
/-- a question of the whole voyage -/
def spLook (c : Cl) : Sp := fun vs H Q _ => ∃ (v q : Addr) (s : Ship) (p : Nat) (l : List Nat), vs = [.ref v, nv p, .ref q] ∧ VoyX c H v s ∧ ShipOk s ∧ H q = some (.lst (l.map nv)) ∧ counts[p]? = some l.length ∧ (∀ y ∈ l, y ≤ 4294967295) ∧ (16 ≤ p ∧ p ≤ 19) ∧
  ∀ (H' : Hp) (r : Addr), Same H H' → H r = none → H' r = some (.lst ((ask s (callN p l)).map V.int)) → Q (.ref r) H'
/-- what was done -/
def spHistory (c : Cl) : Sp := fun vs H Q _ => ∃ (a : Addr) (d : Desk) (p : Nat), vs = [.ref a, nv p] ∧ DeskAt c H a d ∧ DeskOk d ∧ 21 ≤ p ∧ p ≤ 23 ∧
  ∀ (H' : Hp) (r : Addr), DeskAt c H' a (Km438.act d (callN p [])).1 → Kq c a H H' → H r = none → H' r = some (.lst ((Km438Neutral.told (Km438.act d (callN p [])).2).map V.int)) → Q (.ref r) H'
theorem sc_change : FnScope ["ship", "call", "given"] ["ship", "call", "given"] (defScope st_answer_of_change) := ⟨rfl, rfl, rfl, by decide +kernel, rfl, by decide +kernel, by decide +kernel⟩
theorem ok_change (F : FnAt K mg "answer_of_change" st_answer_of_change) (N : TxtN mg) (h1 : Has P w K mg base 6 "sd_good" ["ship", "per", "life"] (spAct c 2 fun l => .good (l.getD 0 0) (l.getD 1 0))) (h2 : Has P w K mg base 6 "sd_persons" ["ship", "day", "n"] (spAct c 2 fun l => .persons (l.getD 0 0) (l.getD 1 0))) (h3 : Has P w K mg base 6 "sd_port" ["ship", "day", "yes"] (spAct c 2 fun l => .port (l.getD 0 0) (l.getD 1 0))) (h4 : Has P w K mg base 6 "sd_load" ["ship", "g", "n"] (spAct c 2 fun l => .load (l.getD 0 0) (l.getD 1 0))) (h5 : Has P w K mg base 6 "sd_give" ["ship", "g", "n"] (spAct c 2 fun l => .give (l.getD 0 0) (l.getD 1 0))) (h6 : Has P w K mg base 6 "sd_ration" ["ship", "g", "per"] (spAct c 2 fun l => .ration (l.getD 0 0) (l.getD 1 0))) (h7 : Has P w K mg base 6 "sd_days" ["ship", "n"] (spAct c 1 fun l => .days (l.getD 0 0))) :
    Has P w K mg base 7 "answer_of_change" ["ship", "call", "given"] (spChange c) := by
  obtain ⟨f, fd, F, m⟩ := F
  obtain ⟨f1, fd1, G1, m1, k1, b1⟩ := h1
  obtain ⟨f2, fd2, G2, m2, k2, b2⟩ := h2
  obtain ⟨f3, fd3, G3, m3, k3, b3⟩ := h3
  obtain ⟨f4, fd4, G4, m4, k4, b4⟩ := h4
  obtain ⟨f5, fd5, G5, m5, k5, b5⟩ := h5
  obtain ⟨f6, fd6, G6, m6, k6, b6⟩ := h6
  obtain ⟨f7, fd7, G7, m7, k7, b7⟩ := h7
  refine ⟨f, fd, ?_, m, F.kp, F.binds fun _ _ _ _ _ _ us hl => match us, hl with | [_, _, _], _ => rfl⟩
  refine F.ok sc_change (fun vs H Q E h => ?_) (fun cdv A outer s H vs Q E hr h => ?_)
  · obtain ⟨a, q, d, p, l, rfl, _⟩ := h
    rfl
  · obtain ⟨a, q, d, p, l, rfl, hd, ok, hq, hc, hb, hp1, hp2, k⟩ := h
    have hr6 : Room 6 _ := hr.mono (by decide)
    refine ⟨_, (pss_cons (ps_if (pt_cmpR op_eq (pv 1) (pe_num N.GOOD (by rfl)) (nomark _)) (pss_one (ps_ret (pe_call G1 hr6 rfl m1 k1 b1 .nil pass0 (pa_cons (pv 0) (pa_cons (pe_ix ix_list (pv 2) pe_int (fun _ _ => rfl)) (pa_cons (pe_ix ix_list (pv 2) pe_int (fun _ _ => rfl)) pa_nil)))))) pss_nil)
      (pss_cons (ps_if (pt_cmpR op_eq (pv 1) (pe_num N.PERSONS (by rfl)) (nomark _)) (pss_one (ps_ret (pe_call G2 hr6 rfl m2 k2 b2 .nil pass0 (pa_cons (pv 0) (pa_cons (pe_ix ix_list (pv 2) pe_int (fun _ _ => rfl)) (pa_cons (pe_ix ix_list (pv 2) pe_int (fun _ _ => rfl)) pa_nil)))))) pss_nil)
      (pss_cons (ps_if (pt_cmpR op_eq (pv 1) (pe_num N.PORT (by rfl)) (nomark _)) (pss_one (ps_ret (pe_call G3 hr6 rfl m3 k3 b3 .nil pass0 (pa_cons (pv 0) (pa_cons (pe_ix ix_list (pv 2) pe_int (fun _ _ => rfl)) (pa_cons (pe_ix ix_list (pv 2) pe_int (fun _ _ => rfl)) pa_nil)))))) pss_nil)
      (pss_cons (ps_if (pt_cmpR op_eq (pv 1) (pe_num N.LOAD (by rfl)) (nomark _)) (pss_one (ps_ret (pe_call G4 hr6 rfl m4 k4 b4 .nil pass0 (pa_cons (pv 0) (pa_cons (pe_ix ix_list (pv 2) pe_int (fun _ _ => rfl)) (pa_cons (pe_ix ix_list (pv 2) pe_int (fun _ _ => rfl)) pa_nil)))))) pss_nil)
      (pss_cons (ps_if (pt_cmpR op_eq (pv 1) (pe_num N.GIVE (by rfl)) (nomark _)) (pss_one (ps_ret (pe_call G5 hr6 rfl m5 k5 b5 .nil pass0 (pa_cons (pv 0) (pa_cons (pe_ix ix_list (pv 2) pe_int (fun _ _ => rfl)) (pa_cons (pe_ix ix_list (pv 2) pe_int (fun _ _ => rfl)) pa_nil)))))) pss_nil)
      (pss_cons (ps_if (pt_cmpR op_eq (pv 1) (pe_num N.RATION (by rfl)) (nomark _)) (pss_one (ps_ret (pe_call G6 hr6 rfl m6 k6 b6 .nil pass0 (pa_cons (pv 0) (pa_cons (pe_ix ix_list (pv 2) pe_int (fun _ _ => rfl)) (pa_cons (pe_ix ix_list (pv 2) pe_int (fun _ _ => rfl)) pa_nil)))))) pss_nil)
      (pss_one (ps_ret (pe_call G7 hr6 rfl m7 k7 b7 .nil pass0 (pa_cons (pv 0) (pa_cons (pe_ix ix_list (pv 2) pe_int (fun _ _ => rfl)) pa_nil))))))))))), ?_⟩
    refine ⟨_, rfl, rfl, _, rfl, ?_⟩
    rw [show decide (nv p = V.int 1) = decide (p = 1) from dec_eq p 1]
    by_cases e1 : p = 1
    · rw [decide_eq_true e1]
      subst e1
      have hl : l.length = 2 := (Option.some.inj (show some 2 = some l.length from hc)).symm
      obtain ⟨x, y, rfl⟩ : ∃ x y, l = [x, y] := match l, hl with | [x, y], _ => ⟨x, y, rfl⟩
      exact ⟨_, rfl, _, rfl, q, _, _, _, rfl, rfl, SqL.of hq, at_0, _, rfl, q, _, _, _, rfl, rfl, SqL.of hq, at_1, a, d, [x, y], rfl, rfl, hb, hd, ok, k⟩
    rw [decide_eq_false e1]
    refine ⟨_, rfl, rfl, _, rfl, ?_⟩
    rw [show decide (nv p = V.int 2) = decide (p = 2) from dec_eq p 2]
    by_cases e2 : p = 2
    · rw [decide_eq_true e2]
      subst e2
      have hl : l.length = 2 := (Option.some.inj (show some 2 = some l.length from hc)).symm
      obtain ⟨x, y, rfl⟩ : ∃ x y, l = [x, y] := match l, hl with | [x, y], _ => ⟨x, y, rfl⟩
      exact ⟨_, rfl, _, rfl, q, _, _, _, rfl, rfl, SqL.of hq, at_0, _, rfl, q, _, _, _, rfl, rfl, SqL.of hq, at_1, a, d, [x, y], rfl, rfl, hb, hd, ok, k⟩
    rw [decide_eq_false e2]
    refine ⟨_, rfl, rfl, _, rfl, ?_⟩
    rw [show decide (nv p = V.int 3) = decide (p = 3) from dec_eq p 3]
    by_cases e3 : p = 3
    · rw [decide_eq_true e3]
      subst e3
      have hl : l.length = 2 := (Option.some.inj (show some 2 = some l.length from hc)).symm
      obtain ⟨x, y, rfl⟩ : ∃ x y, l = [x, y] := match l, hl with | [x, y], _ => ⟨x, y, rfl⟩
      exact ⟨_, rfl, _, rfl, q, _, _, _, rfl, rfl, SqL.of hq, at_0, _, rfl, q, _, _, _, rfl, rfl, SqL.of hq, at_1, a, d, [x, y], rfl, rfl, hb, hd, ok, k⟩
    rw [decide_eq_false e3]
    refine ⟨_, rfl, rfl, _, rfl, ?_⟩
    rw [show decide (nv p = V.int 4) = decide (p = 4) from dec_eq p 4]
    by_cases e4 : p = 4
    · rw [decide_eq_true e4]
      subst e4
      have hl : l.length = 2 := (Option.some.inj (show some 2 = some l.length from hc)).symm
      obtain ⟨x, y, rfl⟩ : ∃ x y, l = [x, y] := match l, hl with | [x, y], _ => ⟨x, y, rfl⟩
      exact ⟨_, rfl, _, rfl, q, _, _, _, rfl, rfl, SqL.of hq, at_0, _, rfl, q, _, _, _, rfl, rfl, SqL.of hq, at_1, a, d, [x, y], rfl, rfl, hb, hd, ok, k⟩
    rw [decide_eq_false e4]
    refine ⟨_, rfl, rfl, _, rfl, ?_⟩
    rw [show decide (nv p = V.int 5) = decide (p = 5) from dec_eq p 5]
    by_cases e5 : p = 5
    · rw [decide_eq_true e5]
      subst e5
      have hl : l.length = 2 := (Option.some.inj (show some 2 = some l.length from hc)).symm
      obtain ⟨x, y, rfl⟩ : ∃ x y, l = [x, y] := match l, hl with | [x, y], _ => ⟨x, y, rfl⟩
      exact ⟨_, rfl, _, rfl, q, _, _, _, rfl, rfl, SqL.of hq, at_0, _, rfl, q, _, _, _, rfl, rfl, SqL.of hq, at_1, a, d, [x, y], rfl, rfl, hb, hd, ok, k⟩
    rw [decide_eq_false e5]
    refine ⟨_, rfl, rfl, _, rfl, ?_⟩
    rw [show decide (nv p = V.int 6) = decide (p = 6) from dec_eq p 6]
    by_cases e6 : p = 6
    · rw [decide_eq_true e6]
      subst e6
      have hl : l.length = 2 := (Option.some.inj (show some 2 = some l.length from hc)).symm
      obtain ⟨x, y, rfl⟩ : ∃ x y, l = [x, y] := match l, hl with | [x, y], _ => ⟨x, y, rfl⟩
      exact ⟨_, rfl, _, rfl, q, _, _, _, rfl, rfl, SqL.of hq, at_0, _, rfl, q, _, _, _, rfl, rfl, SqL.of hq, at_1, a, d, [x, y], rfl, rfl, hb, hd, ok, k⟩
    rw [decide_eq_false e6]
    have e7 : p = 7 := by omega
    subst e7
    have hl : l.length = 1 := (Option.some.inj (show some 1 = some l.length from hc)).symm
    obtain ⟨x, rfl⟩ : ∃ x, l = [x] := match l, hl with | [x], _ => ⟨x, rfl⟩
    exact ⟨_, rfl, _, rfl, q, _, _, _, rfl, rfl, SqL.of hq, at_0, a, d, [x], rfl, rfl, hb, hd, ok, k⟩
theorem sc_quest : FnScope ["voyage", "call", "given"] ["voyage", "call", "given"] (defScope st_answer_of_question) := ⟨rfl, rfl, rfl, by decide +kernel, rfl, by decide +kernel, by decide +kernel⟩
theorem ok_quest (F : FnAt K mg "answer_of_question" st_answer_of_question) (N : TxtN mg) (h8 : Has P w K mg base 7 "sd_lasts" ["voyage", "g"] (spAsk c 1 fun l => .lasts (l.getD 0 0))) (h9 : Has P w K mg base 7 "sd_least" ["voyage", "g"] (spAsk c 1 fun l => .least (l.getD 0 0))) (h10 : Has P w K mg base 7 "sd_enough" ["voyage", "g", "n"] (spAsk c 2 fun l => .enough (l.getD 0 0) (l.getD 1 0))) (h11 : Has P w K mg base 2 "sd_need" ["voyage", "g", "a", "b"] (spAsk c 3 fun l => .need (l.getD 0 0) (l.getD 1 0) (l.getD 2 0))) (h12 : Has P w K mg base 6 "sd_spoils" ["voyage", "g"] (spAsk c 1 fun l => .spoils (l.getD 0 0))) (h13 : Has P w K mg base 2 "sd_stock" ["voyage", "g"] (spAsk c 1 fun l => .stock (l.getD 0 0))) (h14 : Has P w K mg base 2 "sd_lot" ["voyage", "g", "i"] (spAsk c 2 fun l => .lot (l.getD 0 0) (l.getD 1 0))) (h15 : Has P w K mg base 2 "sd_look" ["voyage", "g"] (spAsk c 1 fun l => .look (l.getD 0 0))) (h20 : Has P w K mg base 2 "sd_sums" ["voyage", "g"] (spAsk c 1 fun l => .sums (l.getD 0 0))) :
    Has P w K mg base 8 "answer_of_question" ["voyage", "call", "given"] (spQuest c) := by
  obtain ⟨f, fd, F, m⟩ := F
  obtain ⟨f8, fd8, G8, m8, k8, b8⟩ := h8
  obtain ⟨f9, fd9, G9, m9, k9, b9⟩ := h9
  obtain ⟨f10, fd10, G10, m10, k10, b10⟩ := h10
  obtain ⟨f11, fd11, G11, m11, k11, b11⟩ := h11
  obtain ⟨f12, fd12, G12, m12, k12, b12⟩ := h12
  obtain ⟨f13, fd13, G13, m13, k13, b13⟩ := h13
  obtain ⟨f14, fd14, G14, m14, k14, b14⟩ := h14
  obtain ⟨f15, fd15, G15, m15, k15, b15⟩ := h15
  obtain ⟨f20, fd20, G20, m20, k20, b20⟩ := h20
  refine ⟨f, fd, ?_, m, F.kp, F.binds fun _ _ _ _ _ _ us hl => match us, hl with | [_, _, _], _ => rfl⟩
  refine F.ok sc_quest (fun vs H Q E h => ?_) (fun cdv A outer s H vs Q E hr h => ?_)
  · obtain ⟨v, q, s, p, l, rfl, _⟩ := h
    rfl
  · obtain ⟨v, q, sh, p, l, rfl, hv, ok, hq, hc, hb, hp, k⟩ := h
    have hr2 : Room 2 _ := hr.mono (by decide)
    have hr6 : Room 6 _ := hr.mono (by decide)
    have hr7 : Room 7 _ := hr.mono (by decide)
    refine ⟨_, (pss_cons (ps_if (pt_cmpR op_eq (pv 1) (pe_num N.LASTS (by rfl)) (nomark _)) (pss_one (ps_ret (pe_call G8 hr7 rfl m8 k8 b8 .nil pass0 (pa_cons (pv 0) (pa_cons (pe_ix ix_list (pv 2) pe_int (fun _ _ => rfl)) pa_nil))))) pss_nil)
      (pss_cons (ps_if (pt_cmpR op_eq (pv 1) (pe_num N.LEAST (by rfl)) (nomark _)) (pss_one (ps_ret (pe_call G9 hr7 rfl m9 k9 b9 .nil pass0 (pa_cons (pv 0) (pa_cons (pe_ix ix_list (pv 2) pe_int (fun _ _ => rfl)) pa_nil))))) pss_nil)
      (pss_cons (ps_if (pt_cmpR op_eq (pv 1) (pe_num N.ENOUGH (by rfl)) (nomark _)) (pss_one (ps_ret (pe_call G10 hr7 rfl m10 k10 b10 .nil pass0 (pa_cons (pv 0) (pa_cons (pe_ix ix_list (pv 2) pe_int (fun _ _ => rfl)) (pa_cons (pe_ix ix_list (pv 2) pe_int (fun _ _ => rfl)) pa_nil)))))) pss_nil)
      (pss_cons (ps_if (pt_cmpR op_eq (pv 1) (pe_num N.NEED (by rfl)) (nomark _)) (pss_one (ps_ret (pe_call G11 hr2 rfl m11 k11 b11 .nil pass0 (pa_cons (pv 0) (pa_cons (pe_ix ix_list (pv 2) pe_int (fun _ _ => rfl)) (pa_cons (pe_ix ix_list (pv 2) pe_int (fun _ _ => rfl)) (pa_cons (pe_ix ix_list (pv 2) pe_int (fun _ _ => rfl)) pa_nil))))))) pss_nil)
      (pss_cons (ps_if (pt_cmpR op_eq (pv 1) (pe_num N.SPOILS (by rfl)) (nomark _)) (pss_one (ps_ret (pe_call G12 hr6 rfl m12 k12 b12 .nil pass0 (pa_cons (pv 0) (pa_cons (pe_ix ix_list (pv 2) pe_int (fun _ _ => rfl)) pa_nil))))) pss_nil)
      (pss_cons (ps_if (pt_cmpR op_eq (pv 1) (pe_num N.STOCK (by rfl)) (nomark _)) (pss_one (ps_ret (pe_call G13 hr2 rfl m13 k13 b13 .nil pass0 (pa_cons (pv 0) (pa_cons (pe_ix ix_list (pv 2) pe_int (fun _ _ => rfl)) pa_nil))))) pss_nil)
      (pss_cons (ps_if (pt_cmpR op_eq (pv 1) (pe_num N.LOT (by rfl)) (nomark _)) (pss_one (ps_ret (pe_call G14 hr2 rfl m14 k14 b14 .nil pass0 (pa_cons (pv 0) (pa_cons (pe_ix ix_list (pv 2) pe_int (fun _ _ => rfl)) (pa_cons (pe_ix ix_list (pv 2) pe_int (fun _ _ => rfl)) pa_nil)))))) pss_nil)
      (pss_cons (ps_if (pt_cmpR op_eq (pv 1) (pe_num N.LOOK (by rfl)) (nomark _)) (pss_one (ps_ret (pe_call G15 hr2 rfl m15 k15 b15 .nil pass0 (pa_cons (pv 0) (pa_cons (pe_ix ix_list (pv 2) pe_int (fun _ _ => rfl)) pa_nil))))) pss_nil)
      (pss_one (ps_ret (pe_call G20 hr2 rfl m20 k20 b20 .nil pass0 (pa_cons (pv 0) (pa_cons (pe_ix ix_list (pv 2) pe_int (fun _ _ => rfl)) pa_nil))))))))))))), ?_⟩
    refine ⟨_, rfl, rfl, _, rfl, ?_⟩
    rw [show decide (nv p = V.int 8) = decide (p = 8) from dec_eq p 8]
    by_cases e8 : p = 8
    · rw [decide_eq_true e8]
      subst e8
      have hl : l.length = 1 := (Option.some.inj (show some 1 = some l.length from hc)).symm
      obtain ⟨x, rfl⟩ : ∃ x, l = [x] := match l, hl with | [x], _ => ⟨x, rfl⟩
      exact ⟨_, rfl, _, rfl, q, _, _, _, rfl, rfl, SqL.of hq, at_0, v, sh, [x], rfl, rfl, hb, hv, ok, k⟩
    rw [decide_eq_false e8]
    refine ⟨_, rfl, rfl, _, rfl, ?_⟩
    rw [show decide (nv p = V.int 9) = decide (p = 9) from dec_eq p 9]
    by_cases e9 : p = 9
    · rw [decide_eq_true e9]
      subst e9
      have hl : l.length = 1 := (Option.some.inj (show some 1 = some l.length from hc)).symm
      obtain ⟨x, rfl⟩ : ∃ x, l = [x] := match l, hl with | [x], _ => ⟨x, rfl⟩
      exact ⟨_, rfl, _, rfl, q, _, _, _, rfl, rfl, SqL.of hq, at_0, v, sh, [x], rfl, rfl, hb, hv, ok, k⟩
    rw [decide_eq_false e9]
    refine ⟨_, rfl, rfl, _, rfl, ?_⟩
    rw [show decide (nv p = V.int 10) = decide (p = 10) from dec_eq p 10]
    by_cases e10 : p = 10
    · rw [decide_eq_true e10]
      subst e10
      have hl : l.length = 2 := (Option.some.inj (show some 2 = some l.length from hc)).symm
      obtain ⟨x, y, rfl⟩ : ∃ x y, l = [x, y] := match l, hl with | [x, y], _ => ⟨x, y, rfl⟩
      exact ⟨_, rfl, _, rfl, q, _, _, _, rfl, rfl, SqL.of hq, at_0, _, rfl, q, _, _, _, rfl, rfl, SqL.of hq, at_1, v, sh, [x, y], rfl, rfl, hb, hv, ok, k⟩
    rw [decide_eq_false e10]
    refine ⟨_, rfl, rfl, _, rfl, ?_⟩
    rw [show decide (nv p = V.int 11) = decide (p = 11) from dec_eq p 11]
    by_cases e11 : p = 11
    · rw [decide_eq_true e11]
      subst e11
      have hl : l.length = 3 := (Option.some.inj (show some 3 = some l.length from hc)).symm
      obtain ⟨x, y, z, rfl⟩ : ∃ x y z, l = [x, y, z] := match l, hl with | [x, y, z], _ => ⟨x, y, z, rfl⟩
      exact ⟨_, rfl, _, rfl, q, _, _, _, rfl, rfl, SqL.of hq, at_0, _, rfl, q, _, _, _, rfl, rfl, SqL.of hq, at_1, _, rfl, q, _, _, _, rfl, rfl, SqL.of hq, at_2, v, sh, [x, y, z], rfl, rfl, hb, hv, ok, k⟩
    rw [decide_eq_false e11]
    refine ⟨_, rfl, rfl, _, rfl, ?_⟩
    rw [show decide (nv p = V.int 12) = decide (p = 12) from dec_eq p 12]
    by_cases e12 : p = 12
    · rw [decide_eq_true e12]
      subst e12
      have hl : l.length = 1 := (Option.some.inj (show some 1 = some l.length from hc)).symm
      obtain ⟨x, rfl⟩ : ∃ x, l = [x] := match l, hl with | [x], _ => ⟨x, rfl⟩
      exact ⟨_, rfl, _, rfl, q, _, _, _, rfl, rfl, SqL.of hq, at_0, v, sh, [x], rfl, rfl, hb, hv, ok, k⟩
    rw [decide_eq_false e12]
    refine ⟨_, rfl, rfl, _, rfl, ?_⟩
    rw [show decide (nv p = V.int 13) = decide (p = 13) from dec_eq p 13]
    by_cases e13 : p = 13
    · rw [decide_eq_true e13]
      subst e13
      have hl : l.length = 1 := (Option.some.inj (show some 1 = some l.length from hc)).symm
      obtain ⟨x, rfl⟩ : ∃ x, l = [x] := match l, hl with | [x], _ => ⟨x, rfl⟩
      exact ⟨_, rfl, _, rfl, q, _, _, _, rfl, rfl, SqL.of hq, at_0, v, sh, [x], rfl, rfl, hb, hv, ok, k⟩
    rw [decide_eq_false e13]
    refine ⟨_, rfl, rfl, _, rfl, ?_⟩
    rw [show decide (nv p = V.int 14) = decide (p = 14) from dec_eq p 14]
    by_cases e14 : p = 14
    · rw [decide_eq_true e14]
      subst e14
      have hl : l.length = 2 := (Option.some.inj (show some 2 = some l.length from hc)).symm
      obtain ⟨x, y, rfl⟩ : ∃ x y, l = [x, y] := match l, hl with | [x, y], _ => ⟨x, y, rfl⟩
      exact ⟨_, rfl, _, rfl, q, _, _, _, rfl, rfl, SqL.of hq, at_0, _, rfl, q, _, _, _, rfl, rfl, SqL.of hq, at_1, v, sh, [x, y], rfl, rfl, hb, hv, ok, k⟩
    rw [decide_eq_false e14]
    refine ⟨_, rfl, rfl, _, rfl, ?_⟩
    rw [show decide (nv p = V.int 15) = decide (p = 15) from dec_eq p 15]
    by_cases e15 : p = 15
    · rw [decide_eq_true e15]
      subst e15
      have hl : l.length = 1 := (Option.some.inj (show some 1 = some l.length from hc)).symm
      obtain ⟨x, rfl⟩ : ∃ x, l = [x] := match l, hl with | [x], _ => ⟨x, rfl⟩
      exact ⟨_, rfl, _, rfl, q, _, _, _, rfl, rfl, SqL.of hq, at_0, v, sh, [x], rfl, rfl, hb, hv, ok, k⟩
    rw [decide_eq_false e15]
    have e20 : p = 20 := by omega
    subst e20
    have hl : l.length = 1 := (Option.some.inj (show some 1 = some l.length from hc)).symm
    obtain ⟨x, rfl⟩ : ∃ x, l = [x] := match l, hl with | [x], _ => ⟨x, rfl⟩
    exact ⟨_, rfl, _, rfl, q, _, _, _, rfl, rfl, SqL.of hq, at_0, v, sh, [x], rfl, rfl, hb, hv, ok, k⟩
theorem sc_dlook : FnScope ["voyage", "call", "given"] ["voyage", "call", "given"] (defScope st_answer_of_look) := ⟨rfl, rfl, rfl, by decide +kernel, rfl, by decide +kernel, by decide +kernel⟩
theorem ok_dlook (F : FnAt K mg "answer_of_look" st_answer_of_look) (N : TxtN mg) (h16 : Has P w K mg base 1 "sd_who" ["voyage", "day"] (spAsk c 1 fun l => .who (l.getD 0 0))) (h17 : Has P w K mg base 2 "sd_next" ["voyage"] (spAsk c 0 fun _ => .next)) (h18 : Has P w K mg base 7 "sd_short" ["voyage"] (spAsk c 0 fun _ => .short)) (h19 : Has P w K mg base 4 "sd_room" ["voyage"] (spAsk c 0 fun _ => .room)) :
    Has P w K mg base 8 "answer_of_look" ["voyage", "call", "given"] (spLook c) := by
  obtain ⟨f, fd, F, m⟩ := F
  obtain ⟨f16, fd16, G16, m16, k16, b16⟩ := h16
  obtain ⟨f17, fd17, G17, m17, k17, b17⟩ := h17
  obtain ⟨f18, fd18, G18, m18, k18, b18⟩ := h18
  obtain ⟨f19, fd19, G19, m19, k19, b19⟩ := h19
  refine ⟨f, fd, ?_, m, F.kp, F.binds fun _ _ _ _ _ _ us hl => match us, hl with | [_, _, _], _ => rfl⟩
  refine F.ok sc_dlook (fun vs H Q E h => ?_) (fun cdv A outer s H vs Q E hr h => ?_)
  · obtain ⟨v, q, s, p, l, rfl, _⟩ := h
    rfl
  · obtain ⟨v, q, sh, p, l, rfl, hv, ok, hq, hc, hb, hp, k⟩ := h
    have hr1 : Room 1 _ := hr.mono (by decide)
    have hr2 : Room 2 _ := hr.mono (by decide)
    have hr4 : Room 4 _ := hr.mono (by decide)
    have hr7 : Room 7 _ := hr.mono (by decide)
    refine ⟨_, (pss_cons (ps_if (pt_cmpR op_eq (pv 1) (pe_num N.WHO (by rfl)) (nomark _)) (pss_one (ps_ret (pe_call G16 hr1 rfl m16 k16 b16 .nil pass0 (pa_cons (pv 0) (pa_cons (pe_ix ix_list (pv 2) pe_int (fun _ _ => rfl)) pa_nil))))) pss_nil)
      (pss_cons (ps_if (pt_cmpR op_eq (pv 1) (pe_num N.NEXT (by rfl)) (nomark _)) (pss_one (ps_ret (pe_call G17 hr2 rfl m17 k17 b17 .nil pass0 (pa_cons (pv 0) pa_nil)))) pss_nil)
      (pss_cons (ps_if (pt_cmpR op_eq (pv 1) (pe_num N.SHORT (by rfl)) (nomark _)) (pss_one (ps_ret (pe_call G18 hr7 rfl m18 k18 b18 .nil pass0 (pa_cons (pv 0) pa_nil)))) pss_nil)
      (pss_one (ps_ret (pe_call G19 hr4 rfl m19 k19 b19 .nil pass0 (pa_cons (pv 0) pa_nil))))))), ?_⟩
    refine ⟨_, rfl, rfl, _, rfl, ?_⟩
    rw [show decide (nv p = V.int 16) = decide (p = 16) from dec_eq p 16]
    by_cases e16 : p = 16
    · rw [decide_eq_true e16]
      subst e16
      have hl : l.length = 1 := (Option.some.inj (show some 1 = some l.length from hc)).symm
      obtain ⟨x, rfl⟩ : ∃ x, l = [x] := match l, hl with | [x], _ => ⟨x, rfl⟩
      exact ⟨_, rfl, _, rfl, q, _, _, _, rfl, rfl, SqL.of hq, at_0, v, sh, [x], rfl, rfl, hb, hv, ok, k⟩
    rw [decide_eq_false e16]
    refine ⟨_, rfl, rfl, _, rfl, ?_⟩
    rw [show decide (nv p = V.int 17) = decide (p = 17) from dec_eq p 17]
    by_cases e17 : p = 17
    · rw [decide_eq_true e17]
      subst e17
      have hl : l.length = 0 := (Option.some.inj (show some 0 = some l.length from hc)).symm
      obtain rfl : l = [] := match l, hl with | [], _ => rfl
      exact ⟨_, rfl, v, sh, [], rfl, rfl, hb, hv, ok, k⟩
    rw [decide_eq_false e17]
    refine ⟨_, rfl, rfl, _, rfl, ?_⟩
    rw [show decide (nv p = V.int 18) = decide (p = 18) from dec_eq p 18]
    by_cases e18 : p = 18
    · rw [decide_eq_true e18]
      subst e18
      have hl : l.length = 0 := (Option.some.inj (show some 0 = some l.length from hc)).symm
      obtain rfl : l = [] := match l, hl with | [], _ => rfl
      exact ⟨_, rfl, v, sh, [], rfl, rfl, hb, hv, ok, k⟩
    rw [decide_eq_false e18]
    have e19 : p = 19 := by omega
    subst e19
    have hl : l.length = 0 := (Option.some.inj (show some 0 = some l.length from hc)).symm
    obtain rfl : l = [] := match l, hl with | [], _ => rfl
    exact ⟨_, rfl, v, sh, [], rfl, rfl, hb, hv, ok, k⟩
theorem sc_hist : FnScope ["ship", "call"] ["ship", "call"] (defScope st_answer_of_history) := ⟨rfl, rfl, rfl, by decide +kernel, rfl, by decide +kernel, by decide +kernel⟩
theorem ok_hist (F : FnAt K mg "answer_of_history" st_answer_of_history) (N : TxtN mg) (h21 : Has P w K mg base 2 "sd_back" ["ship"] (spHis c .back)) (h22 : Has P w K mg base 2 "sd_again" ["ship"] (spHis c .again)) (h23 : Has P w K mg base 1 "sd_state" ["ship"] (spHis c .state)) :
    Has P w K mg base 3 "answer_of_history" ["ship", "call"] (spHistory c) := by
  obtain ⟨f, fd, F, m⟩ := F
  obtain ⟨f21, fd21, G21, m21, k21, b21⟩ := h21
  obtain ⟨f22, fd22, G22, m22, k22, b22⟩ := h22
  obtain ⟨f23, fd23, G23, m23, k23, b23⟩ := h23
  refine ⟨f, fd, ?_, m, F.kp, F.binds fun _ _ _ _ _ _ us hl => match us, hl with | [_, _], _ => rfl⟩
  refine F.ok sc_hist (fun vs H Q E h => ?_) (fun cdv A outer s H vs Q E hr h => ?_)
  · obtain ⟨a, d, p, rfl, _⟩ := h
    rfl
  · obtain ⟨a, d, p, rfl, hd, ok, hp1, hp2, k⟩ := h
    have hr1 : Room 1 _ := hr.mono (by decide)
    have hr2 : Room 2 _ := hr.mono (by decide)
    refine ⟨_, (pss_cons (ps_if (pt_cmpR op_eq (pv 1) (pe_num N.BACK (by rfl)) (nomark _)) (pss_one (ps_ret (pe_call G21 hr2 rfl m21 k21 b21 .nil pass0 (pa_cons (pv 0) pa_nil)))) pss_nil)
      (pss_cons (ps_if (pt_cmpR op_eq (pv 1) (pe_num N.AGAIN (by rfl)) (nomark _)) (pss_one (ps_ret (pe_call G22 hr2 rfl m22 k22 b22 .nil pass0 (pa_cons (pv 0) pa_nil)))) pss_nil)
      (pss_one (ps_ret (pe_call G23 hr1 rfl m23 k23 b23 .nil pass0 (pa_cons (pv 0) pa_nil)))))), ?_⟩
    refine ⟨_, rfl, rfl, _, rfl, ?_⟩
    rw [show decide (nv p = V.int 21) = decide (p = 21) from dec_eq p 21]
    by_cases e21 : p = 21
    · rw [decide_eq_true e21]
      subst e21
      exact ⟨_, rfl, a, d, rfl, hd, ok, k⟩
    rw [decide_eq_false e21]
    refine ⟨_, rfl, rfl, _, rfl, ?_⟩
    rw [show decide (nv p = V.int 22) = decide (p = 22) from dec_eq p 22]
    by_cases e22 : p = 22
    · rw [decide_eq_true e22]
      subst e22
      exact ⟨_, rfl, a, d, rfl, hd, ok, k⟩
    rw [decide_eq_false e22]
    have e23 : p = 23 := by omega
    subst e23
    exact ⟨_, rfl, a, d, rfl, hd, ok, k⟩
/-! ## answer_of_call -/
theorem in_look (p : Nat) : inV (nv p) [V.int 16, V.int 17, V.int 18, V.int 19] = decide (16 ≤ p ∧ p ≤ 19) := by
  show ((16 : Int) == ((p : Nat) : Int) || ((17 : Int) == ((p : Nat) : Int) || ((18 : Int) == ((p : Nat) : Int) || ((19 : Int) == ((p : Nat) : Int) || false)))) = _
  apply Bool.eq_iff_iff.mpr
  simp only [Bool.or_eq_true, beq_iff_eq, decide_eq_true_eq, Bool.false_eq_true, or_false]
  omega
theorem sc_call : FnScope ["ship", "call", "given"] ["ship", "call", "given"] (defScope st_answer_of_call) := ⟨rfl, rfl, rfl, by decide +kernel, rfl, by decide +kernel, by decide +kernel⟩
theorem ok_call (F : FnAt K mg "answer_of_call" st_answer_of_call) (T : Txt K mg c) (N : TxtN mg) (hS : Has P w K mg base 3 "sd_start" ["ship", "last", "room", "persons"] (spStart c)) (hC : Has P w K mg base 7 "answer_of_change" ["ship", "call", "given"] (spChange c)) (hH : Has P w K mg base 3 "answer_of_history" ["ship", "call"] (spHistory c))
    (hL : Has P w K mg base 8 "answer_of_look" ["voyage", "call", "given"] (spLook c)) (hQ : Has P w K mg base 8 "answer_of_question" ["voyage", "call", "given"] (spQuest c)) : Has P w K mg base 11 "answer_of_call" ["ship", "call", "given"] (spCall c) := by
  obtain ⟨f, fd, F, m⟩ := F
  obtain ⟨fS, fdS, GS, mS, kS, bS⟩ := hS
  obtain ⟨fC, fdC, GC, mC, kC, bC⟩ := hC
  obtain ⟨fH, fdH, GH, mH, kH, bH⟩ := hH
  obtain ⟨fL, fdL, GL, mL, kL, bL⟩ := hL
  obtain ⟨fQ, fdQ, GQ, mQ, kQ, bQ⟩ := hQ
  refine ⟨f, fd, ?_, m, F.kp, F.binds fun _ _ _ _ _ _ us hl => match us, hl with | [_, _, _], _ => rfl⟩
  refine F.ok sc_call (fun vs H Q E h => ?_) (fun cdv A outer s H vs Q E hr h => ?_)
  · obtain ⟨a, q, s, p, l, rfl, _⟩ := h
    rfl
  · obtain ⟨a, q, st, p, l, rfl, hst, hq, hc, hb, hm, k⟩ := h
    have hr3 : Room 3 _ := hr.mono (by decide)
    have hr7 : Room 7 _ := hr.mono (by decide)
    have hr8 : Room 8 _ := hr.mono (by decide)
    have hp : p < 24 := (List.getElem?_eq_some_iff.mp hc).1
    refine ⟨_, (pss_cons (ps_if (pt_cmpR op_eq (pv 1) (pe_num N.START (by rfl)) (nomark _)) (pss_one (ps_ret (pe_call GS hr3 rfl mS kS bS .nil pass0 (pa_cons (pv 0) (pa_cons (pe_ix ix_list (pv 2) pe_int (fun _ _ => rfl)) (pa_cons (pe_ix ix_list (pv 2) pe_int (fun _ _ => rfl)) (pa_cons (pe_ix ix_list (pv 2) pe_int (fun _ _ => rfl)) pa_nil))))))) pss_nil)
      (pss_cons (ps_if (pt_cmpR op_le (pv 1) (pe_num N.DAYS (by rfl)) (nomark _)) (pss_one (ps_ret (pe_call GC hr7 rfl mC kC bC .nil pass0 (pa_cons (pv 0) (pa_cons (pv 1) (pa_cons (pv 2) pa_nil)))))) pss_nil)
      (pss_cons (ps_if (pt_cmpR op_ge (pv 1) (pe_num N.BACK (by rfl)) (nomark _)) (pss_one (ps_ret (pe_call GH hr3 rfl mH kH bH .nil pass0 (pa_cons (pv 0) (pa_cons (pv 1) pa_nil))))) pss_nil)
      (pss_cons (ps_if (pt_cmpR op_in_seq (pv 1) (pe_tup (pa_cons (pe_num N.WHO (by rfl)) (pa_cons (pe_num N.NEXT (by rfl)) (pa_cons (pe_num N.SHORT (by rfl)) (pa_cons (pe_num N.ROOM (by rfl)) pa_nil))))) rfl) (pss_one (ps_ret (pe_call GL hr8 rfl mL kL bL .nil pass0 (pa_cons (pe_fld (pv 0) rfl) (pa_cons (pv 1) (pa_cons (pv 2) pa_nil)))))) pss_nil)
      (pss_one (ps_ret (pe_call GQ hr8 rfl mQ kQ bQ .nil pass0 (pa_cons (pe_fld (pv 0) rfl) (pa_cons (pv 1) (pa_cons (pv 2) pa_nil)))))))))), ?_⟩
    refine ⟨_, rfl, rfl, _, rfl, ?_⟩
    rw [show decide (nv p = V.int 0) = decide (p = 0) from dec_eq p 0]
    by_cases e0 : p = 0
    · rw [decide_eq_true e0]
      subst e0
      have hl : l.length = 3 := (Option.some.inj (show some 3 = some l.length from hc)).symm
      obtain ⟨x, y, z, rfl⟩ : ∃ x y z, l = [x, y, z] := match l, hl with | [x, y, z], _ => ⟨x, y, z, rfl⟩
      exact ⟨_, rfl, _, rfl, q, _, _, _, rfl, rfl, SqL.of hq, at_0, _, rfl, q, _, _, _, rfl, rfl, SqL.of hq, at_1, _, rfl, q, _, _, _, rfl, rfl, SqL.of hq, at_2, a, st, x, y, z, rfl, hst, fun H' r h1 h2 h3 h4 => k H' r h1 (Kq.of h2) h3 h4⟩
    rw [decide_eq_false e0]
    obtain ⟨d, rfl⟩ := desk_of hc e0 hm
    rw [step_some d (callN_of hc)] at k
    obtain ⟨hd, ok⟩ := hst
    have k2 := fun (H' : Hp) (r : Addr) (z1 : DeskAt c H' a (Km438.act d (callN p l)).1) (z2 : Kq c a H H') z3 z4 => k H' r ⟨z1, act_ok ok _⟩ z2 z3 z4
    refine ⟨_, rfl, _, _, rfl, rfl, _, rfl, ?_⟩
    have e1 : decide (((p : Nat) : Int) ≤ 7) = decide (p ≤ 7) := decide_eq_decide.mpr (by omega)
    dsimp only
    rw [e1]
    by_cases h1 : p ≤ 7
    · rw [decide_eq_true h1]
      exact ⟨_, rfl, _, rfl, _, rfl, a, q, d, p, l, rfl, hd, ok, hq, hc, hb, by omega, h1, fun H' r z1 z2 z3 z4 => k2 H' r z1 (Kq.of z2) z3 z4⟩
    rw [decide_eq_false h1]
    refine ⟨_, rfl, _, _, rfl, rfl, _, rfl, ?_⟩
    have e2 : decide ((21 : Int) ≤ ((p : Nat) : Int)) = decide (21 ≤ p) := decide_eq_decide.mpr (by omega)
    dsimp only
    rw [e2]
    by_cases h2 : 21 ≤ p
    · rw [decide_eq_true h2]
      have hl : l = [] := by
        have all : ∀ p : Nat, 21 ≤ p → p < 24 → counts[p]? = some 0 := fun p h1 h2 => by
          match p, h1, h2 with
          | 21, _, _ | 22, _, _ | 23, _, _ => rfl
          | p + 24, _, h2 => omega
        have := hc.symm.trans (all p h2 hp)
        exact List.eq_nil_of_length_eq_zero (Option.some.inj this)
      subst hl
      exact ⟨_, rfl, _, rfl, a, d, p, rfl, hd, ok, h2, by omega, k2⟩
    rw [decide_eq_false h2]
    obtain ⟨da, v, pl, ul, ha, hv⟩ := hd.voy
    have hasked := ask_desk (p := p) (by unfold isAsk; rw [decide_eq_true (show 8 ≤ p by omega), beq_eq_false_iff_ne.mpr (show p ≠ 21 by omega), beq_eq_false_iff_ne.mpr (show p ≠ 22 by omega)]; rfl) hp d l (by omega)
    rw [hasked.1, hasked.2] at k2
    refine ⟨_, rfl, (by show 4 ≤ sizeLine; decide), fun t nt => ?_⟩
    have s1 := Same.upd (.tup [V.int 16, V.int 17, V.int 18, V.int 19]) nt
    have ht := upd_same (H := H) (a := t) (o := .tup [V.int 16, V.int 17, V.int 18, V.int 19])
    refine ⟨t, [V.int 16, V.int 17, V.int 18, V.int 19], rfl, .inr (SqT.of ht), rfl, rfl, _, rfl, ?_⟩
    have k3 : ∀ (H' : Hp) (r : Addr), Same (L2.upd H t (.tup [V.int 16, V.int 17, V.int 18, V.int 19])) H' → (L2.upd H t (.tup [V.int 16, V.int 17, V.int 18, V.int 19])) r = none → H' r = some (.lst ((ask d.now (callN p l)).map V.int)) → Q (.ref r) H' := fun H' r z1 z2 z3 =>
      k2 H' r (hd.same (s1.trans z1)) (Kq.of (Kp.same (s1.trans z1) [a])) (s1.free z2) z3
    have ha1 := s1 _ _ ha
    have hv1 := hv.same s1
    have hq1 := s1 _ _ hq
    generalize L2.upd H t (.tup [V.int 16, V.int 17, V.int 18, V.int 19]) = H1 at k3 ha1 hv1 hq1 ⊢
    have e3 : (if false = true then !inV (nv p) [V.int 16, V.int 17, V.int 18, V.int 19] else inV (nv p) [V.int 16, V.int 17, V.int 18, V.int 19]) = decide (16 ≤ p ∧ p ≤ 19) := in_look p
    rw [e3]
    by_cases h3 : 16 ≤ p ∧ p ≤ 19
    · rw [decide_eq_true h3]
      exact ⟨_, rfl, a, c.S, da, _, _, rfl, ha1, T.S.cl, T.S.voyage, rfl, _, rfl, _, rfl, v, q, d.now, p, l, rfl, hv1, ok.now, hq1, hc, hb, h3, k3⟩
    · rw [decide_eq_false h3]
      exact ⟨_, rfl, a, c.S, da, _, _, rfl, ha1, T.S.cl, T.S.voyage, rfl, _, rfl, _, rfl, v, q, d.now, p, l, rfl, hv1, ok.now, hq1, hc, hb, by omega, k3⟩
end
end Sd

end
section
set_option Elab.async false
set_option linter.all false
set_option maxRecDepth 100000
set_option maxHeartbeats 2000000
namespace Sd
open PySem PySem.Spec PyProof.Rows L2
section
variable {K : PySem.W.Frag} {h : Heap} {mg : Str → Option Value}
theorem fnat {x : Str} {st : Stmt} {f : Addr} {od an : Option Addr} {sl : Array (Option Value)} {oc kV dc pm cd ct : Value} (X : K.In h) (G : h.Ns mainGlobals mg) (a : PySem.W.nsIn K mainGlobals x = some (some (.ref f)))
    (l : K.lookup f = some ⟨oc, od, .func (PySem.W.fnOf x x (defArgs st) (defBody st) (defScope st) .none kV dc pm an cd ct), sl⟩) (c : PySem.W.codeIn K cd x = true) (k : PySem.W.keepIn K (.ref f) = true) : FnAt K mg x st :=
  ⟨f, _, fun_mk (st := st) l c k, PySem.W.mg_of X G a⟩
theorem initat {x q : Str} {st : Stmt} {f C : Addr} {od an : Option Addr} {sl : Array (Option Value)} {oc kV dc pm cd ct : Value} (X : K.In h) (G : h.Ns mainGlobals mg) (aC : PySem.W.nsIn K mainGlobals x = some (some (.ref C)))
    (a : PySem.W.findIn K (.ref C) "__init__" = some (some (.ref f))) (i : PySem.W.isFn K (.ref f) = true)
    (l : K.lookup f = some ⟨oc, od, .func (PySem.W.fnOf "__init__" q (defArgs st) (defBody st) (defScope st) .none kV dc pm an cd ct), sl⟩) (c : PySem.W.codeIn K cd q = true) (k : PySem.W.keepIn K (.ref f) = true)
    (mk : PySem.W.makesIn K C = true) (kc : PySem.W.keepIn K (.ref C) = true)
    (pg : PySem.W.plainGet K C Str.empty = true) (hd : PySem.W.hasDictIn K C = true) (po : PySem.W.plainOver K C = true) (sa : PySem.W.findIn K (.ref C) "__setattr__" = some (some (.builtin "object.__setattr__"))) :
    ∃ C, PySem.W.nsIn K mainGlobals x = some (some (.ref C)) ∧ InitAt K mg x q C st ∧ Cls K C :=
  ⟨C, aC, ⟨f, _, fun_mk (st := st) l c k, ⟨mk, a, i, kc⟩, PySem.W.mg_of X G aC⟩, ⟨pg, hd, po, sa⟩⟩
theorem initatN {x q : Str} {st : Stmt} {f C : Addr} {R : Addr → Prop} {od an : Option Addr} {sl : Array (Option Value)} {oc kV dc pm cd ct : Value} (X : K.In h) (G : h.Ns mainGlobals mg) (aC : PySem.W.nsIn K mainGlobals x = some (some (.ref C)))
    (a : PySem.W.findIn K (.ref C) "__init__" = some (some (.ref f))) (i : PySem.W.isFn K (.ref f) = true)
    (l : K.lookup f = some ⟨oc, od, .func (PySem.W.fnOf "__init__" q (defArgs st) (defBody st) (defScope st) .none kV dc pm an cd ct), sl⟩) (c : PySem.W.codeIn K cd q = true) (k : PySem.W.keepIn K (.ref f) = true)
    (mk : PySem.W.makesIn K C = true) (kc : PySem.W.keepIn K (.ref C) = true)
    (pg : PySem.W.plainGet K C Str.empty = true) (hd : PySem.W.hasDictIn K C = true) (po : PySem.W.plainOver K C = true) (sa : PySem.W.findIn K (.ref C) "__setattr__" = some (some (.builtin "object.__setattr__"))) (no : R C) :
    ∃ C, PySem.W.nsIn K mainGlobals x = some (some (.ref C)) ∧ InitAt K mg x q C st ∧ Cls K C ∧ R C :=
  ⟨C, aC, ⟨f, _, fun_mk (st := st) l c k, ⟨mk, a, i, kc⟩, PySem.W.mg_of X G aC⟩, ⟨pg, hd, po, sa⟩, no⟩
theorem tupat {x : Str} {t : Addr} {od : Option Addr} {its : Array Value} {n : Nat} {sl : Array (Option Value)} {l : List Nat} (X : K.In h) (G : h.Ns mainGlobals mg) (a : PySem.W.nsIn K mainGlobals x = some (some (.ref t)))
    (lk : K.lookup t = some ⟨.type "tuple", od, .seq its n, sl⟩) (v : Vals (l.map nv) its.toList) (hl : l.length ≤ 100 := by decide) : Tup K mg x l := by
  refine ⟨t, PySem.W.mg_of X G a, fun H => .inr ⟨_, its, n, lk, rfl, rfl, ?_, v⟩⟩
  have := v.length
  rw [List.length_map] at this
  have e : its.size = its.toList.length := rfl
  rw [e, ← this]
  exact line_le (by omega)
theorem numat {x : Str} {i : Int} {t : Tok} (X : K.In h) (G : h.Ns mainGlobals mg) (a : PySem.W.nsIn K mainGlobals x = some (some (.int i t))) : Num mg x i := ⟨t, PySem.W.mg_of X G a⟩
end
end Sd

end
section
namespace Sd
open PySem L2
/-- every def of the text -/
structure Fns (K : PySem.W.Frag) (mg : Str → Option Value) : Prop where
  units_in : FnAt K mg "units_in" st_units_in
  with_more : FnAt K mg "with_more" st_with_more
  without : FnAt K mg "without" st_without
  still_good : FnAt K mg "still_good" st_still_good
  copy_of_good : FnAt K mg "copy_of_good" st_copy_of_good
  lots_if_loaded : FnAt K mg "lots_if_loaded" st_lots_if_loaded
  load : FnAt K mg "load" st_load
  give : FnAt K mg "give" st_give
  live_day : FnAt K mg "live_day" st_live_day
  lacks_by_day : FnAt K mg "lacks_by_day" st_lacks_by_day
  spoils_in_days : FnAt K mg "spoils_in_days" st_spoils_in_days
  copy_of_voyage : FnAt K mg "copy_of_voyage" st_copy_of_voyage
  begin_voyage : FnAt K mg "begin_voyage" st_begin_voyage
  begin_change : FnAt K mg "begin_change" st_begin_change
  take_back : FnAt K mg "take_back" st_take_back
  do_again : FnAt K mg "do_again" st_do_again
  has_good : FnAt K mg "has_good" st_has_good
  port_sign : FnAt K mg "port_sign" st_port_sign
  next_port : FnAt K mg "next_port" st_next_port
  units_aboard : FnAt K mg "units_aboard" st_units_aboard
  room_left : FnAt K mg "room_left" st_room_left
  needs_by_day : FnAt K mg "needs_by_day" st_needs_by_day
  lacks_up_to : FnAt K mg "lacks_up_to" st_lacks_up_to
  bits_of : FnAt K mg "bits_of" st_bits_of
  sd_start : FnAt K mg "sd_start" st_sd_start
  sd_good : FnAt K mg "sd_good" st_sd_good
  sd_persons : FnAt K mg "sd_persons" st_sd_persons
  sd_port : FnAt K mg "sd_port" st_sd_port
  sd_load : FnAt K mg "sd_load" st_sd_load
  sd_give : FnAt K mg "sd_give" st_sd_give
  sd_ration : FnAt K mg "sd_ration" st_sd_ration
  sd_days : FnAt K mg "sd_days" st_sd_days
  end_today : FnAt K mg "end_today" st_end_today
  sd_back : FnAt K mg "sd_back" st_sd_back
  sd_again : FnAt K mg "sd_again" st_sd_again
  sd_state : FnAt K mg "sd_state" st_sd_state
  sd_who : FnAt K mg "sd_who" st_sd_who
  sd_next : FnAt K mg "sd_next" st_sd_next
  sd_short : FnAt K mg "sd_short" st_sd_short
  sd_room : FnAt K mg "sd_room" st_sd_room
  sd_lasts : FnAt K mg "sd_lasts" st_sd_lasts
  sd_least : FnAt K mg "sd_least" st_sd_least
  sd_enough : FnAt K mg "sd_enough" st_sd_enough
  sd_need : FnAt K mg "sd_need" st_sd_need
  sd_spoils : FnAt K mg "sd_spoils" st_sd_spoils
  sd_stock : FnAt K mg "sd_stock" st_sd_stock
  sd_lot : FnAt K mg "sd_lot" st_sd_lot
  sd_look : FnAt K mg "sd_look" st_sd_look
  sd_sums : FnAt K mg "sd_sums" st_sd_sums
  answers : FnAt K mg "answers" st_answers
  answer_of_call : FnAt K mg "answer_of_call" st_answer_of_call
  answer_of_change : FnAt K mg "answer_of_change" st_answer_of_change
  answer_of_question : FnAt K mg "answer_of_question" st_answer_of_question
  answer_of_look : FnAt K mg "answer_of_look" st_answer_of_look
  answer_of_history : FnAt K mg "answer_of_history" st_answer_of_history
end Sd

end
section
set_option Elab.async false
set_option linter.all false
set_option maxRecDepth 100000
set_option maxHeartbeats 2000000
namespace Sd
open PySem PySem.Spec PyProof.Rows L2
/-- every class of the text -/
structure Ins (K : PySem.W.Frag) (mg : Str → Option Value) (c : Cl) : Prop where
  Lot : InitAt K mg "Lot" "Lot.__init__" c.L st_Lot_init
  Good : InitAt K mg "Good" "Good.__init__" c.G st_Good_init
  Voyage : InitAt K mg "Voyage" "Voyage.__init__" c.V st_Voyage_init
  Ship : InitAt K mg "Ship" "Ship.__init__" c.S st_Ship_init
section
variable {P : Program} {w : World} {K : PySem.W.Frag} {mg : Str → Option Value} {base : Heap} {c : Cl}
theorem all_ok {f : Addr} {fd : FuncData} (T : Txt K mg c) (N : TxtN mg) (I : Ins K mg c) (F : Fns K mg) (FA : Fun K "answers" "answers" st_answers f fd) (TB : Tup K mg "NUMBERS_BEHIND" counts) : FnOk P w K mg base CX0 12 f fd ["calls"] (spAns K) := by
  have hLot := ok_Lot (P := P) (w := w) (base := base) I.Lot T
  have hGood := ok_Good (P := P) (w := w) (base := base) I.Good T
  have hVoy := ok_Voy (P := P) (w := w) (base := base) I.Voyage T
  have hShip := ok_Ship (P := P) (w := w) (base := base) I.Ship T
  have hUnits := ok_units (P := P) (w := w) (base := base) F.units_in T
  have hWith := ok_with F.with_more T hLot
  have hWithout := ok_without F.without T hLot
  have hStill := ok_still (P := P) (w := w) (base := base) F.still_good T
  have hCopyG := ok_copyG F.copy_of_good T hGood
  have hIf := ok_if F.lots_if_loaded T hWith
  have hLoad := ok_load F.load T hIf
  have hGive := ok_give F.give T hWithout
  have hLive := ok_live F.live_day T hUnits hWithout hStill
  have hLacks := ok_lacks F.lacks_by_day T hCopyG hLive
  have hCopyV := ok_copyV F.copy_of_voyage T hVoy hCopyG
  have hBeginV := ok_beginV (P := P) (w := w) (base := base) F.begin_voyage T
  have hBegin := ok_begin F.begin_change T N.MOST_BACK hCopyV
  have hHas := ok_has (P := P) (w := w) (base := base) F.has_good T
  have hSign := ok_sign (P := P) (w := w) (base := base) F.port_sign T
  have hNext := ok_next (P := P) (w := w) (base := base) F.next_port T
  have hAboard := ok_aboard F.units_aboard T hUnits
  have hRoom := ok_room F.room_left T hAboard
  have hNeeds := ok_needs (P := P) (w := w) (base := base) F.needs_by_day T
  have hBits := ok_bits (P := P) (w := w) (base := base) F.bits_of
  have hUp := ok_up F.lacks_up_to T hLacks hNeeds
  have hNeed := ok_need F.sd_need T N hHas hNeeds
  have hLasts := ok_lasts F.sd_lasts T N hHas hUp
  have hLeast := ok_least F.sd_least T N hHas hNext hUp
  have hEnough := ok_enough F.sd_enough T N hHas hNext hUp hCopyG hLoad
  have hRation := ok_ration F.sd_ration T N hHas hBegin
  have hPersons := ok_persons F.sd_persons T N hBegin
  have hPort := ok_port F.sd_port T N hBegin hNext
  have hSgive := ok_sgive F.sd_give T N hHas hUnits hBegin hGive
  have hSgood := ok_sgood F.sd_good T N hGood hBegin
  have hSload := ok_sload F.sd_load T N hHas hSign hRoom hIf hUnits hBegin hLoad
  have hEnd := ok_end F.end_today T hLive
  have hDays := ok_sdays F.sd_days T N hBegin hEnd hBits hSign
  have hStart := ok_start F.sd_start T N hVoy hBeginV
  have hSpoil := ok_spoil F.spoils_in_days T hCopyG hLive
  have hSpoils := ok_sspoils F.sd_spoils T N hHas hNext hNeeds hSpoil
  have hStock := ok_stock F.sd_stock T N hHas hUnits
  have hLot := ok_lot F.sd_lot T N hHas
  have hLook := ok_look F.sd_look T N hHas
  have hSums := ok_sums F.sd_sums T N hHas hUnits
  have hWho := ok_who (P := P) (w := w) (base := base) F.sd_who T N
  have hSnext := ok_snext F.sd_next T hNext hSign
  have hShort := ok_short F.sd_short T hNext hUp hBits
  have hSroom := ok_sroom F.sd_room T hRoom hAboard
  have hBack := ok_back (P := P) (w := w) (base := base) F.take_back T
  have hAgain := ok_again (P := P) (w := w) (base := base) F.do_again T
  have hSback := ok_sback F.sd_back T N hBack
  have hSagain := ok_sagain F.sd_again T N hAgain
  have hState := ok_state (P := P) (w := w) (base := base) F.sd_state T
  have hChange := ok_change F.answer_of_change N hSgood hPersons hPort hSload hSgive hRation hDays
  have hQuest := ok_quest F.answer_of_question N hLasts hLeast hEnough hNeed hSpoils hStock hLot hLook hSums
  have hDlook := ok_dlook F.answer_of_look N hWho hSnext hShort hSroom
  have hHist := ok_hist F.answer_of_history N hSback hSagain hState
  have hC := ok_call F.answer_of_call T N hStart hChange hHist hDlook hQuest
  exact ok_ans (n := 10) (by decide) (by decide) FA T TB hShip hC
end
end Sd

end
set_option Elab.async false
set_option linter.all false
def PySem.W.Fast.tw1106781184982352810 : Nat := 0
def PySem.W.Fast.tw16117028530113113430 : Nat := 0
def PySem.W.Fast.tw8625431180929555027 : Nat := 0
def PySem.W.Fast.tw11965213225567489707 : Nat := 0
def PySem.W.Fast.tw761450475519969311 : Nat := 0
def PySem.W.Fast.tw16992965754775021680 : Nat := 0
def PySem.W.Fast.tw2307358894933901693 : Nat := 0
def PySem.W.Fast.tw8542996783679862137 : Nat := 0
def PySem.W.Fast.tw12171802502566654768 : Nat := 0
def PySem.W.Fast.tw6122310583578962056 : Nat := 0
def PySem.W.Fast.tw1036364776020307080 : Nat := 0
def PySem.W.Fast.tw14960704940113287573 : Nat := 0
def PySem.W.Fast.tw14343643432234616397 : Nat := 0
def PySem.W.Fast.tw10735884069993053489 : Nat := 0
def PySem.W.Fast.tw17797866607239460591 : Nat := 0
def PySem.W.Fast.tw14797055829234243190 : Nat := 0
def PySem.W.Fast.tw11007414997863608804 : Nat := 0
def PySem.W.Fast.tw7127160843245802146 : Nat := 0
def PySem.W.Fast.tw15129916109152526950 : Nat := 0
def PySem.W.Fast.tw11736095371161374414 : Nat := 0
def PySem.W.Fast.tw13203593081448412707 : Nat := 0
def PySem.W.Fast.tw14503530024375716858 : Nat := 0
def PySem.W.Fast.tw16155053479965715971 : Nat := 0
def PySem.W.Fast.tw7063404946159660230 : Nat := 0
open PySem PySem.W PyProof.Rows
set_option maxRecDepth 100000 in
set_option maxHeartbeats 0 in
theorem PySem.Challenge.cw_shipstores_s01_answers_holds : PySem.Challenge.rw_shipstores_s01_answers.Holds := by
  w_on; k_headS; (case hw => exact ⟨[.list [.int 0, .int 1, .int 1, .int 0]], by decide +kernel, by decide +kernel⟩)
  k_fillS
  refine L2.walk_specK (r := PySem.Challenge.rw_shipstores_s01_answers) (k := 12) (CX := L2.CX0) (ps := ["calls"]) (sp := Sd.spAns) (by decide +kernel) rfl rfl ⟨rfl, by decide, by decide⟩ (fun w h Y => PySem.W.kIn_of Y) ?F ?S (fun _ _ _ _ z => z)
  case F =>
    intro w mg fa h Y KX G hmg
    obtain ⟨C_Lot, a_Lot, I_Lot, c_Lot⟩ : ∃ C, PySem.W.nsIn (L2.KOf KX) mainGlobals "Lot" = some (some (.ref C)) ∧ Sd.InitAt (L2.KOf KX) mg "Lot" "Lot.__init__" C Sd.st_Lot_init ∧ L2.Cls (L2.KOf KX) C ∧ L2.NoAttr (L2.KOf KX) C "until" ∧ L2.NoAttr (L2.KOf KX) C "amount" := by
      refine' Sd.initatN KX G ?aC ?a ?i ?l ?c ?k ?mk ?kc ?pg ?hd ?po ?sa ?no
      (case aC => (try dsimp only [L2.KOf]); k_is); (case a => (try dsimp only [L2.KOf]); k_is); (case i => (try dsimp only [L2.KOf]); k_is); (case l => (try dsimp only [L2.KOf]); k_is); (case c => (try dsimp only [L2.KOf]); k_is); (case k => (try dsimp only [L2.KOf]); k_is); (case mk => (try dsimp only [L2.KOf]); k_is); (case kc => (try dsimp only [L2.KOf]); k_is); (case pg => (try dsimp only [L2.KOf]); k_is); (case hd => (try dsimp only [L2.KOf]); k_is); (case po => (try dsimp only [L2.KOf]); k_is); (case sa => (try dsimp only [L2.KOf]); k_is)
      (case no => exact ⟨(by unfold L2.NoAttr; try dsimp only [L2.KOf]; k_is), (by unfold L2.NoAttr; try dsimp only [L2.KOf]; k_is)⟩)
    have F_units_in : Sd.FnAt (L2.KOf KX) mg "units_in" Sd.st_units_in := by
      refine' Sd.fnat KX G ?a ?l ?c ?k
      (case a => (try dsimp only [L2.KOf]); k_is); (case l => (try dsimp only [L2.KOf]); k_is); (case c => (try dsimp only [L2.KOf]); k_is); (case k => (try dsimp only [L2.KOf]); k_is)
    have F_with_more : Sd.FnAt (L2.KOf KX) mg "with_more" Sd.st_with_more := by
      refine' Sd.fnat KX G ?a ?l ?c ?k
      (case a => (try dsimp only [L2.KOf]); k_is); (case l => (try dsimp only [L2.KOf]); k_is); (case c => (try dsimp only [L2.KOf]); k_is); (case k => (try dsimp only [L2.KOf]); k_is)
    have F_without : Sd.FnAt (L2.KOf KX) mg "without" Sd.st_without := by
      refine' Sd.fnat KX G ?a ?l ?c ?k
      (case a => (try dsimp only [L2.KOf]); k_is); (case l => (try dsimp only [L2.KOf]); k_is); (case c => (try dsimp only [L2.KOf]); k_is); (case k => (try dsimp only [L2.KOf]); k_is)
    have F_still_good : Sd.FnAt (L2.KOf KX) mg "still_good" Sd.st_still_good := by
      refine' Sd.fnat KX G ?a ?l ?c ?k
      (case a => (try dsimp only [L2.KOf]); k_is); (case l => (try dsimp only [L2.KOf]); k_is); (case c => (try dsimp only [L2.KOf]); k_is); (case k => (try dsimp only [L2.KOf]); k_is)
    obtain ⟨C_Good, a_Good, I_Good, c_Good⟩ : ∃ C, PySem.W.nsIn (L2.KOf KX) mainGlobals "Good" = some (some (.ref C)) ∧ Sd.InitAt (L2.KOf KX) mg "Good" "Good.__init__" C Sd.st_Good_init ∧ L2.Cls (L2.KOf KX) C ∧ L2.NoAttr (L2.KOf KX) C "per" ∧ L2.NoAttr (L2.KOf KX) C "life" ∧ L2.NoAttr (L2.KOf KX) C "lots" ∧ L2.NoAttr (L2.KOf KX) C "loaded" ∧ L2.NoAttr (L2.KOf KX) C "eaten" ∧ L2.NoAttr (L2.KOf KX) C "spoilt" ∧ L2.NoAttr (L2.KOf KX) C "given" ∧ L2.NoAttr (L2.KOf KX) C "lacked" := by
      refine' Sd.initatN KX G ?aC ?a ?i ?l ?c ?k ?mk ?kc ?pg ?hd ?po ?sa ?no
      (case aC => (try dsimp only [L2.KOf]); k_is); (case a => (try dsimp only [L2.KOf]); k_is); (case i => (try dsimp only [L2.KOf]); k_is); (case l => (try dsimp only [L2.KOf]); k_is); (case c => (try dsimp only [L2.KOf]); k_is); (case k => (try dsimp only [L2.KOf]); k_is); (case mk => (try dsimp only [L2.KOf]); k_is); (case kc => (try dsimp only [L2.KOf]); k_is); (case pg => (try dsimp only [L2.KOf]); k_is); (case hd => (try dsimp only [L2.KOf]); k_is); (case po => (try dsimp only [L2.KOf]); k_is); (case sa => (try dsimp only [L2.KOf]); k_is)
      (case no => exact ⟨(by unfold L2.NoAttr; try dsimp only [L2.KOf]; k_is), (by unfold L2.NoAttr; try dsimp only [L2.KOf]; k_is), (by unfold L2.NoAttr; try dsimp only [L2.KOf]; k_is), (by unfold L2.NoAttr; try dsimp only [L2.KOf]; k_is), (by unfold L2.NoAttr; try dsimp only [L2.KOf]; k_is), (by unfold L2.NoAttr; try dsimp only [L2.KOf]; k_is), (by unfold L2.NoAttr; try dsimp only [L2.KOf]; k_is), (by unfold L2.NoAttr; try dsimp only [L2.KOf]; k_is)⟩)
    have F_copy_of_good : Sd.FnAt (L2.KOf KX) mg "copy_of_good" Sd.st_copy_of_good := by
      refine' Sd.fnat KX G ?a ?l ?c ?k
      (case a => (try dsimp only [L2.KOf]); k_is); (case l => (try dsimp only [L2.KOf]); k_is); (case c => (try dsimp only [L2.KOf]); k_is); (case k => (try dsimp only [L2.KOf]); k_is)
    have F_lots_if_loaded : Sd.FnAt (L2.KOf KX) mg "lots_if_loaded" Sd.st_lots_if_loaded := by
      refine' Sd.fnat KX G ?a ?l ?c ?k
      (case a => (try dsimp only [L2.KOf]); k_is); (case l => (try dsimp only [L2.KOf]); k_is); (case c => (try dsimp only [L2.KOf]); k_is); (case k => (try dsimp only [L2.KOf]); k_is)
    have F_load : Sd.FnAt (L2.KOf KX) mg "load" Sd.st_load := by
      refine' Sd.fnat KX G ?a ?l ?c ?k
      (case a => (try dsimp only [L2.KOf]); k_is); (case l => (try dsimp only [L2.KOf]); k_is); (case c => (try dsimp only [L2.KOf]); k_is); (case k => (try dsimp only [L2.KOf]); k_is)
    have F_give : Sd.FnAt (L2.KOf KX) mg "give" Sd.st_give := by
      refine' Sd.fnat KX G ?a ?l ?c ?k
      (case a => (try dsimp only [L2.KOf]); k_is); (case l => (try dsimp only [L2.KOf]); k_is); (case c => (try dsimp only [L2.KOf]); k_is); (case k => (try dsimp only [L2.KOf]); k_is)
    have F_live_day : Sd.FnAt (L2.KOf KX) mg "live_day" Sd.st_live_day := by
      refine' Sd.fnat KX G ?a ?l ?c ?k
      (case a => (try dsimp only [L2.KOf]); k_is); (case l => (try dsimp only [L2.KOf]); k_is); (case c => (try dsimp only [L2.KOf]); k_is); (case k => (try dsimp only [L2.KOf]); k_is)
    have F_lacks_by_day : Sd.FnAt (L2.KOf KX) mg "lacks_by_day" Sd.st_lacks_by_day := by
      refine' Sd.fnat KX G ?a ?l ?c ?k
      (case a => (try dsimp only [L2.KOf]); k_is); (case l => (try dsimp only [L2.KOf]); k_is); (case c => (try dsimp only [L2.KOf]); k_is); (case k => (try dsimp only [L2.KOf]); k_is)
    have F_spoils_in_days : Sd.FnAt (L2.KOf KX) mg "spoils_in_days" Sd.st_spoils_in_days := by
      refine' Sd.fnat KX G ?a ?l ?c ?k
      (case a => (try dsimp only [L2.KOf]); k_is); (case l => (try dsimp only [L2.KOf]); k_is); (case c => (try dsimp only [L2.KOf]); k_is); (case k => (try dsimp only [L2.KOf]); k_is)
    have N_LATEST_LAST : Sd.Num mg "LATEST_LAST" (60) := by refine' Sd.numat KX G ?a; (case a => (try dsimp only [L2.KOf]); k_is)
    have N_MOST_UNITS : Sd.Num mg "MOST_UNITS" (1000000000) := by refine' Sd.numat KX G ?a; (case a => (try dsimp only [L2.KOf]); k_is)
    have N_MOST_PERSONS : Sd.Num mg "MOST_PERSONS" (5000) := by refine' Sd.numat KX G ?a; (case a => (try dsimp only [L2.KOf]); k_is)
    have N_MOST_GOODS : Sd.Num mg "MOST_GOODS" (6) := by refine' Sd.numat KX G ?a; (case a => (try dsimp only [L2.KOf]); k_is)
    have N_MOST_PER : Sd.Num mg "MOST_PER" (1000) := by refine' Sd.numat KX G ?a; (case a => (try dsimp only [L2.KOf]); k_is)
    have N_MOST_LIFE : Sd.Num mg "MOST_LIFE" (100) := by refine' Sd.numat KX G ?a; (case a => (try dsimp only [L2.KOf]); k_is)
    have N_MOST_LOTS : Sd.Num mg "MOST_LOTS" (6) := by refine' Sd.numat KX G ?a; (case a => (try dsimp only [L2.KOf]); k_is)
    have N_MOST_DAYS : Sd.Num mg "MOST_DAYS" (60) := by refine' Sd.numat KX G ?a; (case a => (try dsimp only [L2.KOf]); k_is)
    have N_MOST_BACK : Sd.Num mg "MOST_BACK" (30) := by refine' Sd.numat KX G ?a; (case a => (try dsimp only [L2.KOf]); k_is)
    have N_NOT_THERE : Sd.Num mg "NOT_THERE" (-2) := by refine' Sd.numat KX G ?a; (case a => (try dsimp only [L2.KOf]); k_is)
    have N_NO_LOT : Sd.Num mg "NO_LOT" (-6) := by refine' Sd.numat KX G ?a; (case a => (try dsimp only [L2.KOf]); k_is)
    have N_LESS_THERE : Sd.Num mg "LESS_THERE" (-12) := by refine' Sd.numat KX G ?a; (case a => (try dsimp only [L2.KOf]); k_is)
    have N_NO_PORT : Sd.Num mg "NO_PORT" (-16) := by refine' Sd.numat KX G ?a; (case a => (try dsimp only [L2.KOf]); k_is)
    have N_ALREADY_SO : Sd.Num mg "ALREADY_SO" (-17) := by refine' Sd.numat KX G ?a; (case a => (try dsimp only [L2.KOf]); k_is)
    have N_NOT_AS_TOLD : Sd.Num mg "NOT_AS_TOLD" (-22) := by refine' Sd.numat KX G ?a; (case a => (try dsimp only [L2.KOf]); k_is)
    have N_TOO_MANY : Sd.Num mg "TOO_MANY" (-28) := by refine' Sd.numat KX G ?a; (case a => (try dsimp only [L2.KOf]); k_is)
    have N_NEVER : Sd.Num mg "NEVER" (-33) := by refine' Sd.numat KX G ?a; (case a => (try dsimp only [L2.KOf]); k_is)
    have N_NO_ROOM : Sd.Num mg "NO_ROOM" (-62) := by refine' Sd.numat KX G ?a; (case a => (try dsimp only [L2.KOf]); k_is)
    have N_TOO_LATE : Sd.Num mg "TOO_LATE" (-75) := by refine' Sd.numat KX G ?a; (case a => (try dsimp only [L2.KOf]); k_is)
    obtain ⟨C_Voyage, a_Voyage, I_Voyage, c_Voyage⟩ : ∃ C, PySem.W.nsIn (L2.KOf KX) mainGlobals "Voyage" = some (some (.ref C)) ∧ Sd.InitAt (L2.KOf KX) mg "Voyage" "Voyage.__init__" C Sd.st_Voyage_init ∧ L2.Cls (L2.KOf KX) C ∧ L2.NoAttr (L2.KOf KX) C "last" ∧ L2.NoAttr (L2.KOf KX) C "room" ∧ L2.NoAttr (L2.KOf KX) C "today" ∧ L2.NoAttr (L2.KOf KX) C "persons" ∧ L2.NoAttr (L2.KOf KX) C "ports" ∧ L2.NoAttr (L2.KOf KX) C "goods" := by
      refine' Sd.initatN KX G ?aC ?a ?i ?l ?c ?k ?mk ?kc ?pg ?hd ?po ?sa ?no
      (case aC => (try dsimp only [L2.KOf]); k_is); (case a => (try dsimp only [L2.KOf]); k_is); (case i => (try dsimp only [L2.KOf]); k_is); (case l => (try dsimp only [L2.KOf]); k_is); (case c => (try dsimp only [L2.KOf]); k_is); (case k => (try dsimp only [L2.KOf]); k_is); (case mk => (try dsimp only [L2.KOf]); k_is); (case kc => (try dsimp only [L2.KOf]); k_is); (case pg => (try dsimp only [L2.KOf]); k_is); (case hd => (try dsimp only [L2.KOf]); k_is); (case po => (try dsimp only [L2.KOf]); k_is); (case sa => (try dsimp only [L2.KOf]); k_is)
      (case no => exact ⟨(by unfold L2.NoAttr; try dsimp only [L2.KOf]; k_is), (by unfold L2.NoAttr; try dsimp only [L2.KOf]; k_is), (by unfold L2.NoAttr; try dsimp only [L2.KOf]; k_is), (by unfold L2.NoAttr; try dsimp only [L2.KOf]; k_is), (by unfold L2.NoAttr; try dsimp only [L2.KOf]; k_is), (by unfold L2.NoAttr; try dsimp only [L2.KOf]; k_is)⟩)
    obtain ⟨C_Ship, a_Ship, I_Ship, c_Ship⟩ : ∃ C, PySem.W.nsIn (L2.KOf KX) mainGlobals "Ship" = some (some (.ref C)) ∧ Sd.InitAt (L2.KOf KX) mg "Ship" "Ship.__init__" C Sd.st_Ship_init ∧ L2.Cls (L2.KOf KX) C ∧ L2.NoAttr (L2.KOf KX) C "voyage" ∧ L2.NoAttr (L2.KOf KX) C "past" ∧ L2.NoAttr (L2.KOf KX) C "undone" := by
      refine' Sd.initatN KX G ?aC ?a ?i ?l ?c ?k ?mk ?kc ?pg ?hd ?po ?sa ?no
      (case aC => (try dsimp only [L2.KOf]); k_is); (case a => (try dsimp only [L2.KOf]); k_is); (case i => (try dsimp only [L2.KOf]); k_is); (case l => (try dsimp only [L2.KOf]); k_is); (case c => (try dsimp only [L2.KOf]); k_is); (case k => (try dsimp only [L2.KOf]); k_is); (case mk => (try dsimp only [L2.KOf]); k_is); (case kc => (try dsimp only [L2.KOf]); k_is); (case pg => (try dsimp only [L2.KOf]); k_is); (case hd => (try dsimp only [L2.KOf]); k_is); (case po => (try dsimp only [L2.KOf]); k_is); (case sa => (try dsimp only [L2.KOf]); k_is)
      (case no => exact ⟨(by unfold L2.NoAttr; try dsimp only [L2.KOf]; k_is), (by unfold L2.NoAttr; try dsimp only [L2.KOf]; k_is), (by unfold L2.NoAttr; try dsimp only [L2.KOf]; k_is)⟩)
    have F_copy_of_voyage : Sd.FnAt (L2.KOf KX) mg "copy_of_voyage" Sd.st_copy_of_voyage := by
      refine' Sd.fnat KX G ?a ?l ?c ?k
      (case a => (try dsimp only [L2.KOf]); k_is); (case l => (try dsimp only [L2.KOf]); k_is); (case c => (try dsimp only [L2.KOf]); k_is); (case k => (try dsimp only [L2.KOf]); k_is)
    have F_begin_voyage : Sd.FnAt (L2.KOf KX) mg "begin_voyage" Sd.st_begin_voyage := by
      refine' Sd.fnat KX G ?a ?l ?c ?k
      (case a => (try dsimp only [L2.KOf]); k_is); (case l => (try dsimp only [L2.KOf]); k_is); (case c => (try dsimp only [L2.KOf]); k_is); (case k => (try dsimp only [L2.KOf]); k_is)
    have F_begin_change : Sd.FnAt (L2.KOf KX) mg "begin_change" Sd.st_begin_change := by
      refine' Sd.fnat KX G ?a ?l ?c ?k
      (case a => (try dsimp only [L2.KOf]); k_is); (case l => (try dsimp only [L2.KOf]); k_is); (case c => (try dsimp only [L2.KOf]); k_is); (case k => (try dsimp only [L2.KOf]); k_is)
    have F_take_back : Sd.FnAt (L2.KOf KX) mg "take_back" Sd.st_take_back := by
      refine' Sd.fnat KX G ?a ?l ?c ?k
      (case a => (try dsimp only [L2.KOf]); k_is); (case l => (try dsimp only [L2.KOf]); k_is); (case c => (try dsimp only [L2.KOf]); k_is); (case k => (try dsimp only [L2.KOf]); k_is)
    have F_do_again : Sd.FnAt (L2.KOf KX) mg "do_again" Sd.st_do_again := by
      refine' Sd.fnat KX G ?a ?l ?c ?k
      (case a => (try dsimp only [L2.KOf]); k_is); (case l => (try dsimp only [L2.KOf]); k_is); (case c => (try dsimp only [L2.KOf]); k_is); (case k => (try dsimp only [L2.KOf]); k_is)
    have F_has_good : Sd.FnAt (L2.KOf KX) mg "has_good" Sd.st_has_good := by
      refine' Sd.fnat KX G ?a ?l ?c ?k
      (case a => (try dsimp only [L2.KOf]); k_is); (case l => (try dsimp only [L2.KOf]); k_is); (case c => (try dsimp only [L2.KOf]); k_is); (case k => (try dsimp only [L2.KOf]); k_is)
    have F_port_sign : Sd.FnAt (L2.KOf KX) mg "port_sign" Sd.st_port_sign := by
      refine' Sd.fnat KX G ?a ?l ?c ?k
      (case a => (try dsimp only [L2.KOf]); k_is); (case l => (try dsimp only [L2.KOf]); k_is); (case c => (try dsimp only [L2.KOf]); k_is); (case k => (try dsimp only [L2.KOf]); k_is)
    have F_next_port : Sd.FnAt (L2.KOf KX) mg "next_port" Sd.st_next_port := by
      refine' Sd.fnat KX G ?a ?l ?c ?k
      (case a => (try dsimp only [L2.KOf]); k_is); (case l => (try dsimp only [L2.KOf]); k_is); (case c => (try dsimp only [L2.KOf]); k_is); (case k => (try dsimp only [L2.KOf]); k_is)
    have F_units_aboard : Sd.FnAt (L2.KOf KX) mg "units_aboard" Sd.st_units_aboard := by
      refine' Sd.fnat KX G ?a ?l ?c ?k
      (case a => (try dsimp only [L2.KOf]); k_is); (case l => (try dsimp only [L2.KOf]); k_is); (case c => (try dsimp only [L2.KOf]); k_is); (case k => (try dsimp only [L2.KOf]); k_is)
    have F_room_left : Sd.FnAt (L2.KOf KX) mg "room_left" Sd.st_room_left := by
      refine' Sd.fnat KX G ?a ?l ?c ?k
      (case a => (try dsimp only [L2.KOf]); k_is); (case l => (try dsimp only [L2.KOf]); k_is); (case c => (try dsimp only [L2.KOf]); k_is); (case k => (try dsimp only [L2.KOf]); k_is)
    have F_needs_by_day : Sd.FnAt (L2.KOf KX) mg "needs_by_day" Sd.st_needs_by_day := by
      refine' Sd.fnat KX G ?a ?l ?c ?k
      (case a => (try dsimp only [L2.KOf]); k_is); (case l => (try dsimp only [L2.KOf]); k_is); (case c => (try dsimp only [L2.KOf]); k_is); (case k => (try dsimp only [L2.KOf]); k_is)
    have F_lacks_up_to : Sd.FnAt (L2.KOf KX) mg "lacks_up_to" Sd.st_lacks_up_to := by
      refine' Sd.fnat KX G ?a ?l ?c ?k
      (case a => (try dsimp only [L2.KOf]); k_is); (case l => (try dsimp only [L2.KOf]); k_is); (case c => (try dsimp only [L2.KOf]); k_is); (case k => (try dsimp only [L2.KOf]); k_is)
    have F_bits_of : Sd.FnAt (L2.KOf KX) mg "bits_of" Sd.st_bits_of := by
      refine' Sd.fnat KX G ?a ?l ?c ?k
      (case a => (try dsimp only [L2.KOf]); k_is); (case l => (try dsimp only [L2.KOf]); k_is); (case c => (try dsimp only [L2.KOf]); k_is); (case k => (try dsimp only [L2.KOf]); k_is)
    have F_sd_start : Sd.FnAt (L2.KOf KX) mg "sd_start" Sd.st_sd_start := by
      refine' Sd.fnat KX G ?a ?l ?c ?k
      (case a => (try dsimp only [L2.KOf]); k_is); (case l => (try dsimp only [L2.KOf]); k_is); (case c => (try dsimp only [L2.KOf]); k_is); (case k => (try dsimp only [L2.KOf]); k_is)
    have F_sd_good : Sd.FnAt (L2.KOf KX) mg "sd_good" Sd.st_sd_good := by
      refine' Sd.fnat KX G ?a ?l ?c ?k
      (case a => (try dsimp only [L2.KOf]); k_is); (case l => (try dsimp only [L2.KOf]); k_is); (case c => (try dsimp only [L2.KOf]); k_is); (case k => (try dsimp only [L2.KOf]); k_is)
    have F_sd_persons : Sd.FnAt (L2.KOf KX) mg "sd_persons" Sd.st_sd_persons := by
      refine' Sd.fnat KX G ?a ?l ?c ?k
      (case a => (try dsimp only [L2.KOf]); k_is); (case l => (try dsimp only [L2.KOf]); k_is); (case c => (try dsimp only [L2.KOf]); k_is); (case k => (try dsimp only [L2.KOf]); k_is)
    have F_sd_port : Sd.FnAt (L2.KOf KX) mg "sd_port" Sd.st_sd_port := by
      refine' Sd.fnat KX G ?a ?l ?c ?k
      (case a => (try dsimp only [L2.KOf]); k_is); (case l => (try dsimp only [L2.KOf]); k_is); (case c => (try dsimp only [L2.KOf]); k_is); (case k => (try dsimp only [L2.KOf]); k_is)
    have F_sd_load : Sd.FnAt (L2.KOf KX) mg "sd_load" Sd.st_sd_load := by
      refine' Sd.fnat KX G ?a ?l ?c ?k
      (case a => (try dsimp only [L2.KOf]); k_is); (case l => (try dsimp only [L2.KOf]); k_is); (case c => (try dsimp only [L2.KOf]); k_is); (case k => (try dsimp only [L2.KOf]); k_is)
    have F_sd_give : Sd.FnAt (L2.KOf KX) mg "sd_give" Sd.st_sd_give := by
      refine' Sd.fnat KX G ?a ?l ?c ?k
      (case a => (try dsimp only [L2.KOf]); k_is); (case l => (try dsimp only [L2.KOf]); k_is); (case c => (try dsimp only [L2.KOf]); k_is); (case k => (try dsimp only [L2.KOf]); k_is)
    have F_sd_ration : Sd.FnAt (L2.KOf KX) mg "sd_ration" Sd.st_sd_ration := by
      refine' Sd.fnat KX G ?a ?l ?c ?k
      (case a => (try dsimp only [L2.KOf]); k_is); (case l => (try dsimp only [L2.KOf]); k_is); (case c => (try dsimp only [L2.KOf]); k_is); (case k => (try dsimp only [L2.KOf]); k_is)
    have F_sd_days : Sd.FnAt (L2.KOf KX) mg "sd_days" Sd.st_sd_days := by
      refine' Sd.fnat KX G ?a ?l ?c ?k
      (case a => (try dsimp only [L2.KOf]); k_is); (case l => (try dsimp only [L2.KOf]); k_is); (case c => (try dsimp only [L2.KOf]); k_is); (case k => (try dsimp only [L2.KOf]); k_is)
    have F_end_today : Sd.FnAt (L2.KOf KX) mg "end_today" Sd.st_end_today := by
      refine' Sd.fnat KX G ?a ?l ?c ?k
      (case a => (try dsimp only [L2.KOf]); k_is); (case l => (try dsimp only [L2.KOf]); k_is); (case c => (try dsimp only [L2.KOf]); k_is); (case k => (try dsimp only [L2.KOf]); k_is)
    have F_sd_back : Sd.FnAt (L2.KOf KX) mg "sd_back" Sd.st_sd_back := by
      refine' Sd.fnat KX G ?a ?l ?c ?k
      (case a => (try dsimp only [L2.KOf]); k_is); (case l => (try dsimp only [L2.KOf]); k_is); (case c => (try dsimp only [L2.KOf]); k_is); (case k => (try dsimp only [L2.KOf]); k_is)
    have F_sd_again : Sd.FnAt (L2.KOf KX) mg "sd_again" Sd.st_sd_again := by
      refine' Sd.fnat KX G ?a ?l ?c ?k
      (case a => (try dsimp only [L2.KOf]); k_is); (case l => (try dsimp only [L2.KOf]); k_is); (case c => (try dsimp only [L2.KOf]); k_is); (case k => (try dsimp only [L2.KOf]); k_is)
    have F_sd_state : Sd.FnAt (L2.KOf KX) mg "sd_state" Sd.st_sd_state := by
      refine' Sd.fnat KX G ?a ?l ?c ?k
      (case a => (try dsimp only [L2.KOf]); k_is); (case l => (try dsimp only [L2.KOf]); k_is); (case c => (try dsimp only [L2.KOf]); k_is); (case k => (try dsimp only [L2.KOf]); k_is)
    have F_sd_who : Sd.FnAt (L2.KOf KX) mg "sd_who" Sd.st_sd_who := by
      refine' Sd.fnat KX G ?a ?l ?c ?k
      (case a => (try dsimp only [L2.KOf]); k_is); (case l => (try dsimp only [L2.KOf]); k_is); (case c => (try dsimp only [L2.KOf]); k_is); (case k => (try dsimp only [L2.KOf]); k_is)
    have F_sd_next : Sd.FnAt (L2.KOf KX) mg "sd_next" Sd.st_sd_next := by
      refine' Sd.fnat KX G ?a ?l ?c ?k
      (case a => (try dsimp only [L2.KOf]); k_is); (case l => (try dsimp only [L2.KOf]); k_is); (case c => (try dsimp only [L2.KOf]); k_is); (case k => (try dsimp only [L2.KOf]); k_is)
    have F_sd_short : Sd.FnAt (L2.KOf KX) mg "sd_short" Sd.st_sd_short := by
      refine' Sd.fnat KX G ?a ?l ?c ?k
      (case a => (try dsimp only [L2.KOf]); k_is); (case l => (try dsimp only [L2.KOf]); k_is); (case c => (try dsimp only [L2.KOf]); k_is); (case k => (try dsimp only [L2.KOf]); k_is)
    have F_sd_room : Sd.FnAt (L2.KOf KX) mg "sd_room" Sd.st_sd_room := by
      refine' Sd.fnat KX G ?a ?l ?c ?k
      (case a => (try dsimp only [L2.KOf]); k_is); (case l => (try dsimp only [L2.KOf]); k_is); (case c => (try dsimp only [L2.KOf]); k_is); (case k => (try dsimp only [L2.KOf]); k_is)
    have F_sd_lasts : Sd.FnAt (L2.KOf KX) mg "sd_lasts" Sd.st_sd_lasts := by
      refine' Sd.fnat KX G ?a ?l ?c ?k
      (case a => (try dsimp only [L2.KOf]); k_is); (case l => (try dsimp only [L2.KOf]); k_is); (case c => (try dsimp only [L2.KOf]); k_is); (case k => (try dsimp only [L2.KOf]); k_is)
    have F_sd_least : Sd.FnAt (L2.KOf KX) mg "sd_least" Sd.st_sd_least := by
      refine' Sd.fnat KX G ?a ?l ?c ?k
      (case a => (try dsimp only [L2.KOf]); k_is); (case l => (try dsimp only [L2.KOf]); k_is); (case c => (try dsimp only [L2.KOf]); k_is); (case k => (try dsimp only [L2.KOf]); k_is)
    have F_sd_enough : Sd.FnAt (L2.KOf KX) mg "sd_enough" Sd.st_sd_enough := by
      refine' Sd.fnat KX G ?a ?l ?c ?k
      (case a => (try dsimp only [L2.KOf]); k_is); (case l => (try dsimp only [L2.KOf]); k_is); (case c => (try dsimp only [L2.KOf]); k_is); (case k => (try dsimp only [L2.KOf]); k_is)
    have F_sd_need : Sd.FnAt (L2.KOf KX) mg "sd_need" Sd.st_sd_need := by
      refine' Sd.fnat KX G ?a ?l ?c ?k
      (case a => (try dsimp only [L2.KOf]); k_is); (case l => (try dsimp only [L2.KOf]); k_is); (case c => (try dsimp only [L2.KOf]); k_is); (case k => (try dsimp only [L2.KOf]); k_is)
    have F_sd_spoils : Sd.FnAt (L2.KOf KX) mg "sd_spoils" Sd.st_sd_spoils := by
      refine' Sd.fnat KX G ?a ?l ?c ?k
      (case a => (try dsimp only [L2.KOf]); k_is); (case l => (try dsimp only [L2.KOf]); k_is); (case c => (try dsimp only [L2.KOf]); k_is); (case k => (try dsimp only [L2.KOf]); k_is)
    have F_sd_stock : Sd.FnAt (L2.KOf KX) mg "sd_stock" Sd.st_sd_stock := by
      refine' Sd.fnat KX G ?a ?l ?c ?k
      (case a => (try dsimp only [L2.KOf]); k_is); (case l => (try dsimp only [L2.KOf]); k_is); (case c => (try dsimp only [L2.KOf]); k_is); (case k => (try dsimp only [L2.KOf]); k_is)
    have F_sd_lot : Sd.FnAt (L2.KOf KX) mg "sd_lot" Sd.st_sd_lot := by
      refine' Sd.fnat KX G ?a ?l ?c ?k
      (case a => (try dsimp only [L2.KOf]); k_is); (case l => (try dsimp only [L2.KOf]); k_is); (case c => (try dsimp only [L2.KOf]); k_is); (case k => (try dsimp only [L2.KOf]); k_is)
    have F_sd_look : Sd.FnAt (L2.KOf KX) mg "sd_look" Sd.st_sd_look := by
      refine' Sd.fnat KX G ?a ?l ?c ?k
      (case a => (try dsimp only [L2.KOf]); k_is); (case l => (try dsimp only [L2.KOf]); k_is); (case c => (try dsimp only [L2.KOf]); k_is); (case k => (try dsimp only [L2.KOf]); k_is)
    have F_sd_sums : Sd.FnAt (L2.KOf KX) mg "sd_sums" Sd.st_sd_sums := by
      refine' Sd.fnat KX G ?a ?l ?c ?k
      (case a => (try dsimp only [L2.KOf]); k_is); (case l => (try dsimp only [L2.KOf]); k_is); (case c => (try dsimp only [L2.KOf]); k_is); (case k => (try dsimp only [L2.KOf]); k_is)
    have N_START : Sd.Num mg "START" (0) := by refine' Sd.numat KX G ?a; (case a => (try dsimp only [L2.KOf]); k_is)
    have N_GOOD : Sd.Num mg "GOOD" (1) := by refine' Sd.numat KX G ?a; (case a => (try dsimp only [L2.KOf]); k_is)
    have N_PERSONS : Sd.Num mg "PERSONS" (2) := by refine' Sd.numat KX G ?a; (case a => (try dsimp only [L2.KOf]); k_is)
    have N_PORT : Sd.Num mg "PORT" (3) := by refine' Sd.numat KX G ?a; (case a => (try dsimp only [L2.KOf]); k_is)
    have N_LOAD : Sd.Num mg "LOAD" (4) := by refine' Sd.numat KX G ?a; (case a => (try dsimp only [L2.KOf]); k_is)
    have N_GIVE : Sd.Num mg "GIVE" (5) := by refine' Sd.numat KX G ?a; (case a => (try dsimp only [L2.KOf]); k_is)
    have N_RATION : Sd.Num mg "RATION" (6) := by refine' Sd.numat KX G ?a; (case a => (try dsimp only [L2.KOf]); k_is)
    have N_DAYS : Sd.Num mg "DAYS" (7) := by refine' Sd.numat KX G ?a; (case a => (try dsimp only [L2.KOf]); k_is)
    have N_LASTS : Sd.Num mg "LASTS" (8) := by refine' Sd.numat KX G ?a; (case a => (try dsimp only [L2.KOf]); k_is)
    have N_LEAST : Sd.Num mg "LEAST" (9) := by refine' Sd.numat KX G ?a; (case a => (try dsimp only [L2.KOf]); k_is)
    have N_ENOUGH : Sd.Num mg "ENOUGH" (10) := by refine' Sd.numat KX G ?a; (case a => (try dsimp only [L2.KOf]); k_is)
    have N_NEED : Sd.Num mg "NEED" (11) := by refine' Sd.numat KX G ?a; (case a => (try dsimp only [L2.KOf]); k_is)
    have N_SPOILS : Sd.Num mg "SPOILS" (12) := by refine' Sd.numat KX G ?a; (case a => (try dsimp only [L2.KOf]); k_is)
    have N_STOCK : Sd.Num mg "STOCK" (13) := by refine' Sd.numat KX G ?a; (case a => (try dsimp only [L2.KOf]); k_is)
    have N_LOT : Sd.Num mg "LOT" (14) := by refine' Sd.numat KX G ?a; (case a => (try dsimp only [L2.KOf]); k_is)
    have N_LOOK : Sd.Num mg "LOOK" (15) := by refine' Sd.numat KX G ?a; (case a => (try dsimp only [L2.KOf]); k_is)
    have N_WHO : Sd.Num mg "WHO" (16) := by refine' Sd.numat KX G ?a; (case a => (try dsimp only [L2.KOf]); k_is)
    have N_NEXT : Sd.Num mg "NEXT" (17) := by refine' Sd.numat KX G ?a; (case a => (try dsimp only [L2.KOf]); k_is)
    have N_SHORT : Sd.Num mg "SHORT" (18) := by refine' Sd.numat KX G ?a; (case a => (try dsimp only [L2.KOf]); k_is)
    have N_ROOM : Sd.Num mg "ROOM" (19) := by refine' Sd.numat KX G ?a; (case a => (try dsimp only [L2.KOf]); k_is)
    have N_BACK : Sd.Num mg "BACK" (21) := by refine' Sd.numat KX G ?a; (case a => (try dsimp only [L2.KOf]); k_is)
    have N_AGAIN : Sd.Num mg "AGAIN" (22) := by refine' Sd.numat KX G ?a; (case a => (try dsimp only [L2.KOf]); k_is)
    have T_NUMBERS_BEHIND : Sd.Tup (L2.KOf KX) mg "NUMBERS_BEHIND" [3, 2, 2, 2, 2, 2, 2, 1, 1, 1, 2, 3, 1, 1, 2, 1, 1, 0, 0, 0, 1, 0, 0, 0] := by refine' Sd.tupat KX G ?a ?l ?v; (case a => (try dsimp only [L2.KOf]); k_is); (case l => (try dsimp only [L2.KOf]); k_is); (case v => (repeat (first | exact .nil | refine .cons ⟨_, rfl⟩ ?_)))
    have F_answers : Sd.FnAt (L2.KOf KX) mg "answers" Sd.st_answers := by
      refine' Sd.fnat KX G ?a ?l ?c ?k
      (case a => (try dsimp only [L2.KOf]); k_is); (case l => (try dsimp only [L2.KOf]); k_is); (case c => (try dsimp only [L2.KOf]); k_is); (case k => (try dsimp only [L2.KOf]); k_is)
    have F_answer_of_call : Sd.FnAt (L2.KOf KX) mg "answer_of_call" Sd.st_answer_of_call := by
      refine' Sd.fnat KX G ?a ?l ?c ?k
      (case a => (try dsimp only [L2.KOf]); k_is); (case l => (try dsimp only [L2.KOf]); k_is); (case c => (try dsimp only [L2.KOf]); k_is); (case k => (try dsimp only [L2.KOf]); k_is)
    have F_answer_of_change : Sd.FnAt (L2.KOf KX) mg "answer_of_change" Sd.st_answer_of_change := by
      refine' Sd.fnat KX G ?a ?l ?c ?k
      (case a => (try dsimp only [L2.KOf]); k_is); (case l => (try dsimp only [L2.KOf]); k_is); (case c => (try dsimp only [L2.KOf]); k_is); (case k => (try dsimp only [L2.KOf]); k_is)
    have F_answer_of_question : Sd.FnAt (L2.KOf KX) mg "answer_of_question" Sd.st_answer_of_question := by
      refine' Sd.fnat KX G ?a ?l ?c ?k
      (case a => (try dsimp only [L2.KOf]); k_is); (case l => (try dsimp only [L2.KOf]); k_is); (case c => (try dsimp only [L2.KOf]); k_is); (case k => (try dsimp only [L2.KOf]); k_is)
    have F_answer_of_look : Sd.FnAt (L2.KOf KX) mg "answer_of_look" Sd.st_answer_of_look := by
      refine' Sd.fnat KX G ?a ?l ?c ?k
      (case a => (try dsimp only [L2.KOf]); k_is); (case l => (try dsimp only [L2.KOf]); k_is); (case c => (try dsimp only [L2.KOf]); k_is); (case k => (try dsimp only [L2.KOf]); k_is)
    have F_answer_of_history : Sd.FnAt (L2.KOf KX) mg "answer_of_history" Sd.st_answer_of_history := by
      refine' Sd.fnat KX G ?a ?l ?c ?k
      (case a => (try dsimp only [L2.KOf]); k_is); (case l => (try dsimp only [L2.KOf]); k_is); (case c => (try dsimp only [L2.KOf]); k_is); (case k => (try dsimp only [L2.KOf]); k_is)
    have B : Sd.TxtB mg := ⟨mg_none_of KX G (by k_is), mg_none_of KX G (by k_is), mg_none_of KX G (by k_is), mg_none_of KX G (by k_is), mg_none_of KX G (by k_is), mg_none_of KX G (by k_is), mg_none_of KX G (by k_is), mg_none_of KX G (by k_is)⟩
    obtain ⟨d_Lot0, d_Lot1, d_Lot2⟩ := c_Lot
    obtain ⟨d_Good0, d_Good1, d_Good2, d_Good3, d_Good4, d_Good5, d_Good6, d_Good7, d_Good8⟩ := c_Good
    obtain ⟨d_Voyage0, d_Voyage1, d_Voyage2, d_Voyage3, d_Voyage4, d_Voyage5, d_Voyage6⟩ := c_Voyage
    obtain ⟨d_Ship0, d_Ship1, d_Ship2, d_Ship3⟩ := c_Ship
    have T : Sd.Txt (L2.KOf KX) mg ⟨C_Lot, C_Good, C_Voyage, C_Ship⟩ := ⟨⟨d_Lot0, d_Lot1, d_Lot2⟩, ⟨d_Good0, d_Good1, d_Good2, d_Good3, d_Good4, d_Good5, d_Good6, d_Good7, d_Good8⟩, ⟨d_Voyage0, d_Voyage1, d_Voyage2, d_Voyage3, d_Voyage4, d_Voyage5, d_Voyage6⟩, ⟨d_Ship0, d_Ship1, d_Ship2, d_Ship3⟩, B⟩
    have N : Sd.TxtN mg := { LATEST_LAST := N_LATEST_LAST, MOST_UNITS := N_MOST_UNITS, MOST_PERSONS := N_MOST_PERSONS, MOST_GOODS := N_MOST_GOODS, MOST_PER := N_MOST_PER, MOST_LIFE := N_MOST_LIFE, MOST_LOTS := N_MOST_LOTS, MOST_DAYS := N_MOST_DAYS, MOST_BACK := N_MOST_BACK, NOT_THERE := N_NOT_THERE, LESS_THERE := N_LESS_THERE, NO_PORT := N_NO_PORT, ALREADY_SO := N_ALREADY_SO, NOT_AS_TOLD := N_NOT_AS_TOLD, TOO_MANY := N_TOO_MANY, NEVER := N_NEVER, NO_ROOM := N_NO_ROOM, TOO_LATE := N_TOO_LATE, NO_LOT := N_NO_LOT, START := N_START, GOOD := N_GOOD, PERSONS := N_PERSONS, PORT := N_PORT, LOAD := N_LOAD, GIVE := N_GIVE, RATION := N_RATION, DAYS := N_DAYS, LASTS := N_LASTS, LEAST := N_LEAST, ENOUGH := N_ENOUGH, NEED := N_NEED, SPOILS := N_SPOILS, STOCK := N_STOCK, LOT := N_LOT, LOOK := N_LOOK, WHO := N_WHO, NEXT := N_NEXT, SHORT := N_SHORT, ROOM := N_ROOM, BACK := N_BACK, AGAIN := N_AGAIN }
    have I : Sd.Ins (L2.KOf KX) mg ⟨C_Lot, C_Good, C_Voyage, C_Ship⟩ := ⟨I_Lot, I_Good, I_Voyage, I_Ship⟩
    have Fs : Sd.Fns (L2.KOf KX) mg := { units_in := F_units_in, with_more := F_with_more, without := F_without, still_good := F_still_good, copy_of_good := F_copy_of_good, lots_if_loaded := F_lots_if_loaded, load := F_load, give := F_give, live_day := F_live_day, lacks_by_day := F_lacks_by_day, spoils_in_days := F_spoils_in_days, copy_of_voyage := F_copy_of_voyage, begin_voyage := F_begin_voyage, begin_change := F_begin_change, take_back := F_take_back, do_again := F_do_again, has_good := F_has_good, port_sign := F_port_sign, next_port := F_next_port, units_aboard := F_units_aboard, room_left := F_room_left, needs_by_day := F_needs_by_day, lacks_up_to := F_lacks_up_to, bits_of := F_bits_of, sd_start := F_sd_start, sd_good := F_sd_good, sd_persons := F_sd_persons, sd_port := F_sd_port, sd_load := F_sd_load, sd_give := F_sd_give, sd_ration := F_sd_ration, sd_days := F_sd_days, end_today := F_end_today, sd_back := F_sd_back, sd_again := F_sd_again, sd_state := F_sd_state, sd_who := F_sd_who, sd_next := F_sd_next, sd_short := F_sd_short, sd_room := F_sd_room, sd_lasts := F_sd_lasts, sd_least := F_sd_least, sd_enough := F_sd_enough, sd_need := F_sd_need, sd_spoils := F_sd_spoils, sd_stock := F_sd_stock, sd_lot := F_sd_lot, sd_look := F_sd_look, sd_sums := F_sd_sums, answers := F_answers, answer_of_call := F_answer_of_call, answer_of_change := F_answer_of_change, answer_of_question := F_answer_of_question, answer_of_look := F_answer_of_look, answer_of_history := F_answer_of_history }
    obtain ⟨fA, fdA, FA, mA⟩ := F_answers
    have e := hmg.symm.trans mA
    cases e
    exact ⟨fdA, Sd.binds_ans FA, fun base _ _ => Sd.all_ok T N I Fs FA T_NUMBERS_BEHIND⟩
  case S =>
    intro K H xs a hO hwi hask hx
    cases hx with
    | cons h1 h2 =>
      cases h2
      cases h1 with
      | lst hs ha =>
        have e := L2.ints_dw a.1 _ ha
        subst e
        have q : ((Codec.inLen 0 30000 a.1 && a.1.all (Codec.inInt 0 4294967295)) && true) = true := hwi
        rw [Bool.and_eq_true, Bool.and_eq_true] at q
        obtain ⟨cs, hcs⟩ := Sd.asked_of (l := a.1) hask
        exact ⟨_, a.1, cs, rfl, hs, fun x hx => Codec.inInt_iff.mp (List.all_eq_true.mp q.1.2 x hx), hcs, fun H' p hp => .lst (L2.SqL.of hp) (L2.dw_ints _)⟩
#print axioms PySem.Challenge.cw_shipstores_s01_answers_holds

