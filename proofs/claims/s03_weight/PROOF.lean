import PyProof.Rows.All
import Wide.All
import OpenK.AllK
import Wide.FinOn
import PyProof.EqAt
import PyProof.EqKinds
import PyProof.TupleCall
import KE.BitLaws
import Open.SpecLaws
import KE.OsHead
import KE.OsGo
import KE.KDictLaws
import PyProof.EnumMake
import PyProof.Rows.CallKwBuiltin
import PySem.Challenge.RW_stackeffects_s03_weight
set_option Elab.async false
set_option linter.all false
set_option maxRecDepth 100000
namespace L2
open PySem PySem.Spec PyProof.Rows
/-- a key: an int or a str -/
abbrev Key := Sum Int Str
def keyIs : Key → Value → Bool
  | .inl k, v => Value.isInt k v
  | .inr x, v => Value.isStrOf x v
def keyH (w : World) : Key → Int
  | .inl k => hashInt k
  | .inr x => hashStr w x
theorem keyIs_shape : ∀ {k : Key} {v : Value}, keyIs k v = true → (∃ i t, k = Sum.inl i ∧ v = Value.int i t) ∨ (∃ x t, k = Sum.inr x ∧ v = Value.str x t)
  | .inl i, v, h => by
    obtain ⟨t, e⟩ := Value.isInt_shape (k := i) (v := v) h
    exact .inl ⟨i, t, rfl, e⟩
  | .inr x, v, h => by
    obtain ⟨t, e⟩ := Value.isStrOf_shape (x := x) (v := v) h
    exact .inr ⟨x, t, rfl, e⟩
theorem key_ll (a b : Int) : decide ((Sum.inl a : Key) = Sum.inl b) = (a == b) := by
  by_cases e : a = b
  · subst e; simp
  · have h : ¬ (Sum.inl a : Key) = Sum.inl b := fun q => e (Sum.inl.inj q)
    rw [decide_eq_false h]
    exact (beq_eq_false_iff_ne.mpr e).symm
theorem key_rr (a b : Str) : decide ((Sum.inr a : Key) = Sum.inr b) = decide (a = b) := by
  by_cases e : a = b
  · subst e; simp
  · have h : ¬ (Sum.inr a : Key) = Sum.inr b := fun q => e (Sum.inr.inj q)
    rw [decide_eq_false h, decide_eq_false e]
theorem key_lr (a : Int) (b : Str) : decide ((Sum.inl a : Key) = Sum.inr b) = false := decide_eq_false (fun q => nomatch q)
theorem key_rl (a : Str) (b : Int) : decide ((Sum.inr a : Key) = Sum.inl b) = false := decide_eq_false (fun q => nomatch q)
def mixKind (prog : Program) (w : World) : PySem.KeyKind prog w Key where
  is := keyIs
  hash := keyH w
  inj := fun v a b ha hb => by
    rcases keyIs_shape ha with ⟨i, t, rfl, rfl⟩ | ⟨x, t, rfl, rfl⟩
    · rcases keyIs_shape hb with ⟨j, u, rfl, e⟩ | ⟨y, u, rfl, e⟩
      · injection e with e1 _; rw [e1]
      · exact nomatch e
    · rcases keyIs_shape hb with ⟨j, u, rfl, e⟩ | ⟨y, u, rfl, e⟩
      · exact nomatch e
      · injection e with e1 _; rw [e1]
  byValue := fun k v h => by
    rcases keyIs_shape h with ⟨i, t, rfl, rfl⟩ | ⟨x, t, rfl, rfl⟩ <;> rfl
  pyHash := fun hv h => by
    rcases keyIs_shape hv with ⟨i, t, rfl, rfl⟩ | ⟨x, t, rfl, rfl⟩
    · exact wpAny_pyHash_int h
    · exact wpAny_pyHash_str h
  eqBool := fun hu hv h => by
    rcases keyIs_shape hu with ⟨i, t, rfl, rfl⟩ | ⟨x, t, rfl, rfl⟩
    · rcases keyIs_shape hv with ⟨j, u, rfl, rfl⟩ | ⟨y, u, rfl, rfl⟩
      · rw [key_ll] at h; exact wpAny_eqBool_int h
      · rw [key_lr] at h; exact SeqAt.EqAt.int_str i t y u _ _ _ _ h
    · rcases keyIs_shape hv with ⟨j, u, rfl, rfl⟩ | ⟨y, u, rfl, rfl⟩
      · rw [key_rl] at h; exact SeqAt.EqAt.str_int x t j u _ _ _ _ h
      · rw [key_rr] at h; exact wpAny_eqBool_str h
  «strs» := fun k x t v h => by
    rcases keyIs_shape h with ⟨i, u, rfl, e⟩ | ⟨y, u, rfl, e⟩
    · exact nomatch e
    · injection e with e1 _
      subst e1
      cases v <;> rfl
end L2
namespace L2
open PySem PySem.Spec PyProof.Rows
/-- a value, without the heap -/
inductive V where
  | non | bl (b : Bool) | int (i : Int) | str (x : Str) | byt (b : Array UInt8) | flt (b : UInt64) | ref (a : Addr) | ty (n : String)
  deriving DecidableEq
def RelV : V → Value → Prop
  | .non, u => u = Value.none
  | .bl b, u => u = Value.bool b
  | .int i, u => ∃ t, u = Value.int i t
  | .str x, u => ∃ t, u = Value.str x t
  | .byt b, u => ∃ t, u = Value.bytes b t
  | .flt b, u => ∃ t, u = Value.float b t
  | .ref a, u => u = Value.ref a
  | .ty n, u => u = Value.type n
abbrev Vals : List V → List Value → Prop := Paired RelV
theorem Vals.length {xs : List V} {us : List Value} (r : Vals xs us) : xs.length = us.length := Paired.length r
theorem Vals.get : ∀ {xs : List V} {us : List Value} {i : Nat} {x : V}, Vals xs us → xs[i]? = some x → ∃ u, us[i]? = some u ∧ RelV x u
  | _, _, _, _, .nil, e => by simp at e
  | _, _, 0, _, .cons r _, e => by simp at e; subst e; exact ⟨_, rfl, r⟩
  | _, _, i + 1, x, .cons _ t, e => by
    obtain ⟨u, h1, h2⟩ := Vals.get (i := i) (x := x) t (by simpa using e)
    exact ⟨u, by simpa using h1, h2⟩
theorem Vals.append : ∀ {xs ys : List V} {us ws : List Value}, Vals xs us → Vals ys ws → Vals (xs ++ ys) (us ++ ws)
  | _, _, _, _, .nil, s => s
  | _, _, _, _, .cons r t, s => .cons r (Vals.append t s)
theorem Vals.take : ∀ {xs : List V} {us : List Value} (n : Nat), Vals xs us → Vals (xs.take n) (us.take n)
  | _, _, 0, _ => .nil
  | _, _, _ + 1, .nil => .nil
  | _, _, n + 1, .cons r t => .cons r (Vals.take n t)
theorem Vals.drop : ∀ {xs : List V} {us : List Value} (n : Nat), Vals xs us → Vals (xs.drop n) (us.drop n)
  | _, _, 0, r => r
  | _, _, _ + 1, .nil => .nil
  | _, _, n + 1, .cons _ t => Vals.drop n t
def RelO : Option V → Option Value → Prop
  | some v, some u => RelV v u
  | none, none => True
  | _, _ => False
def KV {κ : Type} : List (κ × V) → List (κ × Value) → Prop := Paired fun (p : κ × V) (q : κ × Value) => p.1 = q.1 ∧ RelV p.2 q.2
/-- a key of a dict (00_mix): an int or a text -/
def kV : Key → V
  | .inl i => .int i
  | .inr x => .str x
/-- what stands at a tracked address -/
inductive HO where
  /-- a list -/
  | lst (xs : List V)
  /-- a tuple (never changes) -/
  | tup (xs : List V)
  /-- a dict whose keys are ints and texts; one whose keys are tuples of ints and texts (the empty one is both) -/
  | dK (kvs : List (Key × V)) | dT (kvs : List (List Key × V))
  /-- a set of ints: its members, its size -/
  | set (S : Int → Bool) (n : Nat)
  /-- an instance of the class at C, its dict at dx, its attributes -/
  | ins (C dx : Addr) (fs : List (Str × V))
  /-- the dict of the instance at x -/
  | own (x : Addr)
  /-- the dict of an exception -/
  | xd (fs : List (Str × V))
  /-- a bound method, f of x -/
  | met (f x : Addr)
  /-- a range object lo, lo + 1, .. below hi -/
  | rng (lo hi : Int)
  /-- a thing that is known to the object (the script; a dict while a loop walks it): read, never written while it is so -/
  | frz (o : Obj) (u : HO)
  /-- a code object's table -/
  | tbl (ps : Array Value)
  /-- any other thing, by what is true of its one object (a def of one's own: SetO a S n := HO.ext fun h => ..) -/
  | ext (φ : Heap → Prop)
abbrev Hp := Addr → Option HO
def upd (H : Hp) (a : Addr) (o : HO) : Hp := fun b => if b = a then some o else H b
theorem upd_same {H : Hp} {a : Addr} {o : HO} : upd H a o a = some o := by unfold upd; rw [if_pos rfl]
theorem upd_ne {H : Hp} {a b : Addr} {o : HO} (h : b ≠ a) : upd H a o b = H b := by unfold upd; rw [if_neg h]
/-- two objects of different content stand apart -/
theorem ne_of {H : Hp} {a b : Addr} {o u : HO} (h : H a = some o) (h' : H b = some u) (d : o ≠ u) : a ≠ b := by
  intro e; subst e; rw [h] at h'; exact d (Option.some.inj h')
theorem ne_of_none {H : Hp} {a b : Addr} {o : HO} (h : H a = some o) (h' : H b = none) : a ≠ b := by
  intro e; subst e; rw [h] at h'; cases h'
section
variable (P : Program) (w : World)
def ObjOk (H : Hp) (h : Heap) (a : Addr) : HO → Prop
  | .lst xs => xs.length ≤ sizeLine ∧ ∃ (its : List Value) (n : Nat), Vals xs its ∧ h.get? a = some { cls := .type "list", data := .seq its.toArray n }
  | .tup xs => xs.length ≤ sizeLine ∧ ∃ its : List Value, Vals xs its ∧ IsTup h a its.toArray
  | .dK kvs => kvs.length ≤ sizeLine ∧ (a == sysModules) = false ∧ ∃ vs, KV kvs vs ∧ h.DictOf (mixKind P w) a vs
  | .dT kvs => kvs.length ≤ sizeLine ∧ (a == sysModules) = false ∧ ∃ xs : List (List Key × Addr × Value),
      Paired (fun (p : List Key × V) (q : List Key × Addr × Value) => p.1 = q.1 ∧ H q.2.1 = some (.tup (p.1.map kV)) ∧ RelV p.2 q.2.2) kvs xs ∧
      ∃ o es ep, h.get? a = some o ∧ o.ExactDict ∧ o.data = .dict es ep ∧ es.toList = xs.map (entryOfKey (tupleKind (mixKind P w))) ∧ (xs.map (·.1)).Nodup
  | .set S n => h.SetOf (intKind P w) a S n
  | .ins C dx fs => H dx = some (.own a) ∧ fs.length ≤ 1000 ∧ dx ≠ a ∧ h.get? a = some (PySem.W.instObj C dx) ∧
      ∃ mA, h.Ns1 dx mA ∧ (∀ f, RelO (fs.lookup f) (mA f)) ∧ PySem.Within mA (fs.map (·.1))
  | .own _ => ∃ o, h.get? a = some o
  | .xd fs => ∃ mA, h.Ns1 a mA ∧ ∀ f, RelO (fs.lookup f) (mA f)
  | .rng lo hi => ∃ t u v, h.get? a = some { cls := .type "range", data := .fields #[.int lo t, .int hi u, .int 1 v] }
  | .frz o u => h.get? a = some o ∧ ObjOk H h a u
  | .tbl ps => h.get? a = some { cls := .none, data := .fields ps }
  | .met f x => h.get? a = some (PySem.W.methodObj (.ref f) (.ref x))
  | .ext φ => φ h ∧ (∃ o, h.get? a = some o) ∧ ∀ h1 h2 : Heap, φ h1 → (∀ o, h1.get? a = some o → h2.get? a = some o) → φ h2
/-- the abstract heap is held -/
def HOk (H : Hp) (h : Heap) : Prop := ∀ a o, H a = some o → ObjOk P w H h a o
end
section
variable {P : Program} {w : World} {H H' : Hp} {h h' : Heap} {a : Addr} {o : HO}
theorem ObjOk.lt (x : ObjOk P w H h a o) : a < h.objs.size := by
  cases o with
  | lst xs => obtain ⟨_, _, _, _, e⟩ := x; exact Heap.lt_size e
  | tup xs => obtain ⟨_, _, _, p⟩ := x; exact p.lt
  | dK kvs => obtain ⟨_, _, _, _, o, _, _, e, _⟩ := x; exact Heap.lt_size e
  | dT kvs => obtain ⟨_, _, _, _, o, _, _, e, _⟩ := x; exact Heap.lt_size e
  | set S n => obtain ⟨o, _, _, _, e, _⟩ := x; exact Heap.lt_size e
  | ins C dx fs => obtain ⟨_, _, _, e, _⟩ := x; exact Heap.lt_size e
  | own y => obtain ⟨_, e⟩ := x; exact Heap.lt_size e
  | xd fs => obtain ⟨_, ⟨_, _, _, e, _⟩, _⟩ := x; exact Heap.lt_size e
  | rng lo hi => obtain ⟨_, _, _, e⟩ := x; exact Heap.lt_size e
  | frz ob u => obtain ⟨e, _⟩ := x; exact Heap.lt_size e
  | tbl ps => exact Heap.lt_size (show h.get? a = some _ from x)
  | met f y => exact Heap.lt_size (show h.get? a = some _ from x)
  | ext φ => obtain ⟨_, ⟨_, e⟩, _⟩ := x; exact Heap.lt_size e
theorem Paired.mapP {α β : Type} {F G : α → β → Prop} : ∀ {l₁ : List α} {l₂ : List β}, Paired F l₁ l₂ → (∀ a b, F a b → G a b) → Paired G l₁ l₂
  | _, _, .nil, _ => .nil
  | _, _, .cons r t, f => .cons (f _ _ r) (Paired.mapP t f)
/-- what an object's description leans on: its own object, its own dict, the tuples -/
theorem ObjOk.stay (x : ObjOk P w H h a o) (k : ∀ b u, (b = a ∨ H b = some (.own a)) → h.get? b = some u → h'.get? b = some u)
    (ho : ∀ b, H b = some (.own a) → H' b = some (.own a)) (ht : ∀ b xs, H b = some (.tup xs) → H' b = some (.tup xs)) : ObjOk P w H' h' a o := by
  induction o with
  | lst xs => obtain ⟨z, its, n, r, e⟩ := x; exact ⟨z, its, n, r, k _ _ (.inl rfl) e⟩
  | tup xs => obtain ⟨z, its, r, ob, e, c⟩ := x; exact ⟨z, its, r, ob, k _ _ (.inl rfl) e, c⟩
  | dK kvs => obtain ⟨z, y, vs, r, ob, es, ep, e, c⟩ := x; exact ⟨z, y, vs, r, ob, es, ep, k _ _ (.inl rfl) e, c⟩
  | dT kvs =>
    obtain ⟨z, y, xs, r, ob, es, ep, e, c⟩ := x
    exact ⟨z, y, xs, Paired.mapP r fun p q z => ⟨z.1, ht _ _ z.2.1, z.2.2⟩, ob, es, ep, k _ _ (.inl rfl) e, c⟩
  | set S n => obtain ⟨ob, es, ep, t, e, c⟩ := x; exact ⟨ob, es, ep, t, k _ _ (.inl rfl) e, c⟩
  | ins C dx fs =>
    obtain ⟨d, z, ne, e, mA, ⟨od, es, ep, e2, c⟩, r⟩ := x
    exact ⟨ho _ d, z, ne, k _ _ (.inl rfl) e, mA, ⟨od, es, ep, k _ _ (.inr d) e2, c⟩, r⟩
  | own y => obtain ⟨ob, e⟩ := x; exact ⟨ob, k _ _ (.inl rfl) e⟩
  | xd fs => obtain ⟨mA, ⟨od, es, ep, e, c⟩, r⟩ := x; exact ⟨mA, ⟨od, es, ep, k _ _ (.inl rfl) e, c⟩, r⟩
  | rng lo hi => obtain ⟨t, u, v, e⟩ := x; exact ⟨t, u, v, k _ _ (.inl rfl) e⟩
  | frz ob u ih => obtain ⟨e, q⟩ := x; exact ⟨k _ _ (.inl rfl) e, ih q⟩
  | tbl ps =>
    have e : h.get? a = some { cls := .none, data := .fields ps } := x
    show h'.get? a = some { cls := .none, data := .fields ps }
    exact k a _ (.inl rfl) e
  | met f y =>
    have e : h.get? a = some (PySem.W.methodObj (.ref f) (.ref y)) := x
    show h'.get? a = some (PySem.W.methodObj (.ref f) (.ref y))
    exact k a _ (.inl rfl) e
  | ext φ => obtain ⟨p, ⟨o, e⟩, st⟩ := x; exact ⟨st _ _ p fun o q => k _ _ (.inl rfl) q, ⟨o, k _ _ (.inl rfl) e⟩, st⟩
theorem HOk.lt (x : HOk P w H h) (e : H a = some o) : a < h.objs.size := (x a o e).lt
theorem HOk.fresh (x : HOk P w H h) (e : h.objs.size ≤ a) : H a = none := by
  cases q : H a with
  | none => rfl
  | some u => exact absurd (Nat.lt_of_lt_of_le (x.lt q) e) (Nat.lt_irrefl _)
/-- every object of the heap is kept -/
theorem HOk.kept (x : HOk P w H h) (k : ∀ b u, h.get? b = some u → h'.get? b = some u) : HOk P w H h' := fun a o e =>
  (x a o e).stay (fun b u _ q => k b u q) (fun _ q => q) fun _ _ q => q
/-- a new object is laid and tracked -/
theorem HOk.laid (x : HOk P w H h) (k : ∀ b u, h.get? b = some u → h'.get? b = some u) (hp : h.objs.size ≤ a) (new : ObjOk P w (upd H a o) h' a o) : HOk P w (upd H a o) h' := fun b u e => by
  have hn := x.fresh hp
  by_cases hb : b = a
  · subst hb; rw [upd_same] at e; cases e; exact new
  · rw [upd_ne hb] at e
    exact (x b u e).stay (fun c v _ q => k c v q) (fun c q => by rw [upd_ne (ne_of_none q hn)]; exact q) fun c xs q => by rw [upd_ne (ne_of_none q hn)]; exact q
end
/-- what may be read as u: it is u, or a known u -/
def Rd (H : Hp) (a : Addr) (u : HO) : Prop := H a = some u ∨ ∃ o, H a = some (.frz o u)
theorem Rd.ok {P : Program} {w : World} {H : Hp} {h : Heap} {a : Addr} {u : HO} (r : Rd H a u) (x : HOk P w H h) : ObjOk P w H h a u := by
  rcases r with r | ⟨o, r⟩
  · exact x a u r
  · obtain ⟨_, q⟩ := x a _ r
    exact q
/-- what may be written -/
def Mut : Option HO → Prop
  | some (.lst _) => True
  | some (.dK _) => True
  | some (.dT _) => True
  | some (.set _ _) => True
  | some (.ins _ _ _) => True
  | some (.ext _) => True
  | _ => False
section
variable {P : Program} {w : World} {H : Hp} {h h' : Heap} {x e : Addr} {o' : HO}
/-- the object at e is changed: x itself, or the dict of the instance x -/
theorem HOk.write (ok : HOk P w H h) (mu : Mut (H x)) (he : e = x ∨ H e = some (.own x)) (k : ∀ b u, b ≠ e → h.get? b = some u → h'.get? b = some u) (heo : ∃ u, h'.get? e = some u)
    (new : ObjOk P w (upd H x o') h' x o') : HOk P w (upd H x o') h' := fun b u q => by
  have nown : ∀ c y, H c = some (.own y) → c ≠ x := fun c y r z => by subst z; rw [r] at mu; exact mu
  have ntup : ∀ c xs, H c = some (.tup xs) → c ≠ x := fun c xs r z => by subst z; rw [r] at mu; exact mu
  by_cases hb : b = x
  · subst hb; rw [upd_same] at q; cases q; exact new
  · rw [upd_ne hb] at q
    by_cases hbe : b = e
    · have q' : H b = some (.own x) := by
        rcases he with z | z
        · exact absurd (hbe.trans z) hb
        · rw [hbe]; exact z
      rw [q] at q'; cases q'
      obtain ⟨v, hv⟩ := heo
      exact ⟨v, by rw [hbe]; exact hv⟩
    · refine (ok b u q).stay (fun c v hc r => k c v ?_ r) (fun c r => by rw [upd_ne (nown c b r)]; exact r) fun c xs r => by rw [upd_ne (ntup c xs r)]; exact r
      rcases hc with rfl | hc
      · exact hbe
      · rintro rfl
        rcases he with z | z
        · exact nown c b hc z
        · rw [hc] at z; cases z; exact hb rfl
end
structure Un (fs ex : List Addr) (H H' : Hp) (h h' : Heap) : Prop where
  keep : ∀ b o, h.get? b = some o → H b = none → b ∉ fs → b ∉ ex → h'.get? b = some o
  slot : ∀ b o, h.get? b = some o → H b = none → b ∈ fs → b ∉ ex → ∃ sl, h'.get? b = some { o with slots := sl }
  free : ∀ b o, h.get? b = some o → H b = none → b ∉ ex → H' b = none
  there : ∀ b o, h.get? b = some o → b ∉ ex → ∃ o', h'.get? b = some o'
  tups : ∀ b xs, H b = some (.tup xs) → H' b = some (.tup xs)
  frzs : ∀ b o u, H b = some (.frz o u) → H' b = some (.frz o u)
  tbls : ∀ b ps, H b = some (.tbl ps) → ∃ more, H' b = some (.tbl (ps ++ more))
section
variable {fs fs' ex ex' : List Addr} {H H1 H2 : Hp} {h h1 h2 h' : Heap} {a x e : Addr} {o : HO}
theorem Un.any (u : Un fs ex H H1 h h1) {b : Addr} {ob : Obj} (q : h.get? b = some ob) (n : H b = none) (hx : b ∉ ex) : ∃ sl, h1.get? b = some { ob with slots := sl } := by
  by_cases hb : b ∈ fs
  · exact u.slot b ob q n hb hx
  · exact ⟨ob.slots, u.keep b ob q n hb hx⟩
theorem Un.kept (k : ∀ b u, h.get? b = some u → h'.get? b = some u) : Un fs ex H H h h' :=
  ⟨fun b ob q _ _ _ => k b ob q, fun b ob q _ _ _ => ⟨ob.slots, k b ob q⟩, fun _ _ _ n _ => n, fun b ob q _ => ⟨ob, k b ob q⟩, fun _ _ q => q, fun _ _ _ q => q, fun _ ps q => ⟨#[], by rw [q]; simp⟩⟩
theorem Un.refl : Un fs ex H H h h := Un.kept fun _ _ q => q
theorem Un.laid (k : ∀ b u, h.get? b = some u → h'.get? b = some u) (hp : h.objs.size ≤ a) (hn : H a = none) : Un fs ex H (upd H a o) h h' where
  keep := fun b u q _ _ _ => k b u q
  slot := fun b u q _ _ _ => ⟨u.slots, k b u q⟩
  free := fun b u q n _ => by rw [upd_ne (Nat.ne_of_lt (Nat.lt_of_lt_of_le (Heap.lt_size q) hp))]; exact n
  there := fun b u q _ => ⟨u, k b u q⟩
  tups := fun b xs q => by rw [upd_ne (ne_of_none q hn)]; exact q
  frzs := fun b u xs q => by rw [upd_ne (ne_of_none q hn)]; exact q
  tbls := fun b ps q => ⟨#[], by rw [upd_ne (ne_of_none q hn), q]; simp⟩
theorem Un.write (mu : Mut (H x)) (he : e = x ∨ H e = some (.own x)) (k : ∀ b u, b ≠ e → h.get? b = some u → h'.get? b = some u) (heo : ∃ u, h'.get? e = some u) : Un fs ex H (upd H x o) h h' := by
  have hx : ∀ b, H b = none → b ≠ x := fun b n z => by subst z; rw [n] at mu; exact mu
  have hb : ∀ b, H b = none → b ≠ e := fun b n z => by
    subst z
    rcases he with r | r
    · exact hx b n r
    · rw [n] at r; cases r
  have hm : ∀ b u, H b = some u → ¬ Mut (some u) → b ≠ x := fun b u q nm z => by subst z; rw [q] at mu; exact nm mu
  refine ⟨fun b u q n _ _ => k b u (hb b n) q, fun b u q n _ _ => ⟨u.slots, k b u (hb b n) q⟩, fun b u q n _ => by rw [upd_ne (hx b n)]; exact n, fun b u q _ => ?_,
    fun b xs q => by rw [upd_ne (hm b _ q fun z => z)]; exact q, fun b u xs q => by rw [upd_ne (hm b _ q fun z => z)]; exact q, fun b ps q => ⟨#[], by rw [upd_ne (hm b _ q fun z => z), q]; simp⟩⟩
  by_cases hbe : b = e
  · subst hbe; exact heo
  · exact ⟨u, k b u hbe q⟩
end
def trk (h : Heap) (H : Hp) : List Addr := (List.range h.objs.size).filter fun a => (H a).isSome
def hidT (h : Heap) (H : Hp) : Heap := PySem.W.hideAll h (trk h H)
theorem hidT_size (h : Heap) (H : Hp) : (hidT h H).objs.size = h.objs.size := PySem.W.hideAll_size _ _
theorem hidT_get {h : Heap} {H : Hp} {b : Addr} {o : Obj} (e : h.get? b = some o) (n : H b = none) : (hidT h H).get? b = some o :=
  PySem.W.hideAll_get _ e fun hm => by
    have q : (H b).isSome = true := (List.mem_filter.mp hm).2
    rw [n] at q; simp at q
theorem of_hidT {h : Heap} {H : Hp} {b : Addr} {o : Obj} (e : (hidT h H).get? b = some o) : h.get? b = some o ∧ H b = none := by
  have e' : h.get? b = some o := PySem.W.of_hideAll (trk h H) e
  refine ⟨e', ?_⟩
  cases q : H b with
  | none => rfl
  | some x =>
    have hm : b ∈ trk h H := List.mem_filter.mpr ⟨List.mem_range.mpr (Heap.lt_size e'), by simp [q]⟩
    have z : (hidT h H).get? b = none := PySem.W.hideAll_none (trk h H) hm
    rw [z] at e; cases e
end L2
namespace L2
open PySem PySem.Spec PyProof.Rows
/-- the module's facts, over the base: the heap at the law's entry without what is tracked there -/
structure Mod (K : PySem.W.Frag) (mg : Str → Option Value) (base : Heap) : Prop where
  kin : K.In base
  glob : base.Ns mainGlobals mg
  blt : ∃ mb, base.Ns builtinsNs mb ∧ ∀ x : Str, x ≠ "__name__" → mb x = bootBuiltins x
  nolimit : base.NoLimit
/-- the context: a def's body (or a comprehension's block) running. base: fixed through the whole law; s₀, H₀: the entry; outer: the frames whose slots others may change (a def's callers); stack: all frames that run;
   ex: iterators that were made ahead of the entry and are walked here (a comprehension's); fn: the names whose cells were made at the entry (a def: all; a comprehension's block: its own); calm: not within an except suite; pn: pins that every state bears; xe: what is wanted of an exception that leaves the code -/
structure Cx where
  prog : Program
  w : World
  K : PySem.W.Frag
  mg : Str → Option Value
  base : Heap
  A : Around
  N : List Str
  s_0 : Shared
  H_0 : Hp
  env : Env
  outer : List Env
  stack : List Env
  ex : List Addr
  fn : Str → Bool
  calm : Bool
  pn : List (Addr × Obj)
  xe : Value → Shared → Prop
/-- the callers' frames -/
def frs (l : List Env) : List Addr := l.filterMap (·.frame)
abbrev Cx.fs (X : Cx) : List Addr := frs X.outer
def Vis (sc : Scope) (x : Str) : Prop := sc.names.lookup x = some .local ∨ sc.names.lookup x = some .cell ∨ sc.names.lookup x = some .free
def Loc (sc : Scope) (x : Str) : Prop := sc.names.lookup x = some .local ∨ sc.names.lookup x = some .cell
def Look (env : Env) (h : Heap) (m : Str → Option Value) (x : Str) (u : Value) : Prop :=
  (env.kindOf x = some .local ∧ m x = some u) ∨ ((env.kindOf x = some .cell ∨ env.kindOf x = some .free) ∧ ∃ c, env.cells.lookup x = some c ∧ h.IsCell c (some u))
structure Cx.Ok (X : Cx) : Prop where
  mod : Mod X.K X.mg X.base
  kind : X.env.scope.kind = .function
  glob : X.env.globals = mainGlobals
  blt : X.env.builtins = builtinsNs
  above : X.s_0.heap.objs.size ≤ X.env.locals
  inj : ∀ x y c, X.env.cells.lookup x = some c → X.env.cells.lookup y = some c → x = y
  has : ∀ x, (X.env.kindOf x = some .cell ∨ X.env.kindOf x = some .free) → ∃ c, X.env.cells.lookup x = some c
  cab : ∀ x c, X.fn x = true → X.env.cells.lookup x = some c → X.s_0.heap.objs.size ≤ c
  hd : X.calm = true → X.A.handled = none
  frames : X.A.frames = some X.stack
  stk : X.stack = X.outer ∨ (X.stack = X.env :: X.outer ∧ X.env.frame = some X.env.locals)
  exf : ∀ b ∈ X.ex, b ≠ X.env.locals ∧ ∀ x c, X.env.cells.lookup x = some c → c ≠ b
  bs : ∀ b o, X.base.get? b = some o → X.s_0.heap.get? b = some o ∧ X.H_0 b = none
  bsz : X.base.objs.size ≤ X.s_0.heap.objs.size
  noex : ∀ b o, X.base.get? b = some o → b ∉ X.ex
  exfs : ∀ b ∈ X.ex, b ∉ X.fs
  funs : X.s_0.heap.FunFrames X.base X.outer
  frf : ∀ b ∈ X.fs, X.H_0 b = none
structure Inv (X : Cx) (pins : List (Addr × Obj)) (σ : List (Option V)) (H : Hp) (s : Shared) : Prop where
  ok : X.Ok
  os : s.os = X.s_0.os
  bare : AllBare s.gens
  base : Un X.fs X.ex X.H_0 H X.s_0.heap s.heap
  loc : ∃ m, s.heap.Ns X.env.locals m ∧ ∀ (i : Nat) (x : Str) (v : V), X.N[i]? = some x → σ[i]? = some (some v) → Vis X.env.scope x → ∃ u, RelV v u ∧ Look X.env s.heap m x u
  cell : ∀ x c, X.env.cells.lookup x = some c → ∃ v, s.heap.IsCell c v
  free : H X.env.locals = none
  freeC : ∀ x c, X.env.cells.lookup x = some c → H c = none
  pin : ∀ p ∈ X.pn ++ pins, s.heap.get? p.1 = some p.2 ∧ H p.1 = none ∧ p.1 ≠ X.env.locals ∧ p.1 ∉ X.fs ∧ ∀ v, p.2.data ≠ .cell v
  hok : HOk X.prog X.w H s.heap
  len : σ.length = X.N.length
section
variable {X : Cx} {pins : List (Addr × Obj)} {σ : List (Option V)} {H H' : Hp} {s : Shared} {h' : Heap}
theorem Cx.Ok.nofr (ok : X.Ok) {b : Addr} {o : Obj} (e : X.base.get? b = some o) : b ∉ X.fs := fun hb => by
  have := (ok.funs.mem hb).1
  rw [e] at this; cases this
theorem Inv.bs (I : Inv X pins σ H s) : ∀ b o, X.base.get? b = some o → s.heap.get? b = some o ∧ H b = none := fun b o e =>
  ⟨I.base.keep b o (I.ok.bs b o e).1 (I.ok.bs b o e).2 (I.ok.nofr e) (I.ok.noex b o e), I.base.free b o (I.ok.bs b o e).1 (I.ok.bs b o e).2 (I.ok.noex b o e)⟩
theorem Inv.bk (I : Inv X pins σ H s) : ∀ b o, X.base.get? b = some o → s.heap.get? b = some o := fun b o e => (I.bs b o e).1
theorem Inv.mod (I : Inv X pins σ H s) : Mod X.K X.mg X.base := I.ok.mod
theorem Inv.kIn (I : Inv X pins σ H s) : X.K.In s.heap := I.ok.mod.kin.keeps I.bk
theorem Inv.lt (I : Inv X pins σ H s) : X.env.locals < s.heap.objs.size := let ⟨_, hn, _⟩ := I.loc; hn.lt
theorem Inv.sz (I : Inv X pins σ H s) : X.s_0.heap.objs.size ≤ s.heap.objs.size := Nat.le_trans I.ok.above (Nat.le_of_lt I.lt)
theorem Inv.nofs (I : Inv X pins σ H s) {a : Addr} (h : s.heap.objs.size ≤ a) : a ∉ X.fs := fun hb => by
  obtain ⟨_, o, ho, _⟩ := I.ok.funs.mem hb
  exact absurd (Nat.lt_of_lt_of_le (Heap.lt_size ho) (Nat.le_trans I.sz h)) (Nat.lt_irrefl _)
theorem Inv.cne (I : Inv X pins σ H s) : ∀ x c, X.env.cells.lookup x = some c → c ≠ X.env.locals := fun x c e z => by
  obtain ⟨v, o, ho, hd⟩ := I.cell x c e
  obtain ⟨m, ⟨o', es, ep, ho', hd', _⟩, _⟩ := I.loc
  rw [z, ho'] at ho; cases ho; rw [hd'] at hd; cases hd
theorem Inv.funs (I : Inv X pins σ H s) : s.heap.FunFrames X.base X.outer := by
  have all : ∀ (l : List Env), (∀ b ∈ frs l, b ∈ X.fs) → X.s_0.heap.FunFrames X.base l → s.heap.FunFrames X.base l := by
    intro l
    induction l with
    | nil => intro _ _; trivial
    | cons env r ih =>
      intro hs hl
      obtain ⟨hk, ⟨L, o, hf, hn, ho, hd⟩, hr⟩ := hl
      have hL : L ∈ X.fs := hs L (by unfold frs; rw [List.filterMap_cons, hf]; exact List.mem_cons_self)
      obtain ⟨sl, e⟩ := I.base.slot L o ho (I.ok.frf L hL) hL fun z => I.ok.exfs L z hL
      exact ⟨hk, ⟨L, _, hf, hn, e, hd⟩, ih (fun b hb => hs b (by unfold frs; rw [List.filterMap_cons, hf]; exact List.mem_cons_of_mem _ hb)) hr⟩
  exact all X.outer (fun _ hb => hb) I.ok.funs
/-- the frames that run, for a call -/
theorem Inv.stack (I : Inv X pins σ H s) : s.heap.FunFrames X.base X.stack := by
  rcases I.ok.stk with e | ⟨e, hf⟩
  · rw [e]; exact I.funs
  · rw [e]
    obtain ⟨m, hn, _⟩ := I.loc
    refine .cons (by rw [I.ok.kind]; decide) hf hn ?_ I.funs
    exact Heap.get?_none_of_le (Nat.le_trans I.ok.bsz I.ok.above)
theorem Inv.stkSub (I : Inv X pins σ H s) : ∀ b ∈ frs X.stack, b ∈ X.env.locals :: X.fs := fun b hb => by
  rcases I.ok.stk with e | ⟨e, hf⟩
  · rw [e] at hb; exact List.mem_cons_of_mem _ hb
  · rw [e] at hb
    unfold frs at hb
    rw [List.filterMap_cons, hf] at hb
    exact hb
theorem Inv.stkFree (I : Inv X pins σ H s) : ∀ b ∈ frs X.stack, H b = none := fun b hb => by
  rcases List.mem_cons.mp (I.stkSub b hb) with e | hb
  · rw [e]; exact I.free
  · obtain ⟨_, o, ho, _⟩ := I.ok.funs.mem hb
    exact I.base.free b o ho (I.ok.frf b hb) fun z => I.ok.exfs b z hb
/-- THE STEP: the untracked objects but the frame and the records at ch are kept (the callers' frames up to slots), the frame's map is kept, the new abstract heap is held -/
theorem Inv.step {g' : Array GenState} {t' : Nat} {d' : Drawn} {ch : List Addr} (I : Inv X pins σ H s)
    (hch : ∀ b ∈ ch, (b ∈ X.ex ∨ X.s_0.heap.objs.size ≤ b) ∧ b ≠ X.env.locals ∧ (∀ x c, X.env.cells.lookup x = some c → c ≠ b) ∧ ∀ p ∈ X.pn ++ pins, p.1 ≠ b)
    (keep : ∀ b o, b ≠ X.env.locals → b ∉ X.fs → b ∉ ch → s.heap.get? b = some o → H b = none → h'.get? b = some o)
    (slot : ∀ b o, b ≠ X.env.locals → b ∈ X.fs → b ∉ ch → s.heap.get? b = some o → H b = none → ∃ sl, h'.get? b = some { o with slots := sl }) (free : ∀ b o, b ∉ ch → s.heap.get? b = some o → H b = none → H' b = none)
    (there : ∀ b o, b ∉ ch → s.heap.get? b = some o → ∃ o', h'.get? b = some o')
    (tups : ∀ b xs, H b = some (.tup xs) → H' b = some (.tup xs)) (frzs : ∀ b o u, H b = some (.frz o u) → H' b = some (.frz o u)) (tbls : ∀ b ps, H b = some (.tbl ps) → ∃ more, H' b = some (.tbl (ps ++ more)))
    (ns : ∀ m, s.heap.Ns X.env.locals m → h'.Ns X.env.locals m) (hok : HOk X.prog X.w H' h') (hg : AllBare g') :
    Inv X pins σ H' { s with heap := h', gens := g', drawn := d', toks := t' } := by
  have neL : ∀ b o, X.s_0.heap.get? b = some o → b ≠ X.env.locals := fun b o e => Nat.ne_of_lt (Nat.lt_of_lt_of_le (Heap.lt_size e) I.ok.above)
  have neC : ∀ b o, X.s_0.heap.get? b = some o → b ∉ X.ex → b ∉ ch := fun b o e hx hb => by
    rcases (hch b hb).1 with z | z
    · exact hx z
    · exact absurd (Nat.lt_of_lt_of_le (Heap.lt_size e) z) (Nat.lt_irrefl _)
  have cellK : ∀ x c, X.env.cells.lookup x = some c → ∀ v, s.heap.IsCell c v → h'.IsCell c v := fun x c e v ⟨o, ho, hd⟩ => by
    have nch : c ∉ ch := fun z => (hch c z).2.2.1 x c e rfl
    by_cases hc : c ∈ X.fs
    · obtain ⟨sl, q⟩ := slot c o (I.cne x c e) hc nch ho (I.freeC x c e)
      exact ⟨_, q, hd⟩
    · exact ⟨o, keep c o (I.cne x c e) hc nch ho (I.freeC x c e), hd⟩
  refine ⟨I.ok, I.os, hg, ⟨fun b o e n hb hx => ?_, fun b o e n hb hx => ?_, fun b o e n hx => ?_, fun b o e hx => ?_, fun b xs e => tups b xs (I.base.tups b xs e), fun b o xs e => frzs b o xs (I.base.frzs b o xs e), fun b ps e => ?_⟩, ?_, fun x c e => ?_, ?_, fun x c e => ?_, fun p hp => ?_, hok, I.len⟩
  · exact keep b o (neL b o e) hb (neC b o e hx) (I.base.keep b o e n hb hx) (I.base.free b o e n hx)
  · obtain ⟨sl, e1⟩ := I.base.slot b o e n hb hx
    obtain ⟨sl', e2⟩ := slot b _ (neL b o e) hb (neC b o e hx) e1 (I.base.free b o e n hx)
    exact ⟨sl', e2⟩
  · obtain ⟨o', e1⟩ := I.base.there b o e hx
    exact free b o' (neC b o e hx) e1 (I.base.free b o e n hx)
  · obtain ⟨o', e1⟩ := I.base.there b o e hx
    exact there b o' (neC b o e hx) e1
  · obtain ⟨m1, e1⟩ := I.base.tbls b ps e
    obtain ⟨m2, e2⟩ := tbls b _ e1
    exact ⟨m1 ++ m2, by rw [e2, Array.append_assoc]⟩
  · obtain ⟨m, hn, hl⟩ := I.loc
    refine ⟨m, ns m hn, fun i x v e1 e2 e3 => ?_⟩
    obtain ⟨u, r, l⟩ := hl i x v e1 e2 e3
    refine ⟨u, r, ?_⟩
    rcases l with l | ⟨k, c, e, z⟩
    · exact .inl l
    · exact .inr ⟨k, c, e, cellK x c e _ z⟩
  · obtain ⟨v, z⟩ := I.cell x c e
    exact ⟨v, cellK x c e v z⟩
  · obtain ⟨m, ⟨o, _, _, ho, _⟩, _⟩ := I.loc
    exact free _ o (fun z => (hch _ z).2.1 rfl) ho I.free
  · obtain ⟨v, o, ho, hd⟩ := I.cell x c e
    exact free c o (fun z => (hch c z).2.2.1 x c e rfl) ho (I.freeC x c e)
  · obtain ⟨e, n, ne, nf, d⟩ := I.pin p hp
    have nch : p.1 ∉ ch := fun z => (hch p.1 z).2.2.2 p hp rfl
    exact ⟨keep p.1 p.2 ne nf nch e n, free p.1 p.2 nch e n, ne, nf, d⟩
/-- .. where the frame's own object is kept too -/
theorem Inv.un {t' : Nat} (I : Inv X pins σ H s) (u : Un X.fs [] H H' s.heap h') (hok : HOk X.prog X.w H' h') : Inv X pins σ H' { s with heap := h', toks := t' } := by
  obtain ⟨m, ⟨o, es, ep, ho, r⟩, _⟩ := id I.loc
  obtain ⟨sl, hL⟩ := u.any ho I.free (by simp)
  exact I.step (g' := s.gens) (d' := s.drawn) (ch := []) (fun _ z => nomatch z) (fun b o _ hb _ e n => u.keep b o e n hb (by simp)) (fun b o _ hb _ e n => u.slot b o e n hb (by simp)) (fun b o _ e n => u.free b o e n (by simp)) (fun b o _ e => u.there b o e (by simp)) u.tups u.frzs u.tbls (fun m' hm => by
    obtain ⟨o', es', ep', ho', r'⟩ := hm
    rw [ho] at ho'; cases ho'
    exact ⟨_, es', ep', hL, r'⟩) hok I.bare
/-- behind a call (or a comprehension's block): the slots of this frame may have changed too, the records at ch may have turned -/
theorem Inv.call {g' : Array GenState} {t' : Nat} {d' : Drawn} {ch : List Addr} (I : Inv X pins σ H s) (u : Un (frs X.stack) ch H H' s.heap h') (hok : HOk X.prog X.w H' h') (hg : AllBare g')
    (hch : ∀ b ∈ ch, (b ∈ X.ex ∨ X.s_0.heap.objs.size ≤ b) ∧ b ≠ X.env.locals ∧ (∀ x c, X.env.cells.lookup x = some c → c ≠ b) ∧ ∀ p ∈ X.pn ++ pins, p.1 ≠ b) :
    Inv X pins σ H' { s with heap := h', gens := g', drawn := d', toks := t' } := by
  obtain ⟨m, ⟨o, es, ep, ho, r⟩, _⟩ := id I.loc
  obtain ⟨sl, hL⟩ := u.any ho I.free fun z => (hch _ z).2.1 rfl
  exact I.step (ch := ch) hch (fun b o hL hb hc e n => u.keep b o e n (fun z => (List.mem_cons.mp (I.stkSub b z)).elim hL hb) hc) (fun b o _ _ hc e n => u.any e n hc) (fun b o hc e n => u.free b o e n hc) (fun b o hc e => u.there b o e hc) u.tups u.frzs u.tbls (fun m' hm => by
    obtain ⟨o', es', ep', ho', r'⟩ := hm
    rw [ho] at ho'; cases ho'
    exact ⟨_, es', ep', hL, r'⟩) hok hg
/-- an untracked record of ours (an iterator) has turned -/
theorem Inv.turned {t' : Nat} {it : Addr} (I : Inv X pins σ H s) (k : ∀ b o, b ≠ it → s.heap.get? b = some o → h'.get? b = some o) (hn : H it = none) (hL : it ≠ X.env.locals)
    (h1 : it ∈ X.ex ∨ X.s_0.heap.objs.size ≤ it) (h2 : ∀ x c, X.env.cells.lookup x = some c → c ≠ it) (h3 : ∀ p ∈ X.pn ++ pins, p.1 ≠ it) : Inv X pins σ H { s with heap := h', toks := t' } := by
  have nit : ∀ b u, H b = some u → b ≠ it := fun b u e z => by rw [z, hn] at e; cases e
  refine I.step (g' := s.gens) (d' := s.drawn) (ch := [it]) (fun b hb => ?_) (fun b o _ _ hc e _ => k b o (fun z => hc (by simp [z])) e) (fun b o _ _ hc e _ => ⟨o.slots, k b o (fun z => hc (by simp [z])) e⟩) (fun _ _ _ _ n => n)
    (fun b o hc e => ⟨o, k b o (fun z => hc (by simp [z])) e⟩) (fun _ _ e => e) (fun _ _ _ e => e) (fun b ps e => ⟨#[], by rw [e]; simp⟩) (fun m hm => ?_) (fun b u e => ?_) I.bare
  · have e : b = it := by simpa using hb
    subst e
    exact ⟨h1, hL, h2, h3⟩
  · obtain ⟨o, es, ep, ho, r⟩ := hm
    exact ⟨o, es, ep, k _ o (Ne.symm hL) ho, r⟩
  · refine (I.hok b u e).stay (fun c v hc q => k c v ?_ q) (fun _ q => q) fun _ _ q => q
    rcases hc with z | z
    · rw [z]; exact nit b u e
    · exact nit c _ z
theorem Inv.tok (I : Inv X pins σ H s) (t : Nat) : Inv X pins σ H { s with toks := t } := I.un (h' := s.heap) (t' := t) Un.refl I.hok
/-- all objects kept -/
theorem Inv.kept {t' : Nat} (I : Inv X pins σ H s) (k : ∀ b u, s.heap.get? b = some u → h'.get? b = some u) : Inv X pins σ H { s with heap := h', toks := t' } := I.un (Un.kept k) (I.hok.kept k)
/-- a new object laid and tracked -/
theorem Inv.laid {a : Addr} {o : HO} {t' : Nat} (I : Inv X pins σ H s) (k : ∀ b u, s.heap.get? b = some u → h'.get? b = some u) (hp : s.heap.objs.size ≤ a) (new : ObjOk X.prog X.w (upd H a o) h' a o) :
    Inv X pins σ (upd H a o) { s with heap := h', toks := t' } := I.un (Un.laid k hp (I.hok.fresh hp)) (I.hok.laid k hp new)
/-- an object written -/
theorem Inv.write {x e : Addr} {o : HO} {t' : Nat} (I : Inv X pins σ H s) (mu : Mut (H x)) (he : e = x ∨ H e = some (.own x)) (k : ∀ b u, b ≠ e → s.heap.get? b = some u → h'.get? b = some u) (heo : ∃ u, h'.get? e = some u)
    (new : ObjOk X.prog X.w (upd H x o) h' x o) : Inv X pins σ (upd H x o) { s with heap := h', toks := t' } := I.un (Un.write mu he k heo) (I.hok.write mu he k heo new)
/-- forgetting slots, pins -/
theorem Inv.weak {σ' : List (Option V)} (I : Inv X pins σ H s) (hl : σ'.length = σ.length) (w : ∀ (i : Nat) v, σ'[i]? = some (some v) → σ[i]? = some (some v)) : Inv X pins σ' H s :=
  ⟨I.ok, I.os, I.bare, I.base, let ⟨m, hn, hl'⟩ := I.loc; ⟨m, hn, fun i x v e1 e2 e3 => hl' i x v e1 (w i v e2) e3⟩, I.cell, I.free, I.freeC, I.pin, I.hok, hl.trans I.len⟩
theorem Inv.pins_of {pins' : List (Addr × Obj)} (I : Inv X pins σ H s) (h : ∀ p ∈ pins', s.heap.get? p.1 = some p.2 ∧ H p.1 = none ∧ p.1 ≠ X.env.locals ∧ p.1 ∉ X.fs ∧ ∀ v, p.2.data ≠ .cell v) : Inv X pins' σ H s :=
  ⟨I.ok, I.os, I.bare, I.base, I.loc, I.cell, I.free, I.freeC, fun p hp => (List.mem_append.mp hp).elim (fun z => I.pin p (List.mem_append_left _ z)) (h p), I.hok, I.len⟩
theorem nodup_ix {N : List Str} (hN : N.Nodup) {i j : Nat} {x : Str} (a : N[i]? = some x) (b : N[j]? = some x) : i = j := by
  obtain ⟨h1, e1⟩ := List.getElem?_eq_some_iff.mp a
  obtain ⟨h2, e2⟩ := List.getElem?_eq_some_iff.mp b
  exact (List.getElem_inj hN).mp (e1.trans e2.symm)
/-- a name is stored; what changed -/
theorem store_ok2 {M : Model} {A : Around} {E : Value → Shared → Prop} {i : Nat} {x : Str} {v : V} {u : Value} {Q : Unit → Shared → Prop} (I : Inv X pins σ H s) (hN : X.N.Nodup) (hi : X.N[i]? = some x) (hx : Loc X.env.scope x) (r : RelV v u)
    (h : ∀ s', Inv X pins (σ.set i (some v)) H s' → (∃ a, Heap.SameBut a s.heap s'.heap ∧ (a = X.env.locals ∨ X.env.cells.lookup x = some a)) → Q () s') (hf : X.fn x = true ∨ X.env.scope.names.lookup x = some .local := by first | exact .inl rfl | exact .inr rfl | assumption) : wpAny M A (storeName X.env x u) Q E s := by
  obtain ⟨m, hn, hl⟩ := id I.loc
  have hcls : (X.env.scope.kind == .class || (X.env.scope.kind == .module && X.env.locals != X.env.globals)) = false := by rw [I.ok.kind]; rfl
  have hiσ : i < σ.length := by rw [I.len]; exact (List.getElem?_eq_some_iff.mp hi).1
  have cne := I.cne
  have tracked : ∀ {a : Addr} {h' : Heap}, (∃ o, s.heap.get? a = some o ∧ H a = none) → Heap.SameBut a s.heap h' → HOk X.prog X.w H h' := fun {a h'} ha hs b ob e => by
    obtain ⟨_, _, hfree⟩ := ha
    refine (I.hok b ob e).stay (fun c w' hc q => (hs.2 c ?_).trans q) (fun _ q => q) fun _ _ q => q
    rintro rfl
    rcases hc with rfl | hc
    · rw [hfree] at e; cases e
    · rw [hfree] at hc; cases hc
  rcases hx with hk | hk
  · refine wpAny_storeName_local hk hn (fun h' hn' hs => ?_) hcls
    obtain ⟨oL, _, _, hoL, _⟩ := id hn
    refine h _ ⟨I.ok, I.os, I.bare, ⟨fun b o e n hb hx => ?_, fun b o e n hb hx => ?_, I.base.free, fun b o e hx => ?_, I.base.tups, I.base.frzs, I.base.tbls⟩, ⟨_, hn', fun j y v' e1 e2 e3 => ?_⟩, fun y c e => ?_, I.free, I.freeC, fun p hp => ?_, tracked ⟨oL, hoL, I.free⟩ hs, by simpa using I.len⟩ ⟨_, hs, .inl rfl⟩
    · exact (hs.2 b (Nat.ne_of_lt (Nat.lt_of_lt_of_le (Heap.lt_size e) I.ok.above))).trans (I.base.keep b o e n hb hx)
    · obtain ⟨sl, e1⟩ := I.base.slot b o e n hb hx
      exact ⟨sl, (hs.2 b (Nat.ne_of_lt (Nat.lt_of_lt_of_le (Heap.lt_size e) I.ok.above))).trans e1⟩
    · obtain ⟨o', e1⟩ := I.base.there b o e hx
      exact ⟨o', (hs.2 b (Nat.ne_of_lt (Nat.lt_of_lt_of_le (Heap.lt_size e) I.ok.above))).trans e1⟩
    · by_cases hj : j = i
      · subst hj
        rw [hi] at e1; cases e1
        rw [List.getElem?_set_self hiσ] at e2
        cases e2
        exact ⟨u, r, .inl ⟨hk, by simp⟩⟩
      · rw [List.getElem?_set_ne (Ne.symm hj)] at e2
        obtain ⟨u', r', q⟩ := hl j y v' e1 e2 e3
        refine ⟨u', r', ?_⟩
        rcases q with ⟨k, e⟩ | ⟨k, c, e, z⟩
        · refine .inl ⟨k, ?_⟩
          have : y ≠ x := fun e => hj (nodup_ix hN e1 (e ▸ hi))
          simp [this, e]
        · exact .inr ⟨k, c, e, z.sameBut hs (cne y c e)⟩
    · obtain ⟨w', z⟩ := I.cell y c e
      exact ⟨w', z.sameBut hs (cne y c e)⟩
    · obtain ⟨e, n, ne, nf, d⟩ := I.pin p hp
      exact ⟨(hs.2 p.1 ne).trans e, n, ne, nf, d⟩
  · have hfn : X.fn x = true := by
      rcases hf with z | z
      · exact z
      · rw [z] at hk; cases hk
    obtain ⟨c, hc⟩ := I.ok.has x (.inl hk)
    obtain ⟨w', z⟩ := I.cell x c hc
    refine wpAny_storeName_cell I.ok.kind hk hc z (fun h' hc' hs => ?_)
    obtain ⟨oc, hoc, hocd⟩ := id z
    refine h { s with heap := h' } ⟨I.ok, I.os, I.bare, ⟨fun b o e n hb hx => ?_, fun b o e n hb hx => ?_, I.base.free, fun b o e hx => ?_, I.base.tups, I.base.frzs, I.base.tbls⟩, ⟨m, hn.sameBut hs (Ne.symm (cne x c hc)), fun j y v' e1 e2 e3 => ?_⟩, fun y c' e => ?_, I.free, I.freeC, fun p hp => ?_, tracked ⟨oc, hoc, I.freeC x c hc⟩ hs, by simpa using I.len⟩ ⟨c, hs, .inr hc⟩
    · exact (hs.2 b (Nat.ne_of_lt (Nat.lt_of_lt_of_le (Heap.lt_size e) (I.ok.cab x c hfn hc)))).trans (I.base.keep b o e n hb hx)
    · obtain ⟨sl, e1⟩ := I.base.slot b o e n hb hx
      exact ⟨sl, (hs.2 b (Nat.ne_of_lt (Nat.lt_of_lt_of_le (Heap.lt_size e) (I.ok.cab x c hfn hc)))).trans e1⟩
    · obtain ⟨o', e1⟩ := I.base.there b o e hx
      exact ⟨o', (hs.2 b (Nat.ne_of_lt (Nat.lt_of_lt_of_le (Heap.lt_size e) (I.ok.cab x c hfn hc)))).trans e1⟩
    · by_cases hj : j = i
      · subst hj
        rw [hi] at e1; cases e1
        rw [List.getElem?_set_self hiσ] at e2
        cases e2
        exact ⟨u, r, .inr ⟨.inl hk, c, hc, hc'⟩⟩
      · rw [List.getElem?_set_ne (Ne.symm hj)] at e2
        obtain ⟨u', r', q⟩ := hl j y v' e1 e2 e3
        refine ⟨u', r', ?_⟩
        rcases q with q | ⟨k, c', e, z'⟩
        · exact .inl q
        · refine .inr ⟨k, c', e, z'.sameBut hs ?_⟩
          rintro rfl
          exact hj (nodup_ix hN e1 (I.ok.inj _ _ _ e hc ▸ hi))
    · by_cases hcc : c' = c
      · subst hcc; exact ⟨_, hc'⟩
      · obtain ⟨w2, z2⟩ := I.cell y c' e
        exact ⟨w2, z2.sameBut hs hcc⟩
    · obtain ⟨e, n, ne, nf, d⟩ := I.pin p hp
      refine ⟨(hs.2 p.1 ?_).trans e, n, ne, nf, d⟩
      intro q
      rw [q, hoc] at e
      have q' : oc = p.2 := Option.some.inj e
      exact d w' (by rw [← q']; exact hocd)
theorem store_ok {M : Model} {A : Around} {E : Value → Shared → Prop} {i : Nat} {x : Str} {v : V} {u : Value} {Q : Unit → Shared → Prop} (I : Inv X pins σ H s) (hN : X.N.Nodup) (hi : X.N[i]? = some x) (hx : Loc X.env.scope x) (r : RelV v u)
    (h : ∀ s', Inv X pins (σ.set i (some v)) H s' → Q () s') (hf : X.fn x = true ∨ X.env.scope.names.lookup x = some .local := by first | exact .inl rfl | exact .inr rfl | assumption) : wpAny M A (storeName X.env x u) Q E s :=
  store_ok2 I hN hi hx r (fun s' I' _ => h s' I') hf
/-- behind a call or a block, the state as it is -/
theorem Inv.call' {s' : Shared} {ch : List Addr} (I : Inv X pins σ H s) (ho : s'.os = s.os) (u : Un (frs X.stack) ch H H' s.heap s'.heap) (hok : HOk X.prog X.w H' s'.heap) (hg : AllBare s'.gens)
    (hch : ∀ b ∈ ch, (b ∈ X.ex ∨ X.s_0.heap.objs.size ≤ b) ∧ b ≠ X.env.locals ∧ (∀ x c, X.env.cells.lookup x = some c → c ≠ b) ∧ ∀ p ∈ X.pn ++ pins, p.1 ≠ b) : Inv X pins σ H' s' := by
  obtain ⟨h', g', d', t', o'⟩ := s'
  have e : o' = s.os := ho
  subst e
  exact I.call (g' := g') (t' := t') (d' := d') u hok hg hch
end
/-- an exception: its class, its own dict's address (where it has one), the abstract heap behind it -/
abbrev XK := Value → Option Addr → Hp → Prop
abbrev St := List (Option V)
abbrev VK := V → Hp → Prop
/-- an expression's reading; a test's; an argument list's -/
abbrev TE := St → Hp → VK → Prop
abbrev TT := St → Hp → (Bool → Hp → Prop) → Prop
abbrev TA := St → Hp → (List V → Hp → Prop) → Prop
/-- what is wanted behind a statement -/
structure Ends where
  nx : St → Hp → Prop
  rt : VK
  bk : St → Hp → Prop := fun _ _ => False
  ct : St → Hp → Prop := fun _ _ => False
abbrev TS := Ends → St → Hp → Prop
def EP (X : Cx) (pins : List (Addr × Obj)) (σ : St) (Q : VK) (u : Value) (s' : Shared) : Prop := ∃ v H', Inv X pins σ H' s' ∧ RelV v u ∧ Q v H'
def TP (X : Cx) (pins : List (Addr × Obj)) (σ : St) (Q : Bool → Hp → Prop) (b : Bool) (s' : Shared) : Prop := ∃ H', Inv X pins σ H' s' ∧ Q b H'
def AP (X : Cx) (pins : List (Addr × Obj)) (σ : St) (Q : List V → Hp → Prop) (us : List Value) (s' : Shared) : Prop := ∃ vs H', Inv X pins σ H' s' ∧ Vals vs us ∧ Q vs H'
def SP (X : Cx) (pins : List (Addr × Obj)) (D : Ends) (f : Flow) (s' : Shared) : Prop :=
  match f with
  | .next => ∃ σ' H', Inv X pins σ' H' s' ∧ D.nx σ' H'
  | .brk => ∃ σ' H', Inv X pins σ' H' s' ∧ D.bk σ' H'
  | .cont => ∃ σ' H', Inv X pins σ' H' s' ∧ D.ct σ' H'
  | .ret u => ∃ v σ' H', Inv X pins σ' H' s' ∧ RelV v u ∧ D.rt v H'
def PE (X : Cx) (e : Expr) (t : TE) : Prop :=
  ∀ (pins : List (Addr × Obj)) (s : Shared) (σ : St) (H : Hp) (Q : VK), Inv X pins σ H s → t σ H Q → wpAny (model X.prog X.w) X.A (eval e X.env) (EP X pins σ Q) X.xe s
def PT (X : Cx) (e : Expr) (t : TT) : Prop :=
  ∀ (pins : List (Addr × Obj)) (s : Shared) (σ : St) (H : Hp) (Q : Bool → Hp → Prop), Inv X pins σ H s → t σ H Q → wpAny (model X.prog X.w) X.A (isTrue e X.env (eval e X.env)) (TP X pins σ Q) X.xe s
/-- a test whatever its 'whole' is (and, or) -/
def PW (X : Cx) (e : Expr) (t : TT) : Prop :=
  ∀ (whole : Sem Value) (pins : List (Addr × Obj)) (s : Shared) (σ : St) (H : Hp) (Q : Bool → Hp → Prop), Inv X pins σ H s → t σ H Q → wpAny (model X.prog X.w) X.A (isTrue e X.env whole) (TP X pins σ Q) X.xe s
theorem PW.pt {X : Cx} {e : Expr} {t : TT} (h : PW X e t) : PT X e t := h _
/-- an argument list (no star), from the left -/
def PA (X : Cx) (es : List Expr) (t : TA) : Prop :=
  ∀ (pos : Pos) (pins : List (Addr × Obj)) (s : Shared) (σ : St) (H : Hp) (Q : List V → Hp → Prop), Inv X pins σ H s → t σ H Q → wpAny (model X.prog X.w) X.A (spliced (backTo pos (starEach es X.env))) (AP X pins σ Q) X.xe s
def PS (X : Cx) (st : Stmt) (t : TS) : Prop :=
  ∀ (pins : List (Addr × Obj)) (s : Shared) (σ : St) (H : Hp) (D : Ends), Inv X pins σ H s → t D σ H → wpAny (model X.prog X.w) X.A (exec st X.env) (SP X pins D) X.xe s
def PSs (X : Cx) (st : List Stmt) (t : TS) : Prop :=
  ∀ (pins : List (Addr × Obj)) (s : Shared) (σ : St) (H : Hp) (D : Ends), Inv X pins σ H s → t D σ H → wpAny (model X.prog X.w) X.A (execs st X.env) (SP X pins D) X.xe s
/-- weaken the end -/
theorem thn {α : Type} {t : Sem α} {Q Q' : α → Shared → Prop} {M : Model} {A : Around} {E : Value → Shared → Prop} {s : Shared} (h : wpAny M A t Q E s) (hQ : ∀ a s, Q a s → Q' a s) : wpAny M A t Q' E s := wpAny_mono h hQ fun _ _ x => x
end L2
namespace L2
open PySem PySem.Spec PyProof.Rows
section
variable {X : Cx}
def tVar (i : Nat) : TE := fun σ H Q => ∃ v, σ[i]? = some (some v) ∧ Q v H
def tC (v : V) : TE := fun _ H Q => Q v H
theorem pe_var {i : Nat} {x : Str} {pos : Pos} (hN : X.N[i]? = some x) (hv : Vis X.env.scope x) (hd : (x == ("__debug__" : Str)) = false := by decide) (hcd : (x == ("__classdict__" : Str)) = false := by decide) : PE X (.Name x pos) (tVar i) := by
  intro pins s σ H Q I h
  obtain ⟨v, e, h⟩ := h
  obtain ⟨m, hn, hl⟩ := I.loc
  obtain ⟨u, r, l⟩ := hl i x v hN e hv
  have fin : EP X pins σ Q u s := ⟨v, H, I, r, h⟩
  rcases l with ⟨hk, hm⟩ | ⟨hk, c, hc, hcell⟩
  · exact wpAny_Name (wpAny_loadName_local I.ok.kind hk hn hm fin) hd
  · rcases hk with hk | hk
    · exact wpAny_Name (wpAny_loadName_cell I.ok.kind hk hc hcell fin) hd
    · exact wpAny_Name (wpAny_loadName_free I.ok.kind hk hc hcell fin hcd) hd
theorem pe_int {i j pos} : PE X (.Constant (.int i) j pos) (tC (.int i)) := fun _ _ _ H _ I h => wpAny_Constant_int ⟨.int i, H, I.tok _, ⟨_, rfl⟩, h⟩
theorem pe_bl {b j pos} : PE X (.Constant (.bool b) j pos) (tC (.bl b)) := fun _ _ _ H _ I h => Constant_bool ⟨.bl b, H, I, rfl, h⟩
theorem pe_non {j pos} : PE X (.Constant .none j pos) (tC .non) := fun _ _ _ H _ I h => Constant_none ⟨.non, H, I, rfl, h⟩
theorem pe_str {x j pos} : PE X (.Constant (.str x) j pos) (tC (.str x)) := fun _ _ _ H _ I h => Calls.Constant_str ⟨.str x, H, I.tok _, ⟨_, rfl⟩, h⟩
/-- a global name of the def -/
def Gl (X : Cx) (x : Str) : Prop := X.env.kindOf x = some .globalImplicit
theorem ld_glob {E : Value → Shared → Prop} {pins : List (Addr × Obj)} {s : Shared} {σ : St} {H : Hp} {x : Str} {u : Value} {pos : Pos} {Q : Value → Shared → Prop} (I : Inv X pins σ H s) (hg : Gl X x) (hm : X.mg x = some u) (h : Q u s)
    (hd : (x == ("__debug__" : Str)) = false := by decide) : wpAny (model X.prog X.w) X.A (eval (.Name x pos) X.env) Q E s :=
  Calls.Name_function_global I.ok.kind hg (Calls.loadGlobal_global (by rw [I.ok.glob]; exact I.mod.glob.keeps I.bk) hm h) hd
theorem ld_blt {E : Value → Shared → Prop} {pins : List (Addr × Obj)} {s : Shared} {σ : St} {H : Hp} {x : Str} {u : Value} {pos : Pos} {Q : Value → Shared → Prop} (I : Inv X pins σ H s) (hg : Gl X x) (hm : X.mg x = none) (hv : bootBuiltins x = some u) (h : Q u s)
    (hn : x ≠ "__name__" := by decide) (hd : (x == ("__debug__" : Str)) = false := by decide) : wpAny (model X.prog X.w) X.A (eval (.Name x pos) X.env) Q E s := by
  obtain ⟨mb, h1, h2⟩ := I.mod.blt
  exact Calls.Name_function_global I.ok.kind hg (Calls.loadGlobal_builtin (by rw [I.ok.glob]; exact I.mod.glob.keeps I.bk) hm (by rw [I.ok.blt]; exact h1.keeps I.bk) ((h2 x hn).trans hv) h) hd
/-- a module's constant, a class, a function, as a value -/
theorem pe_glob {x : Str} {v : V} {u : Value} {pos : Pos} (hg : Gl X x) (hm : X.mg x = some u) (r : RelV v u) (hd : (x == ("__debug__" : Str)) = false := by decide) : PE X (.Name x pos) (tC v) :=
  fun _ _ _ H _ I h => ld_glob I hg hm ⟨v, H, I, r, h⟩ hd
variable {a b : Expr} {ta tb : TE} {pos : Pos}
def PC (X : Cx) (op : CmpOp) (a b : Expr) (t : TE) : Prop :=
  ∀ (pins : List (Addr × Obj)) (s : Shared) (σ : St) (H : Hp) (Q : VK), Inv X pins σ H s → t σ H Q →
    wpAny (model X.prog X.w) X.A (eval a X.env) (fun v s₁ => wpAny (model X.prog X.w) X.A (eval b X.env) (fun u s₂ => wpAny (model X.prog X.w) X.A (compareOp op v u) (EP X pins σ Q) X.xe s₂) X.xe s₁) X.xe s
theorem nobehind (b : Expr) {op : CmpOp} (h : op ≠ .In) (h2 : op ≠ .NotIn) : behindInMarks op b = false := by
  have e1 : (op == CmpOp.In) = false := by cases op <;> first | rfl | exact absurd rfl h
  have e2 : (op == CmpOp.NotIn) = false := by cases op <;> first | rfl | exact absurd rfl h2
  cases b <;> simp [behindInMarks, e1, e2]
/-- is None -/
def tIsN (ta : TE) : TE := fun σ H Q => ta σ H fun x H1 => Q (.bl (decide (x = .non))) H1
def tNotN (ta : TE) : TE := fun σ H Q => ta σ H fun x H1 => Q (.bl (!decide (x = .non))) H1
theorem RelV.none_iff {x : V} {v : Value} (r : RelV x v) : (v == Value.none) = decide (x = .non) := by
  cases x with
  | non => cases r; rfl
  | bl _ => cases r; rfl
  | int _ => obtain ⟨t, rfl⟩ := r; rfl
  | str _ => obtain ⟨t, rfl⟩ := r; rfl
  | byt _ => obtain ⟨t, rfl⟩ := r; rfl
  | flt _ => obtain ⟨t, rfl⟩ := r; rfl
  | ref _ => cases r; rfl
  | ty _ => cases r; rfl
theorem pc_isN {j pos'} (ha : PE X a ta) : PC X .Is a (.Constant .none j pos') (tIsN ta) := by
  intro pins s σ H Q I h
  refine thn (ha pins s σ H _ I h) fun v s1 ⟨x, H1, I1, r1, q1⟩ => ?_
  exact Constant_none (is_none_gen ⟨.bl _, H1, I1, by rw [r1.none_iff]; rfl, q1⟩)
theorem pc_notN {j pos'} (ha : PE X a ta) : PC X .IsNot a (.Constant .none j pos') (tNotN ta) := by
  intro pins s σ H Q I h
  refine thn (ha pins s σ H _ I h) fun v s1 ⟨x, H1, I1, r1, q1⟩ => ?_
  exact Constant_none (isnot_none_gen ⟨.bl _, H1, I1, by rw [r1.none_iff]; rfl, q1⟩)
/-- a comparison as a value, as a test -/
def tB (t : TE) : TT := fun σ H Q => t σ H fun x H1 => ∃ c, x = .bl c ∧ Q c H1
theorem pt_cmp {op : CmpOp} {t : TE} (h : PC X op a b t) (h1 : behindInMarks op b = false := by first | exact nobehind _ (by decide) (by decide) | rfl) : PT X (.Compare a [op] [b] pos) (tB t) := by
  intro pins s σ H Q I hw
  refine wpAny_isTrue_Compare1 (thn (h pins s σ H _ I hw) fun v s1 h1 => thn h1 fun u s2 h2 => thn h2 fun c s3 ⟨x, H1, I1, r1, q1⟩ => ?_) h1
  obtain ⟨d, rfl, q⟩ := q1
  cases r1
  exact wpAny_truthy_bool ⟨H1, I1, q⟩
/-- an expression whose value is a bool, as a test -/
theorem pt_val {e : Expr} {t : TE} (h : PE X e t) (he : ∀ whole, isTrue e X.env whole = (do let v ← whole; standAt e.pos; holding [v] (truthy v)) := by intro _; rfl) : PT X e (tB t) := by
  intro pins s σ H Q I hw
  refine isTrue_plain (thn (h pins s σ H _ I hw) fun v s1 ⟨x, H1, I1, r1, q1⟩ => ?_) (he _)
  obtain ⟨d, rfl, q⟩ := q1
  cases r1
  exact wpAny_truthy_bool ⟨H1, I1, q⟩
variable {tA tB' : TT} {rest : List Expr}
def tAnd (t u : TT) : TT := fun σ H Q => t σ H fun c H1 => if c = true then u σ H1 Q else Q false H1
def tOr (t u : TT) : TT := fun σ H Q => t σ H fun c H1 => if c = true then Q true H1 else u σ H1 Q
def tNot (t : TT) : TT := fun σ H Q => t σ H fun c H1 => Q (!c) H1
theorem pw_and1 (ha : PT X a tA) : PW X (.BoolOp .And [a] pos) tA := by
  intro wh pins s σ H Q I h
  refine isTrue_and (thn (ha pins s σ H Q I h) fun c s1 e => ?_)
  cases c with
  | true => exact isTrue_and_nil e
  | false => exact e
theorem pw_or1 (ha : PT X a tA) : PW X (.BoolOp .Or [a] pos) tA := by
  intro wh pins s σ H Q I h
  refine isTrue_or (thn (ha pins s σ H Q I h) fun c s1 e => ?_)
  cases c with
  | false => exact isTrue_or_nil e
  | true => exact e
theorem pw_and (ha : PT X a tA) (hb : PW X (.BoolOp .And (b :: rest) pos) tB') : PW X (.BoolOp .And (a :: b :: rest) pos) (tAnd tA tB') := by
  intro wh pins s σ H Q I h
  refine isTrue_and (thn (ha pins s σ H _ I h) fun c s1 ⟨H1, I1, q1⟩ => ?_)
  cases c with
  | true => exact hb wh pins s1 σ H1 Q I1 q1
  | false => exact ⟨H1, I1, q1⟩
theorem pw_or (ha : PT X a tA) (hb : PW X (.BoolOp .Or (b :: rest) pos) tB') : PW X (.BoolOp .Or (a :: b :: rest) pos) (tOr tA tB') := by
  intro wh pins s σ H Q I h
  refine isTrue_or (thn (ha pins s σ H _ I h) fun c s1 ⟨H1, I1, q1⟩ => ?_)
  cases c with
  | true => exact ⟨H1, I1, q1⟩
  | false => exact hb wh pins s1 σ H1 Q I1 q1
theorem pt_not (ha : PT X a tA) : PT X (.UnaryOp .Not a pos) (tNot tA) := by
  intro pins s σ H Q I h
  exact isTrue_not (ha pins s σ H (fun c H1 => Q (!c) H1) I h)
def tOrV (ta tb : TE) : TE := fun σ H Q => ta σ H fun x H1 => ∃ c, x = .bl c ∧ if c = true then Q (.bl true) H1 else tb σ H1 Q
theorem pe_one {op} {t : TE} (h : PE X a t) : PE X (.BoolOp op [a] pos) t := fun pins s σ H Q I hw => BoolOp_one (h pins s σ H Q I hw)
theorem pe_or (ha : PE X a ta) (hb : PE X (.BoolOp .Or (b :: rest) pos) tb) : PE X (.BoolOp .Or (a :: b :: rest) pos) (tOrV ta tb) := by
  intro pins s σ H Q I h
  refine BoolOp_or (thn (ha pins s σ H _ I h) fun v s1 ⟨x, H1, I1, r1, q1⟩ => ?_)
  obtain ⟨c, rfl, q1⟩ := q1
  cases r1
  refine wpAny_truthy_bool ?_
  cases c with
  | false => exact hb pins s1 σ H1 Q I1 q1
  | true => exact ⟨.bl true, H1, I1, rfl, q1⟩
/-- a if t else b -/
def tIf (t : TT) (ta tb : TE) : TE := fun σ H Q => t σ H fun c H1 => if c = true then ta σ H1 Q else tb σ H1 Q
theorem pe_ifExp {c : Expr} (hc : PT X c tA) (ha : PE X a ta) (hb : PE X b tb) : PE X (.IfExp c a b pos) (tIf tA ta tb) := by
  intro pins s σ H Q I h
  refine wpAny_IfExp (thn (hc pins s σ H _ I h) fun d s1 ⟨H1, I1, q1⟩ => ?_)
  cases d with
  | true => exact ha pins s1 σ H1 Q I1 q1
  | false => exact hb pins s1 σ H1 Q I1 q1
end
end L2
namespace L2
open PySem PySem.Spec PyProof.Rows
def SqL (K : PySem.W.Frag) (H : Hp) (a : Addr) (xs : List V) : Prop :=
  Rd H a (.lst xs) ∨
    ∃ (o : Obj) (its : Array Value) (n : Nat), K.lookup a = some o ∧ o.cls = .type "list" ∧ o.dict = none ∧ o.data = .seq its n ∧ its.size ≤ sizeLine ∧ Vals xs its.toList
def SqT (K : PySem.W.Frag) (H : Hp) (a : Addr) (xs : List V) : Prop :=
  Rd H a (.tup xs) ∨
    ∃ (o : Obj) (its : Array Value) (n : Nat), K.lookup a = some o ∧ o.cls = .type "tuple" ∧ o.data = .seq its n ∧ its.size ≤ sizeLine ∧ Vals xs its.toList
def absV : Value → Option V
  | .none => some .non
  | .bool b => some (.bl b)
  | .int i _ => some (.int i)
  | .str x _ => some (.str x)
  | .bytes b _ => some (.byt b)
  | .float b _ => some (.flt b)
  | .ref a => some (.ref a)
  | .type n => some (.ty n)
  | _ => none
theorem RelV.abs {x : V} {u : Value} (r : RelV x u) : absV u = some x := by
  cases x with
  | non => cases r; rfl
  | bl _ => cases r; rfl
  | int _ => obtain ⟨t, rfl⟩ := r; rfl
  | str _ => obtain ⟨t, rfl⟩ := r; rfl
  | byt _ => obtain ⟨t, rfl⟩ := r; rfl
  | flt _ => obtain ⟨t, rfl⟩ := r; rfl
  | ref _ => cases r; rfl
  | ty _ => cases r; rfl
theorem RelV.inj {x y : V} {u : Value} (r : RelV x u) (q : RelV y u) : x = y := Option.some.inj (r.abs.symm.trans q.abs)
theorem Vals.inj : ∀ {xs ys : List V} {us : List Value}, Vals xs us → Vals ys us → xs = ys
  | _, _, _, .nil, .nil => rfl
  | _, _, _, .cons r t, .cons r' t' => by rw [r.inj r', Vals.inj t t']
section
variable {X : Cx} {pins : List (Addr × Obj)} {σ : St} {H : Hp} {s : Shared} {a : Addr} {xs ys : List V}
theorem SqL.of {K : PySem.W.Frag} (h : H a = some (.lst xs)) : SqL K H a xs := .inl (.inl h)
theorem SqT.of {K : PySem.W.Frag} (h : H a = some (.tup xs)) : SqT K H a xs := .inl (.inl h)
theorem Inv.list (I : Inv X pins σ H s) (h : SqL X.K H a xs) : ∃ its : List Value, Vals xs its ∧ PlainL s.heap a its.toArray ∧ xs.length ≤ sizeLine := by
  rcases h with h | ⟨o, its, n, hk, hc, hd, hs, hz, r⟩
  · obtain ⟨z, its, n, r, e⟩ := h.ok I.hok
    exact ⟨its, r, ⟨_, n, e, rfl, rfl, rfl⟩, z⟩
  · refine ⟨its.toList, r, ⟨o, n, I.kIn a o hk, hc, hd, by simpa using hs⟩, ?_⟩
    have e := r.length
    simp only [Array.length_toList] at e
    omega
theorem Inv.tuple (I : Inv X pins σ H s) (h : SqT X.K H a xs) : ∃ its : List Value, Vals xs its ∧ IsTup s.heap a its.toArray ∧ xs.length ≤ sizeLine := by
  rcases h with h | ⟨o, its, n, hk, hc, hs, hz, r⟩
  · obtain ⟨z, its, r, p⟩ := h.ok I.hok
    exact ⟨its, r, p, z⟩
  · refine ⟨its.toList, r, ⟨o, I.kIn a o hk, hc, n, by simpa using hs⟩, ?_⟩
    have e := r.length
    simp only [Array.length_toList] at e
    omega
theorem Inv.list_inj (I : Inv X pins σ H s) (h : SqL X.K H a xs) (h' : SqL X.K H a ys) : xs = ys := by
  obtain ⟨its, r, ⟨o, n, e, _, _, d⟩, _⟩ := I.list h
  obtain ⟨its', r', ⟨o', n', e', _, _, d'⟩, _⟩ := I.list h'
  rw [e] at e'; cases e'
  rw [d] at d'
  injection d' with d1 _
  have : its = its' := by simpa using congrArg Array.toList d1
  subst this
  exact r.inj r'
theorem Inv.tuple_inj (I : Inv X pins σ H s) (h : SqT X.K H a xs) (h' : SqT X.K H a ys) : xs = ys := by
  obtain ⟨its, r, ⟨o, e, _, n, d⟩, _⟩ := I.tuple h
  obtain ⟨its', r', ⟨o', e', _, n', d'⟩, _⟩ := I.tuple h'
  rw [e] at e'; cases e'
  rw [d] at d'
  injection d' with d1 _
  have : its = its' := by simpa using congrArg Array.toList d1
  subst this
  exact r.inj r'
end
abbrev Cx.wish (X : Cx) (E : Value → Shared → Prop) : Cx := { X with xe := E }
/-- no exception leaves -/
abbrev Cx.nox (X : Cx) : Cx := X.wish fun _ _ => False
theorem Cx.Ok.wish {X : Cx} (ok : X.Ok) (E : Value → Shared → Prop) : (X.wish E).Ok :=
  ⟨ok.mod, ok.kind, ok.glob, ok.blt, ok.above, ok.inj, ok.has, ok.cab, ok.hd, ok.frames, ok.stk, ok.exf, ok.bs, ok.bsz, ok.noex, ok.exfs, ok.funs, ok.frf⟩
theorem Cx.Ok.unwish {X : Cx} {E : Value → Shared → Prop} (ok : (X.wish E).Ok) : X.Ok :=
  ⟨ok.mod, ok.kind, ok.glob, ok.blt, ok.above, ok.inj, ok.has, ok.cab, ok.hd, ok.frames, ok.stk, ok.exf, ok.bs, ok.bsz, ok.noex, ok.exfs, ok.funs, ok.frf⟩
section
variable {X : Cx} {pins : List (Addr × Obj)} {σ : St} {H : Hp} {s : Shared} {E : Value → Shared → Prop}
theorem Inv.wish (I : Inv X pins σ H s) (E : Value → Shared → Prop) : Inv (X.wish E) pins σ H s := ⟨I.ok.wish E, I.os, I.bare, I.base, I.loc, I.cell, I.free, I.freeC, I.pin, I.hok, I.len⟩
theorem Inv.unwish (I : Inv (X.wish E) pins σ H s) : Inv X pins σ H s := ⟨I.ok.unwish, I.os, I.bare, I.base, I.loc, I.cell, I.free, I.freeC, I.pin, I.hok, I.len⟩
theorem SP.unwish {D : Ends} {f : Flow} {s' : Shared} (h : SP (X.wish E) pins D f s') : SP X pins D f s' := by
  cases f with
  | next => obtain ⟨σ', H', I, q⟩ := h; exact ⟨σ', H', I.unwish, q⟩
  | brk => obtain ⟨σ', H', I, q⟩ := h; exact ⟨σ', H', I.unwish, q⟩
  | cont => obtain ⟨σ', H', I, q⟩ := h; exact ⟨σ', H', I.unwish, q⟩
  | ret u => obtain ⟨v, σ', H', I, r, q⟩ := h; exact ⟨v, σ', H', I.unwish, r, q⟩
theorem PSs.nox {st : List Stmt} {t : TS} (h : PSs X.nox st t) : PSs X st t := fun pins s σ H D I hw =>
  wpAny_mono (h pins s σ H D (I.wish _) hw) (fun _ _ q => q.unwish) fun _ _ z => False.elim z
end
section
variable {X : Cx} {st : Stmt} {rest : List Stmt} {t u : TS} {e : Expr} {te : TE} {pos : Pos}
def tNext : TS := fun D σ H => D.nx σ H
def tSeq (t u : TS) : TS := fun D σ H => t { D with nx := u D } σ H
theorem pss_nil : PSs X [] tNext := fun _ _ σ H _ I h => wpAny_execs_nil ⟨σ, H, I, h⟩
theorem pss_cons (h1 : PS X st t) (h2 : PSs X rest u) : PSs X (st :: rest) (tSeq t u) := by
  intro pins s σ H D I h
  refine wpAny_execs_cons (thn (h1 pins s σ H { D with nx := u D } I h) fun f s1 q => ?_)
  cases f with
  | next =>
    obtain ⟨σ', H', I', q⟩ := q
    exact h2 pins s1 σ' H' D I' q
  | ret v => exact q
  | brk => exact q
  | cont => exact q
theorem pss_one (h1 : PS X st t) : PSs X [st] t := by
  intro pins s σ H D I h
  refine wpAny_execs_cons (thn (h1 pins s σ H D I h) fun f s1 q => ?_)
  cases f with
  | next => exact wpAny_execs_nil q
  | ret v => exact q
  | brk => exact q
  | cont => exact q
/-- in a def's body nothing is shown -/
theorem Inv.quiet {pins : List (Addr × Obj)} {σ : St} {H : Hp} {s : Shared} (I : Inv X pins σ H s) : interactive X.env = false := by simp [interactive, I.ok.kind]
/-- an expression whose value is dropped -/
def tDrop (te : TE) : TS := fun D σ H => te σ H fun _ H1 => D.nx σ H1
theorem ps_expr (he : PE X e te) (hs : swapsWith e none pos.line X.env = pure false := by rfl) : PS X (.Expr e pos) (tDrop te) := by
  intro pins s σ H D I h
  exact wpAny_Expr_any (thn (he pins s σ H _ I h) fun v s1 ⟨x, H1, I1, r1, q1⟩ => ⟨σ, H1, I1, q1⟩) I.quiet hs
def tRet (te : TE) : TS := fun D σ H => te σ H D.rt
theorem ps_ret (he : PE X e te) : PS X (.Return (some e) pos) (tRet te) := by
  intro pins s σ H D I h
  exact wpAny_Return_some (thn (he pins s σ H _ I h) fun v s1 ⟨x, H1, I1, r1, q1⟩ => ⟨x, σ, H1, I1, r1, q1⟩)
def tIfS (c : TT) (t u : TS) : TS := fun D σ H => c σ H fun b H1 => if b = true then t D σ H1 else u D σ H1
theorem ps_if {c : Expr} {a b : List Stmt} {tc : TT} (hc : PT X c tc) (ha : PSs X a t) (hb : PSs X b u) : PS X (.If c a b pos) (tIfS tc t u) := by
  intro pins s σ H D I h
  refine wpAny_If (thn (hc pins s σ H _ I h) fun d s1 ⟨H1, I1, q1⟩ => ?_)
  cases d with
  | true => exact ha pins s1 σ H1 D I1 q1
  | false => exact hb pins s1 σ H1 D I1 q1
end
abbrev TG := V → St → Hp → (St → Hp → Prop) → Prop
abbrev TGs := List V → St → Hp → (St → Hp → Prop) → Prop
def PG (X : Cx) (target : Expr) (t : TG) : Prop :=
  ∀ (pins : List (Addr × Obj)) (s : Shared) (σ : St) (H : Hp) (v : V) (u : Value) (Q : St → Hp → Prop), Inv X pins σ H s → RelV v u → t v σ H Q →
    wpAny (model X.prog X.w) X.A (assign target X.env u) (fun _ s' => ∃ σ' H', Inv X pins σ' H' s' ∧ Q σ' H') X.xe s
/-- several targets, one after another -/
def PGs (X : Cx) (ts : List Expr) (t : TGs) : Prop :=
  ∀ (pins : List (Addr × Obj)) (s : Shared) (σ : St) (H : Hp) (vs : List V) (us : List Value) (Q : St → Hp → Prop), Inv X pins σ H s → Vals vs us → t vs σ H Q →
    wpAny (model X.prog X.w) X.A (assignInOrder ((assignEach ts X.env).map (·.2)) us) (fun _ s' => ∃ σ' H', Inv X pins σ' H' s' ∧ Q σ' H') X.xe s
/-- a op= b, by values -/
abbrev TIp := V → V → Hp → VK → Prop
def PIp (X : Cx) (op : Operator) (t : TIp) : Prop :=
  ∀ (pins : List (Addr × Obj)) (s : Shared) (σ : St) (H : Hp) (x y : V) (v u : Value) (Q : VK), Inv X pins σ H s → RelV x v → RelV y u → t x y H Q →
    wpAny (model X.prog X.w) X.A (inplaceOp op v u) (EP X pins σ Q) X.xe s
section
variable {X : Cx} {pos : Pos}
def gName (i : Nat) : TG := fun v σ H Q => Q (σ.set i (some v)) H
theorem pg_name {i : Nat} {x : Str} (hN : X.N.Nodup) (hi : X.N[i]? = some x) (hx : Loc X.env.scope x) (hf : X.fn x = true ∨ X.env.scope.names.lookup x = some .local := by first | exact .inl rfl | exact .inr rfl | assumption) : PG X (.Name x pos) (gName i) := by
  intro pins s σ H v u Q I r h
  exact wpAny_assign_Name (store_ok I hN hi hx r (fun s' I' => ⟨_, H, I', h⟩) hf)
def gNil : TGs := fun vs σ H Q => vs = [] ∧ Q σ H
def gCons (t : TG) (u : TGs) : TGs := fun vs σ H Q => ∃ v r, vs = v :: r ∧ t v σ H fun σ' H' => u r σ' H' Q
theorem pgs_nil : PGs X [] gNil := by
  intro pins s σ H vs us Q I r h
  obtain ⟨e, h⟩ := h
  subst e
  cases r
  exact assignInOrder_nil ⟨σ, H, I, h⟩
theorem pgs_cons {e : Expr} {es : List Expr} {t : TG} {u : TGs} (h1 : PG X e t) (h2 : PGs X es u)
    (hs : (assignEach (e :: es) X.env).map (·.2) = assign e X.env :: (assignEach es X.env).map (·.2) := by rfl) : PGs X (e :: es) (gCons t u) := by
  intro pins s σ H vs us Q I r h
  obtain ⟨v, vr, e1, h⟩ := h
  subst e1
  cases r with
  | cons r rr =>
    rw [hs]
    refine assignInOrder_cons (thn (h1 pins s σ H _ _ _ I r h) fun _ s1 ⟨σ1, H1, I1, q1⟩ => ?_)
    exact h2 pins s1 σ1 H1 _ _ Q I1 rr q1
/-- (a, b, ..) = a tuple of that length -/
def gTup (K : PySem.W.Frag) (n : Nat) (t : TGs) : TG := fun v σ H Q => ∃ a xs, v = .ref a ∧ SqT K H a xs ∧ xs.length = n ∧ t xs σ H Q
theorem pg_tup {es : List Expr} {k : Nat} {t : TGs} {n : Nat} (hc : X.calm = true) (h : PGs X es t)
    (hn : (assignEach es X.env).length = n := by rfl) (hst : (assignEach es X.env).findIdx? (·.1) = none := by rfl) : PG X (.Tuple es k pos) (gTup X.K n t) := by
  intro pins s σ H v u Q I r hw
  obtain ⟨a, xs, e1, hq, hl, hw⟩ := hw
  subst e1
  cases r
  obtain ⟨its, rv, ht, hz⟩ := I.tuple hq
  refine assign_Tuple_tuple (I.ok.hd hc) ht (by simp [hn, ← hl, rv.length]) hst fun h' hx => ?_
  have I1 : Inv X pins σ H { s with heap := h' } := I.kept (t' := s.toks) fun b o e => hx b o (Nat.ne_of_lt (Heap.lt_size e)) e
  exact h pins _ σ H xs _ Q I1 (by simpa using rv) hw
/-- target = value -/
def tAsg (te : TE) (g : TG) : TS := fun D σ H => te σ H fun x H1 => g x σ H1 D.nx
/-- name = value -/
theorem ps_set {i : Nat} {x : Str} {e : Expr} {te : TE} {pos' : Pos} (hN : X.N.Nodup) (hi : X.N[i]? = some x) (hx : Loc X.env.scope x) (he : PE X e te) (hs : swapsWith e (some (.Name x pos')) pos.line X.env = pure false := by rfl) (hf : X.fn x = true ∨ X.env.scope.names.lookup x = some .local := by first | exact .inl rfl | exact .inr rfl | assumption) :
    PS X (.Assign [.Name x pos'] e pos) (tAsg te (gName i)) := by
  intro pins s σ H D I h
  refine wpAny_Assign_Name (thn (he pins s σ H _ I h) fun v s1 ⟨y, H1, I1, r1, q1⟩ => ?_) hs
  exact store_ok I1 hN hi hx r1 (fun s2 I2 => ⟨_, H1, I2, q1⟩) hf
/-- name op= e -/
def tAug (i : Nat) (te : TE) (ti : TIp) : TS := fun D σ H => ∃ x, σ[i]? = some (some x) ∧ te σ H fun y H1 => ti x y H1 fun z H2 => D.nx (σ.set i (some z)) H2
theorem ps_aug {i : Nat} {x : Str} {e : Expr} {te : TE} {op : Operator} {ti : TIp} {pos' : Pos} (hN : X.N.Nodup) (hi : X.N[i]? = some x) (hx : Loc X.env.scope x) (he : PE X e te) (ho : PIp X op ti) (hf : X.fn x = true ∨ X.env.scope.names.lookup x = some .local := by first | exact .inl rfl | exact .inr rfl | assumption) :
    PS X (.AugAssign (.Name x pos') op e pos) (tAug i te ti) := by
  intro pins s σ H D I h
  obtain ⟨v, e1, h⟩ := h
  obtain ⟨m, hn, hl⟩ := I.loc
  have vis : Vis X.env.scope x := by rcases hx with k | k; exact .inl k; exact .inr (.inl k)
  obtain ⟨u, r, l⟩ := hl i x v hi e1 vis
  refine wpAny_AugAssign_Name ?_
  have go : wpAny (model X.prog X.w) X.A (eval e X.env) (fun w s₂ => wpAny (model X.prog X.w) X.A (inplaceOp op u w) (fun r s₃ => wpAny (model X.prog X.w) X.A (storeName X.env x r) (fun _ => SP X pins D .next) X.xe s₃) X.xe s₂) X.xe s := by
    refine thn (he pins s σ H _ I h) fun w s1 ⟨y, H1, I1, r1, q1⟩ => ?_
    refine thn (ho pins s1 σ H1 v y u w _ I1 r r1 q1) fun z s2 ⟨zv, H2, I2, r2, q2⟩ => ?_
    exact store_ok I2 hN hi hx r2 (fun s3 I3 => ⟨_, H2, I3, q2⟩) hf
  rcases l with ⟨hk, hm⟩ | ⟨hk, c, hc, hcell⟩
  · exact wpAny_loadName_local I.ok.kind hk hn hm go
  · rcases hk with hk | hk
    · exact wpAny_loadName_cell I.ok.kind hk hc hcell go
    · rcases hx with k | k
      · have : X.env.scope.names.lookup x = some .free := hk
        rw [k] at this; cases this
      · have : X.env.scope.names.lookup x = some .free := hk
        rw [k] at this; cases this
/-- ints -/
def ipI (f : Int → Int → Int) : TIp := fun x y H Q => ∃ i j, x = .int i ∧ y = .int j ∧ Q (.int (f i j)) H
theorem ip_add : PIp X .Add (ipI fun i j => i + j) := by
  intro pins s σ H x y v u Q I r1 r2 h
  obtain ⟨i, j, e1, e2, q⟩ := h
  subst e1; subst e2
  obtain ⟨t, rfl⟩ := r1
  obtain ⟨t', rfl⟩ := r2
  exact iadd_int ⟨.int _, H, I.tok _, ⟨_, rfl⟩, q⟩
end
section
variable {X : Cx} {pos : Pos}
/-- the invariant W with its measure -/
def tWhile (c : TT) (tb : TS) : TS := fun D σ H => ∃ W : Nat → St → Hp → Prop, (∃ m, W m σ H) ∧ ∀ m σ H, W m σ H →
  c σ H fun b H1 => if b = true then ∃ N : St → Hp → Prop, (∀ σ' H', N σ' H' → ∃ m', m' < m ∧ W m' σ' H') ∧ tb { D with nx := N, ct := N, bk := D.nx } σ H1 else D.nx σ H1
theorem ps_while {c : Expr} {body : List Stmt} {tc : TT} {tb : TS} (hp : PassesOwn (model X.prog X.w) X.A X.env X.xe) (hc : PT X c tc) (hb : PSs X body tb) : PS X (.While c body [] pos) (tWhile tc tb) := by
  intro pins s σ H D I h
  obtain ⟨W, ⟨m0, w0⟩, turn⟩ := h
  refine wpAny_While (codeAny_whileLoop (fun n s' => ∃ σ' H', Inv X pins σ' H' s' ∧ W n σ' H') ?_ m0 ⟨σ, H, I, w0⟩)
  rintro n s1 ⟨σ1, H1, I1, w1⟩
  refine wpAny_passesOwn hp (thn (hc pins s1 σ1 H1 _ I1 (turn n σ1 H1 w1)) fun b s2 ⟨H2, I2, q2⟩ => ?_)
  cases b with
  | true =>
    obtain ⟨N, hN, q2⟩ := q2
    rw [if_pos rfl]
    refine wpAny_passesOwn hp (thn (hb pins s2 σ1 H2 _ I2 q2) fun f s3 q3 => ?_)
    cases f with
    | next =>
      obtain ⟨σ3, H3, I3, n3⟩ := q3
      obtain ⟨m', hm, w3⟩ := hN σ3 H3 n3
      exact ⟨m', hm, σ3, H3, I3, w3⟩
    | cont =>
      obtain ⟨σ3, H3, I3, n3⟩ := q3
      obtain ⟨m', hm, w3⟩ := hN σ3 H3 n3
      exact ⟨m', hm, σ3, H3, I3, w3⟩
    | brk => exact q3
    | ret v => exact q3
  | false =>
    rw [if_neg Bool.false_ne_true]
    exact wpAny_execs_nil ⟨σ1, H2, I2, q2⟩
end
/-- at turn i: it yields x (the heap may grow), or it stops -/
structure It where
  go : Nat → Hp → Prop
  yld : Nat → Hp → V → Hp → Prop
  stop : Nat → Hp → Prop
/-- the iterator's own objects may turn: they are not the frame's, not pinned, younger than the entry (or a comprehension's own) -/
def FpOk (X : Cx) (pins : List (Addr × Obj)) (H : Hp) (b : Addr) : Prop :=
  H b = none ∧ b ≠ X.env.locals ∧ b ∉ X.fs ∧ (b ∈ X.ex ∨ X.s_0.heap.objs.size ≤ b) ∧ (∀ x c, X.env.cells.lookup x = some c → c ≠ b) ∧ ∀ p ∈ X.pn ++ pins, p.1 ≠ b
theorem Inv.fpOk {X : Cx} {pins : List (Addr × Obj)} {σ : St} {H H' : Hp} {s : Shared} {b : Addr} (I : Inv X pins σ H s) (hb : s.heap.objs.size ≤ b) (hn : H' b = none) : FpOk X pins H' b := by
  refine ⟨hn, Nat.ne_of_gt (Nat.lt_of_lt_of_le I.lt hb), I.nofs hb, .inr (Nat.le_trans I.sz hb), fun x c e z => ?_, fun p hp z => ?_⟩
  · obtain ⟨v, q⟩ := I.cell x c e
    exact absurd (Nat.lt_of_lt_of_le q.lt (by rw [z]; exact hb)) (Nat.lt_irrefl _)
  · exact absurd (Nat.lt_of_lt_of_le (Heap.lt_size (I.pin p hp).1) (by rw [z]; exact hb)) (Nat.lt_irrefl _)
structure Turn (P : Program) (w : World) (K : PySem.W.Frag) (tg : Expr) (J : It) (fp : List Addr) (it : Addr) (tn : Nat → Heap → Prop) : Prop where
  mem : it ∈ fp
  obj : ∀ i h, tn i h → ∀ b ∈ fp, ∃ o, h.get? b = some o ∧ ∀ v, o.data ≠ .cell v
  keep : ∀ i h h', tn i h → (∀ b ∈ fp, ∀ o, h.get? b = some o → h'.get? b = some o) → tn i h'
  item : ∀ (X : Cx), X.prog = P → X.w = w → X.K = K → X.calm = true → ∀ (i : Nat) (pins : List (Addr × Obj)) (s : Shared) (σ : St) (H : Hp) (E : Value → Shared → Prop), Inv X pins σ H s → (∀ b ∈ fp, FpOk X pins H b) → tn i s.heap → J.go i H →
    wpAny (model P w) X.A (pyNext (.ref it)) (fun r s1 => ∃ u, r = some u ∧
      wpAny (model P w) X.A (letOwnedTupleGo tg (.ref it) u) (fun _ s2 => ∃ x H', Inv X pins σ H' s2 ∧ RelV x u ∧ J.yld i H x H' ∧ tn (i + 1) s2.heap ∧ ∀ b ∈ fp, H' b = none) E s1) E s
  done : ∀ (X : Cx), X.prog = P → X.w = w → X.K = K → X.calm = true → ∀ (i : Nat) (pins : List (Addr × Obj)) (s : Shared) (σ : St) (H : Hp) (E : Value → Shared → Prop), Inv X pins σ H s → (∀ b ∈ fp, FpOk X pins H b) → tn i s.heap → J.stop i H →
    wpAny (model P w) X.A (pyNext (.ref it)) (fun r s1 => r = none ∧ Inv X pins σ H s1) E s
  self : ∀ (A : Around) (i : Nat) (s : Shared) (Q : Value → Shared → Prop) (E : Value → Shared → Prop), tn i s.heap → Q (.ref it) s → wpAny (model P w) A (pyIter (.ref it)) Q E s
abbrev TI := St → Hp → (It → Hp → Prop) → Prop
/-- an iterator has come -/
def PIE (X : Cx) (pins : List (Addr × Obj)) (σ : St) (tg : Expr) (R : It → Hp → Prop) (itv : Value) (s2 : Shared) : Prop :=
  ∃ (it : Addr) (fp : List Addr) (tn : Nat → Heap → Prop) (J : It) (H' : Hp), itv = .ref it ∧ Inv X pins σ H' s2 ∧ Turn X.prog X.w X.K tg J fp it tn ∧ tn 0 s2.heap ∧ (∀ b ∈ fp, FpOk X pins H' b) ∧ R J H'
def PI (X : Cx) (tg iter : Expr) (wi : TI) : Prop :=
  ∀ (pins : List (Addr × Obj)) (s : Shared) (σ : St) (H : Hp) (R : It → Hp → Prop), Inv X pins σ H s → wi σ H R →
    wpAny (model X.prog X.w) X.A (eval iter X.env) (fun v s1 => wpAny (model X.prog X.w) X.A (pyIter v) (PIE X pins σ tg R) X.xe s1) X.xe s
/-- the step ahead of the store is nothing for an iterator that keeps no tuple -/
theorem go_of {M : Model} {A : Around} {E : Value → Shared → Prop} {s : Shared} {tg : Expr} {it : Addr} {u : Value} {o : Obj} {n : String} {vs : Array Value} {Q : Unit → Shared → Prop} (ho : s.heap.get? it = some o) (hc : o.cls = .type n) (hd : o.data = .fields vs)
    (hn : ["enumerate", "zip", "dict_itemiterator", "dict_reverseitemiterator", "odict_iterator", "itertools.zip_longest", "itertools.pairwise"].contains n = false) (hQ : Q () s) : wpAny M A (letOwnedTupleGo tg (.ref it) u) Q E s := by
  unfold letOwnedTupleGo
  cases tg <;> first
    | exact wpAny_pure hQ
    | (cases u <;> first
        | exact wpAny_pure hQ
        | (refine wpAny_bind (wpAny_load ho ?_)
           rw [hc, hd]
           show wpAny M A (if (["enumerate", "zip", "dict_itemiterator", "dict_reverseitemiterator", "odict_iterator", "itertools.zip_longest", "itertools.pairwise"].contains n && vs[0]? == some (rawInt _)) = true then _ else _) Q E s
           rw [if_neg (by intro h; rw [hn, Bool.false_and] at h; cases h)]
           exact wpAny_pure hQ))
/-- the list at a, as it stands at each turn (a loop may append to it) -/
def Itl (K : PySem.W.Frag) (a : Addr) : It :=
  ⟨fun i H => ∃ xs x, SqL K H a xs ∧ xs[i]? = some x, fun i H x H' => H' = H ∧ ∀ xs, SqL K H a xs → xs[i]? = some x, fun i H => ∃ xs, SqL K H a xs ∧ xs.length ≤ i⟩
def Itt (K : PySem.W.Frag) (a : Addr) : It :=
  ⟨fun i H => ∃ xs x, SqT K H a xs ∧ xs[i]? = some x, fun i H x H' => H' = H ∧ ∀ xs, SqT K H a xs → xs[i]? = some x, fun i H => ∃ xs, SqT K H a xs ∧ xs.length ≤ i⟩
theorem turn_list {P : Program} {w : World} {K : PySem.W.Frag} {tg : Expr} (a it : Addr) : Turn P w K tg (Itl K a) [it] it (fun i h => h.IsListIter it a i) where
  mem := by simp
  obj := fun i h st b hb => by
    have e : b = it := by simpa using hb
    subst e
    obtain ⟨o, e, c, d⟩ := st
    exact ⟨o, e, fun v z => by rw [d] at z; cases z⟩
  keep := fun i h h' st k => st.at fun o e => k it (by simp) o e
  item := by
    intro X hP hw hK hc i pins s σ H E I hf st hg
    subst hP hw hK
    obtain ⟨xs, x, hq, hx⟩ := hg
    obtain ⟨its, rv, p, hz⟩ := I.list hq
    obtain ⟨u, hu, ru⟩ := rv.get hx
    obtain ⟨f0, f1, f2, f3, f4, f5⟩ := hf it (by simp)
    refine wpAny_pyNext_list_item st p.isList (x := u) (by simpa using hu) fun h' st' sb => ?_
    have I1 : Inv X pins σ H { s with heap := h' } := I.turned (t' := s.toks) (fun b o hb e => (sb.2 b hb).trans e) f0 f1 f3 f4 f5
    obtain ⟨o, e, c, d⟩ := id st'
    exact ⟨u, rfl, go_of (s := { s with heap := h' }) e c d (by decide) ⟨x, H, I1, ru, ⟨rfl, fun ys hy => by rw [I.list_inj hy hq]; exact hx⟩, st', fun b hb => (hf b hb).1⟩⟩
  done := by
    intro X hP hw hK hc i pins s σ H E I hf st hg
    subst hP hw hK
    obtain ⟨xs, hq, hx⟩ := hg
    obtain ⟨its, rv, p, hz⟩ := I.list hq
    obtain ⟨f0, f1, f2, f3, f4, f5⟩ := hf it (by simp)
    have hl := rv.length
    exact wpAny_pyNext_list_end (I.ok.hd hc) st p.isList (by simp; omega) fun h' eb => ⟨rfl, I.turned (t' := s.toks) (fun b o hb e => eb b o hb e) f0 f1 f3 f4 f5⟩
  self := fun _ _ _ _ _ st h => wpAny_pyIter_listiter st h
theorem turn_tuple {P : Program} {w : World} {K : PySem.W.Frag} {tg : Expr} (a it : Addr) : Turn P w K tg (Itt K a) [it] it (fun i h => h.IsTupleIter it a i) where
  mem := by simp
  obj := fun i h st b hb => by
    have e : b = it := by simpa using hb
    subst e
    obtain ⟨o, e, c, d⟩ := st
    exact ⟨o, e, fun v z => by rw [d] at z; cases z⟩
  keep := fun i h h' st k => st.at fun o e => k it (by simp) o e
  item := by
    intro X hP hw hK hc i pins s σ H E I hf st hg
    subst hP hw hK
    obtain ⟨xs, x, hq, hx⟩ := hg
    obtain ⟨its, rv, p, hz⟩ := I.tuple hq
    obtain ⟨u, hu, ru⟩ := rv.get hx
    obtain ⟨f0, f1, f2, f3, f4, f5⟩ := hf it (by simp)
    refine wpAny_pyNext_tuple_item st (show s.heap.IsTuple a its.toArray from p) (x := u) (by simpa using hu) fun h' st' sb => ?_
    have I1 : Inv X pins σ H { s with heap := h' } := I.turned (t' := s.toks) (fun b o hb e => (sb.2 b hb).trans e) f0 f1 f3 f4 f5
    obtain ⟨o, e, c, d⟩ := id st'
    exact ⟨u, rfl, go_of (s := { s with heap := h' }) e c d (by decide) ⟨x, H, I1, ru, ⟨rfl, fun ys hy => by rw [I.tuple_inj hy hq]; exact hx⟩, st', fun b hb => (hf b hb).1⟩⟩
  done := by
    intro X hP hw hK hc i pins s σ H E I hf st hg
    subst hP hw hK
    obtain ⟨xs, hq, hx⟩ := hg
    obtain ⟨its, rv, p, hz⟩ := I.tuple hq
    obtain ⟨f0, f1, f2, f3, f4, f5⟩ := hf it (by simp)
    have hl := rv.length
    exact wpAny_pyNext_tuple_end (I.ok.hd hc) st (show s.heap.IsTuple a its.toArray from p) (by simp; omega) fun h' eb => ⟨rfl, I.turned (t' := s.toks) (fun b o hb e => eb b o hb e) f0 f1 f3 f4 f5⟩
  self := fun _ _ _ _ _ st h => wpAny_pyIter_tupleiter st h
end L2
namespace L2
open PySem PySem.Spec PyProof.Rows
section
variable {X : Cx} {tg : Expr}
def iList (K : PySem.W.Frag) (tl : TE) : TI := fun σ H R => tl σ H fun x H1 => ∃ a, x = .ref a ∧ (∃ xs, SqL K H1 a xs) ∧ R (Itl K a) H1
def iTup (K : PySem.W.Frag) (tl : TE) : TI := fun σ H R => tl σ H fun x H1 => ∃ a, x = .ref a ∧ (∃ xs, SqT K H1 a xs) ∧ R (Itt K a) H1
theorem pi_list {l : Expr} {tl : TE} (hl : PE X l tl) : PI X tg l (iList X.K tl) := by
  intro pins s σ H R I h
  refine thn (hl pins s σ H _ I h) fun v s1 ⟨x, H1, I1, r1, q1⟩ => ?_
  obtain ⟨a, e, ⟨xs, hq⟩, q⟩ := q1
  subst e
  cases r1
  obtain ⟨its, rv, p, hz⟩ := I1.list hq
  refine wpAny_pyIter_list p.isList ?_
  refine ⟨s1.heap.objs.size, [s1.heap.objs.size], _, _, H1, rfl, I1.kept (t' := s1.toks) fun b o e => Heap.get?_push_of_some _ e, turn_list a _, ⟨_, Heap.get?_push_size _ rfl, rfl, rfl⟩, fun b hb => ?_, q⟩
  have e : b = s1.heap.objs.size := by simpa using hb
  subst e
  exact I1.fpOk (Nat.le_refl _) (I1.hok.fresh (Nat.le_refl _))
theorem pi_tup {l : Expr} {tl : TE} (hl : PE X l tl) : PI X tg l (iTup X.K tl) := by
  intro pins s σ H R I h
  refine thn (hl pins s σ H _ I h) fun v s1 ⟨x, H1, I1, r1, q1⟩ => ?_
  obtain ⟨a, e, ⟨xs, hq⟩, q⟩ := q1
  subst e
  cases r1
  obtain ⟨its, rv, p, hz⟩ := I1.tuple hq
  refine wpAny_pyIter_tuple (show s1.heap.IsTuple a its.toArray from p) ?_
  refine ⟨s1.heap.objs.size, [s1.heap.objs.size], _, _, H1, rfl, I1.kept (t' := s1.toks) fun b o e => Heap.get?_push_of_some _ e, turn_tuple a _, ⟨_, Heap.get?_push_size _ rfl, rfl, rfl⟩, fun b hb => ?_, q⟩
  have e : b = s1.heap.objs.size := by simpa using hb
  subst e
  exact I1.fpOk (Nat.le_refl _) (I1.hok.fresh (Nat.le_refl _))
/-- W: the invariant by the turn and a measure; N: what the body is to reach -/
def tFor (wi : TI) (g : TG) (tb : TS) : TS := fun D σ H => wi σ H fun J H1 => ∃ W : Nat → Nat → St → Hp → Prop, (∃ m, W 0 m σ H1) ∧ ∀ i m σ H, W i m σ H →
  (J.stop i H ∧ D.nx σ H) ∨ (J.go i H ∧ ∃ N : St → Hp → Prop, (∀ σ' H', N σ' H' → ∃ m', m' < m ∧ W (i + 1) m' σ' H') ∧ ∀ x H', J.yld i H x H' → g x σ H' fun σ2 H2 => tb { D with nx := N, ct := N, bk := D.nx } σ2 H2)
/-- the records at fp as they stand -/
def pinsAt (fp : List Addr) (h : Heap) : List (Addr × Obj) := fp.filterMap fun b => (h.get? b).map fun o => (b, o)
theorem mem_pinsAt {fp : List Addr} {h : Heap} {b : Addr} {o : Obj} (hb : b ∈ fp) (e : h.get? b = some o) : (b, o) ∈ pinsAt fp h := List.mem_filterMap.mpr ⟨b, hb, by rw [e]; rfl⟩
theorem of_pinsAt {fp : List Addr} {h : Heap} {p : Addr × Obj} (hp : p ∈ pinsAt fp h) : p.1 ∈ fp ∧ h.get? p.1 = some p.2 := by
  obtain ⟨b, hb, e⟩ := List.mem_filterMap.mp hp
  cases q : h.get? b with
  | none => rw [q] at e; cases e
  | some o =>
    rw [q] at e
    have e' : (b, o) = p := Option.some.inj e
    subst e'
    exact ⟨hb, q⟩
theorem Inv.pinned {pins : List (Addr × Obj)} {σ : St} {H : Hp} {s : Shared} {fp : List Addr} (I : Inv X pins σ H s) (hf : ∀ b ∈ fp, FpOk X pins H b) (ho : ∀ b ∈ fp, ∃ o, s.heap.get? b = some o ∧ ∀ v, o.data ≠ .cell v) : Inv X (pins ++ pinsAt fp s.heap) σ H s :=
  I.pins_of fun p hp => (List.mem_append.mp hp).elim (fun z => I.pin p (List.mem_append_right _ z)) fun z => by
    obtain ⟨hb, e⟩ := of_pinsAt z
    obtain ⟨f0, f1, f2, _⟩ := hf p.1 hb
    obtain ⟨o, e', d⟩ := ho p.1 hb
    rw [e] at e'; cases e'
    exact ⟨e, f0, f1, f2, d⟩
theorem Inv.unpinned {pins pl : List (Addr × Obj)} {σ : St} {H : Hp} {s : Shared} (I : Inv X (pins ++ pl) σ H s) : Inv X pins σ H s := I.pins_of fun p hp => I.pin p (List.mem_append_right _ (List.mem_append_left _ hp))
theorem ps_for {iter : Expr} {body : List Stmt} {wi : TI} {g : TG} {tb : TS} {pos : Pos} (hp : PassesOwn (model X.prog X.w) X.A X.env X.xe) (hc : X.calm = true) (hi : PI X tg iter wi) (hg : PG X tg g) (hb : PSs X body tb)
    (hs : ∀ x, foldedSetIterable iter X.env x = pure x := by intro _; rfl) : PS X (.For tg iter body [] pos) (tFor wi g tb) := by
  intro pins s σ H D I h
  refine wpAny_For (thn (hi pins s σ H _ I h) fun v s1 h1 => thn h1 fun itv s2 h2 => ?_) hs
  obtain ⟨it, fp, tn, J, H2, e, I2, T, st2, f2, W, ⟨m0, w0⟩, turn⟩ := h2
  subst e
  -- what stays true of the iterator's objects through the loop
  have stat : ∀ {H' : Hp}, (∀ b ∈ fp, H' b = none) → ∀ b ∈ fp, FpOk X pins H' b := fun hn b hb => ⟨hn b hb, (f2 b hb).2⟩
  refine codeAny_forLoop_any (fun n s' => ∃ i σ' H', Inv X pins σ' H' s' ∧ tn i s'.heap ∧ (∀ b ∈ fp, H' b = none) ∧ W i n σ' H') ?_ m0 ⟨0, σ, H2, I2, st2, fun b hb => (f2 b hb).1, w0⟩
  rintro n s3 ⟨i, σ3, H3, I3, st3, fr3, w3⟩
  rcases turn i n σ3 H3 w3 with ⟨stop, qn⟩ | ⟨go, N, hN, step⟩
  · refine wpAny_passesOwn hp (thn (T.done X rfl rfl rfl hc i pins s3 σ3 H3 X.xe I3 (stat fr3) st3 stop) fun r s4 ⟨hr, I4⟩ => ?_)
    subst hr
    exact wpAny_execs_nil ⟨σ3, H3, I4, qn⟩
  · refine wpAny_passesOwn hp (thn (T.item X rfl rfl rfl hc i pins s3 σ3 H3 X.xe I3 (stat fr3) st3 go) fun r s4 ⟨u, hr, h4⟩ => ?_)
    subst hr
    refine wpAny_passesOwn hp (thn h4 fun _ s5 ⟨x, H5, I5, r5, y5, st5, fr5⟩ => ?_)
    have I5' := I5.pinned (stat fr5) (T.obj _ _ st5)
    refine wpAny_passesOwn hp (thn (hg _ s5 σ3 H5 x u _ I5' r5 (step x H5 y5)) fun _ s6 ⟨σ6, H6, I6, q6⟩ => ?_)
    refine wpAny_passesOwn hp (thn (hb _ s6 σ6 H6 _ I6 q6) fun f s7 q7 => ?_)
    have again : ∀ {σ7 : St} {H7 : Hp}, Inv X (pins ++ pinsAt fp s5.heap) σ7 H7 s7 → N σ7 H7 → ∃ m, m < n ∧ ∃ i σ' H', Inv X pins σ' H' s7 ∧ tn i s7.heap ∧ (∀ b ∈ fp, H' b = none) ∧ W i m σ' H' := fun {σ7 H7} I7 n7 => by
      obtain ⟨m', hm, w7⟩ := hN σ7 H7 n7
      refine ⟨m', hm, i + 1, σ7, H7, I7.unpinned, T.keep _ _ _ st5 fun b hb o e => (I7.pin (b, o) (List.mem_append_right _ (List.mem_append_right _ (mem_pinsAt hb e)))).1, fun b hb => ?_, w7⟩
      obtain ⟨o, e, d⟩ := T.obj _ _ st5 b hb
      exact (I7.pin (b, o) (List.mem_append_right _ (List.mem_append_right _ (mem_pinsAt hb e)))).2.1
    cases f with
    | next => obtain ⟨σ7, H7, I7, n7⟩ := q7; exact again I7 n7
    | cont => obtain ⟨σ7, H7, I7, n7⟩ := q7; exact again I7 n7
    | brk => obtain ⟨σ7, H7, I7, q7⟩ := q7; exact ⟨σ7, H7, I7.unpinned, q7⟩
    | ret v => obtain ⟨x7, σ7, H7, I7, r7, q7⟩ := q7; exact ⟨x7, σ7, H7, I7.unpinned, r7, q7⟩
end
/-- over a list that the body leaves as it is -/
theorem for_list {K : PySem.W.Frag} {a : Addr} {xs : List V} {g : TG} {tb : TS} {D : Ends} {σ : St} {H : Hp} (Pv : Nat → St → Hp → Prop) (h0 : Pv 0 σ H) (hl : ∀ i σ H, i ≤ xs.length → Pv i σ H → SqL K H a xs)
    (hs : ∀ i x σ H, xs[i]? = some x → Pv i σ H → g x σ H fun σ2 H2 => tb { D with nx := Pv (i + 1), ct := Pv (i + 1), bk := D.nx } σ2 H2) (hd : ∀ σ H, Pv xs.length σ H → D.nx σ H) :
    ∃ W : Nat → Nat → St → Hp → Prop, (∃ m, W 0 m σ H) ∧ ∀ i m σ H, W i m σ H →
      ((Itl K a).stop i H ∧ D.nx σ H) ∨ ((Itl K a).go i H ∧ ∃ N : St → Hp → Prop, (∀ σ' H', N σ' H' → ∃ m', m' < m ∧ W (i + 1) m' σ' H') ∧ ∀ x H', (Itl K a).yld i H x H' → g x σ H' fun σ2 H2 => tb { D with nx := N, ct := N, bk := D.nx } σ2 H2) := by
  refine ⟨fun i m σ H => m = xs.length - i ∧ i ≤ xs.length ∧ Pv i σ H, ⟨xs.length, by simp, Nat.zero_le _, h0⟩, ?_⟩
  rintro i m σ H ⟨rfl, hi, p⟩
  have q := hl i σ H hi p
  by_cases hlt : i < xs.length
  · refine .inr ⟨⟨xs, xs[i], q, by simp [hlt]⟩, Pv (i + 1), fun σ' H' p' => ⟨xs.length - (i + 1), by omega, rfl, hlt, p'⟩, fun x H' y => ?_⟩
    obtain ⟨e, y⟩ := y
    subst e
    exact hs i x σ _ (y xs q) p
  · have e : i = xs.length := by omega
    subst e
    exact .inl ⟨⟨xs, q, Nat.le_refl _⟩, hd σ H p⟩
theorem for_tup {K : PySem.W.Frag} {a : Addr} {xs : List V} {g : TG} {tb : TS} {D : Ends} {σ : St} {H : Hp} (Pv : Nat → St → Hp → Prop) (h0 : Pv 0 σ H) (hl : ∀ i σ H, i ≤ xs.length → Pv i σ H → SqT K H a xs)
    (hs : ∀ i x σ H, xs[i]? = some x → Pv i σ H → g x σ H fun σ2 H2 => tb { D with nx := Pv (i + 1), ct := Pv (i + 1), bk := D.nx } σ2 H2) (hd : ∀ σ H, Pv xs.length σ H → D.nx σ H) :
    ∃ W : Nat → Nat → St → Hp → Prop, (∃ m, W 0 m σ H) ∧ ∀ i m σ H, W i m σ H →
      ((Itt K a).stop i H ∧ D.nx σ H) ∨ ((Itt K a).go i H ∧ ∃ N : St → Hp → Prop, (∀ σ' H', N σ' H' → ∃ m', m' < m ∧ W (i + 1) m' σ' H') ∧ ∀ x H', (Itt K a).yld i H x H' → g x σ H' fun σ2 H2 => tb { D with nx := N, ct := N, bk := D.nx } σ2 H2) := by
  refine ⟨fun i m σ H => m = xs.length - i ∧ i ≤ xs.length ∧ Pv i σ H, ⟨xs.length, by simp, Nat.zero_le _, h0⟩, ?_⟩
  rintro i m σ H ⟨rfl, hi, p⟩
  have q := hl i σ H hi p
  by_cases hlt : i < xs.length
  · refine .inr ⟨⟨xs, xs[i], q, by simp [hlt]⟩, Pv (i + 1), fun σ' H' p' => ⟨xs.length - (i + 1), by omega, rfl, hlt, p'⟩, fun x H' y => ?_⟩
    obtain ⟨e, y⟩ := y
    subst e
    exact hs i x σ _ (y xs q) p
  · have e : i = xs.length := by omega
    subst e
    exact .inl ⟨⟨xs, q, Nat.le_refl _⟩, hd σ H p⟩
end L2
namespace L2
open PySem PySem.Spec PyProof.Rows
abbrev R2 := V → V → Hp → VK → Prop
/-- a two-place operation on values: f is binaryOp op, inplaceOp op or compareOp op -/
def OpR (X : Cx) (f : Value → Value → Sem Value) (r : R2) : Prop :=
  ∀ (pins : List (Addr × Obj)) (s : Shared) (σ : St) (H : Hp) (x y : V) (v u : Value) (Q : VK), Inv X pins σ H s → RelV x v → RelV y u → r x y H Q →
    wpAny (model X.prog X.w) X.A (f v u) (EP X pins σ Q) X.xe s
/-- a one-place operation -/
def UnR (X : Cx) (f : Value → Sem Value) (r : V → Hp → VK → Prop) : Prop :=
  ∀ (pins : List (Addr × Obj)) (s : Shared) (σ : St) (H : Hp) (x : V) (v : Value) (Q : VK), Inv X pins σ H s → RelV x v → r x H Q →
    wpAny (model X.prog X.w) X.A (f v) (EP X pins σ Q) X.xe s
/-- a call of a value that is known (a builtin, a type) with values -/
def CallR (X : Cx) (f : Value) (r : List V → Hp → VK → Prop) : Prop :=
  ∀ (pins : List (Addr × Obj)) (s : Shared) (σ : St) (H : Hp) (xs : List V) (us : List Value) (Q : VK), Inv X pins σ H s → Vals xs us → r xs H Q →
    wpAny (model X.prog X.w) X.A (call f us) (EP X pins σ Q) X.xe s
def tOp (r : R2) (ta tb : TE) : TE := fun σ H Q => ta σ H fun x H1 => tb σ H1 fun y H2 => r x y H2 Q
def tUn (r : V → Hp → VK → Prop) (ta : TE) : TE := fun σ H Q => ta σ H fun x H1 => r x H1 Q
/-- ints in, under C, and a value out -/
def rI (C : Int → Int → Prop) (g : Int → Int → V) : R2 := fun x y H Q => ∃ i j, x = .int i ∧ y = .int j ∧ C i j ∧ Q (g i j) H
def rI0 (g : Int → Int → V) : R2 := fun x y H Q => ∃ i j, x = .int i ∧ y = .int j ∧ Q (g i j) H
def rU (g : Int → V) : V → Hp → VK → Prop := fun x H Q => ∃ i, x = .int i ∧ Q (g i) H
section
variable {X : Cx} {a b c : Expr} {ta tb tc : TE} {pos : Pos}
theorem binT (ha : PE X a ta) (hb : PE X b tb) {pins : List (Addr × Obj)} {s : Shared} {σ : St} {H : Hp} {R : V → V → Hp → Prop} (I : Inv X pins σ H s)
    (h : ta σ H fun x H1 => tb σ H1 fun y H2 => R x y H2) {Q : Value → Shared → Prop} {f : Value → Value → Sem Value}
    (hf : ∀ v u s2 x y H2, Inv X pins σ H2 s2 → RelV x v → RelV y u → R x y H2 → wpAny (model X.prog X.w) X.A (f v u) Q X.xe s2) :
    wpAny (model X.prog X.w) X.A (eval a X.env) (fun v s₁ => wpAny (model X.prog X.w) X.A (eval b X.env) (fun u s₂ => wpAny (model X.prog X.w) X.A (f v u) Q X.xe s₂) X.xe s₁) X.xe s := by
  refine thn (ha pins s σ H _ I h) fun v s1 ⟨x, H1, I1, r1, q1⟩ => ?_
  refine thn (hb pins s1 σ H1 _ I1 q1) fun u s2 ⟨y, H2, I2, r2, q2⟩ => ?_
  exact hf v u s2 x y H2 I2 r1 r2 q2
theorem pe_op {op : Operator} {r : R2} (ho : OpR X (binaryOp op) r) (ha : PE X a ta) (hb : PE X b tb) : PE X (.BinOp a op b pos) (tOp r ta tb) := by
  intro pins s σ H Q I h
  exact wpAny_BinOp (binT ha hb I h fun v u s2 x y H2 I2 rx ry q => ho pins s2 σ H2 x y v u Q I2 rx ry q)
theorem pe_un {op : UnaryOp} {r : V → Hp → VK → Prop} (ho : UnR X (unaryOp op) r) (ha : PE X a ta) : PE X (.UnaryOp op a pos) (tUn r ta) := by
  intro pins s σ H Q I h
  exact UnaryOp_ (thn (ha pins s σ H _ I h) fun v s1 ⟨x, H1, I1, r1, q1⟩ => ho pins s1 σ H1 x v Q I1 r1 q1)
theorem opI {f : Value → Value → Sem Value} {C : Int → Int → Prop} {g : Int → Int → Int}
    (rule : ∀ (i j : Int) (t u : Tok) (s : Shared) (Q : Value → Shared → Prop) (E : Value → Shared → Prop), C i j → Q (.int (g i j) s.toks) { s with toks := s.toks + 1 } → wpAny (model X.prog X.w) X.A (f (.int i t) (.int j u)) Q E s) :
    OpR X f (rI C fun i j => .int (g i j)) := by
  intro pins s σ H x y v u Q I rx ry h
  obtain ⟨i, j, rfl, rfl, hc, q⟩ := h
  obtain ⟨t, rfl⟩ := rx
  obtain ⟨t', rfl⟩ := ry
  exact rule i j t t' s _ _ hc ⟨.int (g i j), H, I.tok _, ⟨_, rfl⟩, q⟩
theorem opI0 {f : Value → Value → Sem Value} {g : Int → Int → Int}
    (rule : ∀ (i j : Int) (t u : Tok) (s : Shared) (Q : Value → Shared → Prop) (E : Value → Shared → Prop), Q (.int (g i j) s.toks) { s with toks := s.toks + 1 } → wpAny (model X.prog X.w) X.A (f (.int i t) (.int j u)) Q E s) :
    OpR X f (rI0 fun i j => .int (g i j)) := by
  intro pins s σ H x y v u Q I rx ry h
  obtain ⟨i, j, rfl, rfl, q⟩ := h
  obtain ⟨t, rfl⟩ := rx
  obtain ⟨t', rfl⟩ := ry
  exact rule i j t t' s _ _ ⟨.int (g i j), H, I.tok _, ⟨_, rfl⟩, q⟩
theorem opB0 {f : Value → Value → Sem Value} {g : Int → Int → Bool}
    (rule : ∀ (i j : Int) (t u : Tok) (s : Shared) (Q : Value → Shared → Prop) (E : Value → Shared → Prop), Q (.bool (g i j)) s → wpAny (model X.prog X.w) X.A (f (.int i t) (.int j u)) Q E s) :
    OpR X f (rI0 fun i j => .bl (g i j)) := by
  intro pins s σ H x y v u Q I rx ry h
  obtain ⟨i, j, rfl, rfl, q⟩ := h
  obtain ⟨t, rfl⟩ := rx
  obtain ⟨t', rfl⟩ := ry
  exact rule i j t t' s _ _ ⟨.bl (g i j), H, I, rfl, q⟩
def CMul (i j : Int) : Prop := (-(2 ^ 64) < i ∧ i < 2 ^ 64) ∨ (-(2 ^ 64) < j ∧ j < 2 ^ 64)
theorem CMul.ok {i j : Int} (h : CMul i j) : IntMulOk i j := by
  rcases h with ⟨h1, h2⟩ | ⟨h1, h2⟩
  · exact .of_left (intBits_le_64 h1 h2)
  · exact .of_right (intBits_le_64 h1 h2)
theorem op_add : OpR X (binaryOp .Add) (rI0 fun i j => .int (i + j)) := opI0 fun _ _ _ _ _ _ _ q => add_int q
theorem op_sub : OpR X (binaryOp .Sub) (rI0 fun i j => .int (i - j)) := opI0 fun _ _ _ _ _ _ _ q => sub_int q
theorem op_mul : OpR X (binaryOp .Mult) (rI CMul fun i j => .int (i * j)) := opI fun _ _ _ _ _ _ _ hc q => mul_int q hc.ok
theorem unI {f : Value → Sem Value} {g : Int → Int}
    (rule : ∀ (i : Int) (t : Tok) (s : Shared) (Q : Value → Shared → Prop) (E : Value → Shared → Prop), Q (.int (g i) s.toks) { s with toks := s.toks + 1 } → wpAny (model X.prog X.w) X.A (f (.int i t)) Q E s) :
    UnR X f (rU fun i => .int (g i)) := by
  intro pins s σ H x v Q I rx h
  obtain ⟨i, rfl, q⟩ := h
  obtain ⟨t, rfl⟩ := rx
  exact rule i t s _ _ ⟨.int (g i), H, I.tok _, ⟨_, rfl⟩, q⟩
theorem un_neg : UnR X (unaryOp .USub) (rU fun i => .int (-i)) := unI fun _ _ _ _ _ q => neg_int q
end
/-- the scalars that == tells apart as data does -/
def scal : V → V → Bool
  | .non, .non => true | .non, .int _ => true | .int _, .non => true | .non, .bl _ => true | .bl _, .non => true | .non, .str _ => true | .str _, .non => true
  | .int _, .int _ => true | .bl _, .bl _ => true | .str _, .str _ => true | .byt _, .byt _ => true
  | .int _, .str _ => true | .str _, .int _ => true | .bl _, .str _ => true | .str _, .bl _ => true
  | _, _ => false
def rEq : R2 := fun x y H Q => scal x y = true ∧ Q (.bl (decide (x = y))) H
def rNe : R2 := fun x y H Q => scal x y = true ∧ Q (.bl (!decide (x = y))) H
theorem dec_int {i j : Int} : decide (V.int i = V.int j) = (i == j) := by
  rw [Bool.eq_iff_iff]
  simp
theorem dec_bl {i j : Bool} : decide (V.bl i = V.bl j) = (i == j) := by
  rw [Bool.eq_iff_iff]
  simp
theorem dec_str {i j : Str} : decide (V.str i = V.str j) = (i == j) := by
  rw [Bool.eq_iff_iff]
  simp
theorem dec_byt {i j : Array UInt8} : decide (V.byt i = V.byt j) = (i.toList == j.toList) := by
  rw [Bool.eq_iff_iff]
  cases i
  cases j
  simp
section
variable {X : Cx} {a b c : Expr} {ta tb tc : TE} {pos : Pos}
theorem fin_bl {pins : List (Addr × Obj)} {σ : St} {H : Hp} {s : Shared} {Q : VK} {k k' : Bool} (I : Inv X pins σ H s) (q : Q (.bl k) H) (e : k = k') : EP X pins σ Q (.bool k') s := by
  subst e
  exact ⟨.bl k, H, I, rfl, q⟩
theorem op_eq : OpR X (compareOp .Eq) rEq := by
  intro pins s σ H x y v u Q I rx ry h
  obtain ⟨hs, q⟩ := h
  cases x with
  | non =>
    cases rx
    cases y with
    | non => cases ry; exact PySem.EqNone.eq_none_none (fin_bl I q (by simp))
    | bl j => cases ry; exact PySem.EqNone.eq_none_bool (fin_bl I q (by simp))
    | int j => obtain ⟨t', rfl⟩ := ry; exact PySem.EqNone.eq_none_int (fin_bl I q (by simp))
    | str j => obtain ⟨t', rfl⟩ := ry; exact PySem.EqNone.eq_none_str (fin_bl I q (by simp))
    | _ => exact absurd (show false = true from hs) Bool.false_ne_true
  | bl i =>
    cases rx
    cases y with
    | non => cases ry; exact PySem.EqNone.eq_bool_none (fin_bl I q (by simp))
    | bl j => cases ry; exact eq_bool (fin_bl I q dec_bl)
    | str j => obtain ⟨t', rfl⟩ := ry; exact PySem.EqMixed.eq_bool_str (fin_bl I q (by simp))
    | _ => exact absurd (show false = true from hs) Bool.false_ne_true
  | int i =>
    obtain ⟨t, rfl⟩ := rx
    cases y with
    | non => cases ry; exact PySem.EqNone.eq_int_none (fin_bl I q (by simp))
    | int j => obtain ⟨t', rfl⟩ := ry; exact eq_int (fin_bl I q dec_int)
    | str j => obtain ⟨t', rfl⟩ := ry; exact PySem.EqMixed.eq_int_str (fin_bl I q (by simp))
    | _ => exact absurd (show false = true from hs) Bool.false_ne_true
  | str i =>
    obtain ⟨t, rfl⟩ := rx
    cases y with
    | non => cases ry; exact PySem.EqNone.eq_str_none (fin_bl I q (by simp))
    | bl j => cases ry; exact PySem.EqMixed.eq_str_bool (fin_bl I q (by simp))
    | int j => obtain ⟨t', rfl⟩ := ry; exact PySem.EqMixed.eq_str_int (fin_bl I q (by simp))
    | str j => obtain ⟨t', rfl⟩ := ry; exact eq_str (fin_bl I q dec_str)
    | _ => exact absurd (show false = true from hs) Bool.false_ne_true
  | byt i =>
    obtain ⟨t, rfl⟩ := rx
    cases y with
    | byt j => obtain ⟨t', rfl⟩ := ry; exact PySem.W.eq_bytes (fin_bl I q dec_byt)
    | _ => exact absurd (show false = true from hs) Bool.false_ne_true
  | _ => cases y <;> exact absurd (show false = true from hs) Bool.false_ne_true
theorem op_ne : OpR X (compareOp .NotEq) rNe := by
  intro pins s σ H x y v u Q I rx ry h
  obtain ⟨hs, q⟩ := h
  cases x with
  | non =>
    cases rx
    cases y with
    | non => cases ry; exact PySem.EqNone.ne_none_none (fin_bl I q (by simp))
    | bl j => cases ry; exact PySem.EqNone.ne_none_bool (fin_bl I q (by simp))
    | int j => obtain ⟨t', rfl⟩ := ry; exact PySem.EqNone.ne_none_int (fin_bl I q (by simp))
    | str j => obtain ⟨t', rfl⟩ := ry; exact PySem.EqNone.ne_none_str (fin_bl I q (by simp))
    | _ => exact absurd (show false = true from hs) Bool.false_ne_true
  | bl i =>
    cases rx
    cases y with
    | non => cases ry; exact PySem.EqNone.ne_bool_none (fin_bl I q (by simp))
    | bl j => cases ry; exact ne_bool (fin_bl I q (congrArg not dec_bl))
    | str j => obtain ⟨t', rfl⟩ := ry; exact PySem.EqMixed.ne_bool_str (fin_bl I q (by simp))
    | _ => exact absurd (show false = true from hs) Bool.false_ne_true
  | int i =>
    obtain ⟨t, rfl⟩ := rx
    cases y with
    | non => cases ry; exact PySem.EqNone.ne_int_none (fin_bl I q (by simp))
    | int j => obtain ⟨t', rfl⟩ := ry; exact ne_int (fin_bl I q (congrArg not dec_int))
    | str j => obtain ⟨t', rfl⟩ := ry; exact PySem.EqMixed.ne_int_str (fin_bl I q (by simp))
    | _ => exact absurd (show false = true from hs) Bool.false_ne_true
  | str i =>
    obtain ⟨t, rfl⟩ := rx
    cases y with
    | non => cases ry; exact PySem.EqNone.ne_str_none (fin_bl I q (by simp))
    | bl j => cases ry; exact PySem.EqMixed.ne_str_bool (fin_bl I q (by simp))
    | int j => obtain ⟨t', rfl⟩ := ry; exact PySem.EqMixed.ne_str_int (fin_bl I q (by simp))
    | str j => obtain ⟨t', rfl⟩ := ry; exact ne_str (fin_bl I q (congrArg not dec_str))
    | _ => exact absurd (show false = true from hs) Bool.false_ne_true
  | byt i =>
    obtain ⟨t, rfl⟩ := rx
    cases y with
    | byt j => obtain ⟨t', rfl⟩ := ry; exact PySem.W.ne_bytes (fin_bl I q (congrArg not dec_byt))
    | _ => exact absurd (show false = true from hs) Bool.false_ne_true
  | _ => cases y <;> exact absurd (show false = true from hs) Bool.false_ne_true
theorem op_lt : OpR X (compareOp .Lt) (rI0 fun i j => .bl (decide (i < j))) := opB0 fun _ _ _ _ _ _ _ q => lt_int q
theorem op_le : OpR X (compareOp .LtE) (rI0 fun i j => .bl (decide (i ≤ j))) := opB0 fun _ _ _ _ _ _ _ q => le_int q
theorem op_gt : OpR X (compareOp .Gt) (rI0 fun i j => .bl (decide (j < i))) := opB0 fun _ _ _ _ _ _ _ q => gt_int q
theorem nomark (b : Expr) {op : CmpOp} (h : op ≠ .In := by decide) (h2 : op ≠ .NotIn := by decide) : behindInMarks op b = false := by
  have e1 : (op == CmpOp.In) = false := by cases op <;> first | rfl | exact absurd rfl h
  have e2 : (op == CmpOp.NotIn) = false := by cases op <;> first | rfl | exact absurd rfl h2
  cases b <;> simp [behindInMarks, e1, e2]
/-- a comparison as a value; hm: nomark b, or (for in, not in) by with_unfolding_all rfl -/
theorem pe_cmpR {op : CmpOp} {r : R2} (ho : OpR X (compareOp op) r) (ha : PE X a ta) (hb : PE X b tb) (hm : behindInMarks op b = false) : PE X (.Compare a [op] [b] pos) (tOp r ta tb) := by
  intro pins s σ H Q I h
  exact wpAny_Compare1 (binT ha hb I h fun v u s2 x y H2 I2 rx ry q => ho pins s2 σ H2 x y v u Q I2 rx ry q) hm
/-- a reading of a value as a test -/
def tTest (t : TE) : TT := fun σ H Q => t σ H fun x H' => ∃ k, x = .bl k ∧ Q k H'
theorem pt_cmpR {op : CmpOp} {r : R2} (ho : OpR X (compareOp op) r) (ha : PE X a ta) (hb : PE X b tb) (hm : behindInMarks op b = false) : PT X (.Compare a [op] [b] pos) (tTest (tOp r ta tb)) := by
  intro pins s σ H Q I h
  refine wpAny_isTrue_Compare1 (thn (ha pins s σ H _ I h) fun v s1 ⟨x, H1, I1, r1, q1⟩ => thn (hb pins s1 σ H1 _ I1 q1) fun u s2 ⟨y, H2, I2, r2, q2⟩ =>
    thn (ho pins s2 σ H2 x y v u _ I2 r1 r2 q2) fun c s3 ⟨z, H3, I3, r3, k, e, q3⟩ => ?_) hm
  subst e
  cases r3
  exact wpAny_truthy_bool ⟨H3, I3, q3⟩
/-- a op1 b op2 c -/
def tChain (r r' : R2) (ta tb tc : TE) : TE := fun σ H Q => ta σ H fun x H1 => tb σ H1 fun y H2 => r x y H2 fun z H3 => ∃ k, z = .bl k ∧
  (if k = true then tc σ H3 fun w' H4 => r' y w' H4 Q else Q (.bl false) H3)
theorem pe_chain {op op' : CmpOp} {r r' : R2} (ho : OpR X (compareOp op) r) (ho' : OpR X (compareOp op') r') (ha : PE X a ta) (hb : PE X b tb) (hc : PE X c tc)
    (hm : lastMarks [op, op'] [b, c] = false := by with_unfolding_all rfl) : PE X (.Compare a [op, op'] [b, c] pos) (tChain r r' ta tb tc) := by
  intro pins s σ H Q I h
  refine Compare_chain (thn (ha pins s σ H _ I h) fun v s1 ⟨x, H1, I1, r1, q1⟩ => chain_link (thn (hb pins s1 σ H1 _ I1 q1) fun u s2 ⟨y, H2, I2, r2, q2⟩ =>
    thn (ho pins s2 σ H2 x y v u _ I2 r1 r2 q2) fun d s3 ⟨z, H3, I3, r3, k, e, q3⟩ => ?_)) hm
  subst e
  cases r3
  refine wpAny_truthy_bool ?_
  cases k with
  | false => exact ite_ff ⟨.bl false, H3, I3, rfl, q3⟩
  | true => exact ite_tt (chain_last (thn (hc pins s3 σ H3 _ I3 q3) fun w' s4 ⟨z', H4, I4, r4, q4⟩ => ho' pins s4 σ H4 y z' u w' Q I4 r2 r4 q4))
theorem line63 : (sizeLine : Nat) < 2 ^ 63 := by rw [sizeLine_eq]; decide
theorem vals1 {x : V} {us : List Value} (r : Vals [x] us) : ∃ u, us = [u] ∧ RelV x u := by
  cases r with
  | cons r1 r2 => cases r2; exact ⟨_, rfl, r1⟩
theorem vals2 {x y : V} {us : List Value} (r : Vals [x, y] us) : ∃ u w', us = [u, w'] ∧ RelV x u ∧ RelV y w' := by
  cases r with
  | cons r1 r2 =>
    cases r2 with
    | cons r3 r4 => cases r4; exact ⟨_, _, rfl, r1, r3⟩
theorem call_max2 (hc : X.calm = true) : CallR X (.builtin "max") (fun xs H Q => ∃ i j, xs = [.int i, .int j] ∧ Q (.int (if j > i then j else i)) H) := by
  intro pins s σ H xs us Q I r h
  obtain ⟨i, j, rfl, q⟩ := h
  obtain ⟨u, w', rfl, ⟨t, rfl⟩, ⟨t', rfl⟩⟩ := vals2 r
  refine max_two_ints (I.ok.hd hc) fun h' tk k => ⟨_, H, I.kept k, ?_, q⟩
  by_cases hj : j > i
  · rw [if_pos hj, if_pos hj]; exact ⟨_, rfl⟩
  · rw [if_neg hj, if_neg hj]; exact ⟨_, rfl⟩
theorem call_ord : CallR X (.builtin "ord") (fun xs H Q => ∃ x, xs = [.str x] ∧ x.length = 1 ∧ Q (.int (x.cps.getD 0 0 : Nat)) H) := by
  intro pins s σ H xs us Q I r h
  obtain ⟨x, rfl, hz, q⟩ := h
  obtain ⟨u, rfl, t, rfl⟩ := vals1 r
  exact ord_of_one hz ⟨.int _, H, I.tok _, ⟨_, rfl⟩, q⟩
end
end L2
namespace L2
open PySem PySem.Spec PyProof.Rows
section
variable {prog : Program} {w : World} {A : Around} {E : Value → Shared → Prop} {s : Shared} {K : PySem.W.Frag} {x dx C f : Addr} {mA : Str → Option Value} {name : Str} {v : Value}
end
section
variable {P : Program} {w : World} {H H' : Hp} {h h' : Heap} {a C dx : Addr} {fs fs' : List (Str × V)}
end
section
variable {X : Cx} {pins : List (Addr × Obj)} {σ : St} {H : Hp} {s : Shared} {a C dx : Addr} {fs : List (Str × V)} {f : Str} {v : V} {A : Around} {E : Value → Shared → Prop}
end
section
variable {X : Cx} {o e value : Expr} {f : Str} {pos pos' tpos : Pos} {ta tv : TE}
end
section
variable {X : Cx} {pins : List (Addr × Obj)} {σ : St} {H : Hp} {s : Shared} {A : Around} {E : Value → Shared → Prop} {Q : Value → Shared → Prop} {c : Value} {b : Bool}
end
end L2
namespace L2
open PySem PySem.Spec PyProof.Rows
structure Room (k : Nat) (A : Around) : Prop where
  hd : A.handled = none
  dp : A.depth + 3 * k + 5 < recursionLimit
  un : A.units + 16 * k + 200 < cLine
theorem Room.mono {j k : Nat} {A : Around} (r : Room k A) (h : j ≤ k) : Room j A := ⟨r.hd, by have := r.dp; omega, by have := r.un; omega⟩
theorem Room.deeper {k : Nat} {A : Around} (r : Room (k + 1) A) (env : Env) : Room k (A.deeper env) :=
  ⟨r.hd, by have := r.dp; show A.depth + 1 + 3 * k + 5 < _; omega, by have := r.un; show A.units + 3 + 16 * k + 200 < _; omega⟩
theorem Room.depth {k : Nat} {A : Around} (r : Room k A) : A.depth < recursionLimit := by have := r.dp; omega
theorem Room.units {k : Nat} {A : Around} (r : Room k A) : A.units + 64 < cLine := by have := r.un; omega
def tNil : TA := fun _ H Q => Q [] H
def tCons (ta : TE) (tr : TA) : TA := fun σ H Q => ta σ H fun x H1 => tr σ H1 fun xs H2 => Q (x :: xs) H2
section
variable {X : Cx} {e : Expr} {es : List Expr} {te : TE} {t : TA} {pos : Pos}
theorem pa_nil : PA X [] tNil := fun _ _ _ _ H Q I h => Calls.spliced_nil ⟨[], H, I, .nil, h⟩
theorem pa_cons (ha : PE X e te) (hr : PA X es t) (hs : starEach (e :: es) X.env = (false, eval e X.env) :: starEach es X.env := by rfl) : PA X (e :: es) (tCons te t) := by
  intro pos pins s σ H Q I h
  rw [hs]
  show wpAny _ _ (spliced ((false, eval e X.env) :: backTo pos (starEach es X.env))) _ _ s
  refine Calls.spliced_cons (thn (ha pins s σ H _ I h) fun u s1 ⟨x, H1, I1, r1, q1⟩ => ?_)
  exact thn (hr pos pins s1 σ H1 _ I1 q1) fun us s2 ⟨xs, H2, I2, r2, q2⟩ => ⟨x :: xs, H2, I2, .cons r1 r2, q2⟩
/-- a tuple, a list of written items -/
def tTup (t : TA) : TE := fun σ H Q => t σ H fun xs H1 => xs.length ≤ sizeLine ∧ ∀ p, H1 p = none → Q (.ref p) (upd H1 p (.tup xs))
def tLst (t : TA) : TE := fun σ H Q => t σ H fun xs H1 => xs.length ≤ sizeLine ∧ ∀ p, H1 p = none → Q (.ref p) (upd H1 p (.lst xs))
theorem pe_tup {x1} (h : PA X es t) : PE X (.Tuple es x1 pos) (tTup t) := by
  intro pins s σ H Q I hq
  refine wpAny_Tuple_spliced (thn (h pos pins s σ H _ I hq) fun us s1 ⟨xs, H1, I1, r, z, q⟩ => ⟨by rw [← r.length]; exact z, ?_⟩)
  have hf : H1 s1.heap.objs.size = none := I1.hok.fresh (Nat.le_refl _)
  refine ⟨.ref s1.heap.objs.size, upd H1 s1.heap.objs.size (.tup xs), I1.laid (t' := s1.toks) (fun b u e => Heap.get?_push_of_some _ e) (Nat.le_refl _) ?_, rfl, q _ hf⟩
  exact ⟨z, us, r, ⟨_, Heap.get?_push_size _ rfl, rfl, _, rfl⟩⟩
theorem pe_lst (h : PA X es t) : PE X (.List es pos) (tLst t) := by
  intro pins s σ H Q I hq
  refine wpAny_List_spliced (thn (h pos pins s σ H _ I hq) fun us s1 ⟨xs, H1, I1, r, z, q⟩ => ⟨by rw [← r.length]; exact z, ?_⟩)
  have hf : H1 s1.heap.objs.size = none := I1.hok.fresh (Nat.le_refl _)
  refine ⟨.ref s1.heap.objs.size, upd H1 s1.heap.objs.size (.lst xs), I1.laid (t' := s1.toks) (fun b u e => Heap.get?_push_of_some _ e) (Nat.le_refl _) ?_, rfl, q _ hf⟩
  exact ⟨z, us, 0, r, Heap.get?_push_size _ rfl⟩
end
/-- a def's promise: the bound arguments in the parameters' order, the heap, the wanted end, the wanted exception -/
abbrev Sp := List V → Hp → VK → XK → Prop
/-- how an exception lies behind a call (file 08 gives it): the callers' frames, abstract heap and state ahead of the call, the wish, the exception, the state -/
abbrev CXT := List Env → Hp → Shared → XK → Value → Shared → Prop
/-- the state at a call -/
structure Env0 (P : Program) (w : World) (K : PySem.W.Frag) (mg : Str → Option Value) (base : Heap) (A : Around) (outer : List Env) (s : Shared) (H : Hp) : Prop where
  frames : A.frames = some outer
  mod : Mod K mg base
  bs : ∀ b o, base.get? b = some o → s.heap.get? b = some o ∧ H b = none
  bsz : base.objs.size ≤ s.heap.objs.size
  funs : s.heap.FunFrames base outer
  frf : ∀ b ∈ frs outer, H b = none
  hok : HOk P w H s.heap
  bare : AllBare s.gens
/-- a call's end -/
def CE (outer : List Env) (P : Program) (w : World) (H : Hp) (s : Shared) (Q : VK) (u : Value) (s' : Shared) : Prop :=
  ∃ v H', s'.os = s.os ∧ AllBare s'.gens ∧ Un (frs outer) [] H H' s.heap s'.heap ∧ HOk P w H' s'.heap ∧ RelV v u ∧ Q v H'
def CR (CX : CXT) (outer : List Env) (P : Program) (w : World) (H : Hp) (s : Shared) (Q : VK) (E : XK) (r : Result) (s' : Shared) : Prop :=
  match r with
  | .ok (.ret u) => CE outer P w H s Q u s'
  | .ok _ => False
  | .error e => CX outer H s E e s'
structure FnOk (P : Program) (w : World) (K : PySem.W.Frag) (mg : Str → Option Value) (base : Heap) (CX : CXT) (k : Nat) (f : Addr) (fd : FuncData) (ps : List Str) (sp : Sp) : Prop where
  len : ∀ vs H Q E, sp vs H Q E → vs.length = ps.length
  run : ∀ (A : Around) (outer : List Env) (s : Shared) (H : Hp) (args : Args) (us : List Value) (vs : List V) (Q : VK) (E : XK), Room k A → Env0 P w K mg base A outer s H → BindsTo s fd args (ps.zip us) → Vals vs us → sp vs H Q E →
    codeAny (model P w) A (.call (.ref f) args) (CR CX outer P w H s Q E) s
section
variable {X : Cx} {pins : List (Addr × Obj)} {σ : St} {H : Hp} {s s' : Shared}
/-- from a body: what a callee wants -/
theorem Inv.env0 (I : Inv X pins σ H s) : Env0 X.prog X.w X.K X.mg X.base X.A X.stack s H :=
  ⟨I.ok.frames, I.ok.mod, I.bs, Nat.le_trans I.ok.bsz I.sz, I.stack, I.stkFree, I.hok, I.bare⟩
/-- behind a call -/
theorem Inv.after {Q : VK} {u : Value} (I : Inv X pins σ H s) (h : CE X.stack X.prog X.w H s Q u s') : EP X pins σ Q u s' := by
  obtain ⟨v, H', os, bare, un, hok, r, q⟩ := h
  obtain ⟨hh, g, d, t, os'⟩ := s'
  obtain rfl : os' = s.os := os
  exact ⟨v, H', I.call (h' := hh) (g' := g) (d' := d) (t' := t) (ch := []) un hok bare (fun b z => absurd z (by simp)), r, q⟩
end
/-- f(..): the written arguments, then the defaults dvs; E: what is wanted of an exception -/
def tCall (sp : Sp) (dvs : List V) (E : XK) (t : TA) : TE := fun σ H Q => t σ H fun vs H1 => sp (vs ++ dvs) H1 Q E
/-- how the parameters are bound: us the positional arguments, kw the keywords' values by name, ds the defaults that fill up -/
def Binds (K : PySem.W.Frag) (fd : FuncData) (ps : List Str) (ds : List Value) : Prop :=
  ∀ (s : Shared) (us : List Value), K.In s.heap → (us ++ ds).length = ps.length → BindsTo s fd ⟨us, []⟩ (ps.zip (us ++ ds))
/-- every parameter is given -/
theorem Binds.all {K : PySem.W.Frag} {fd : FuncData} {ps : List Str} (h : ∀ us : List Value, us.length = ps.length → bindArgs fd ⟨us, []⟩ = pure (ps.zip us)) : Binds K fd ps [] := fun s us _ hl => by
  rw [List.append_nil] at hl ⊢
  exact .of_eq (h us hl)
/-- an exception of a callee reaches what this body wants of exceptions -/
def Passes (CX : CXT) (X : Cx) (E : XK) : Prop := ∀ (pins : List (Addr × Obj)) (σ : St) (H : Hp) (s : Shared) (e : Value) (s' : Shared), Inv X pins σ H s → CX X.stack H s E e s' → X.xe e s'
section
variable {X : Cx} {CX : CXT} {k : Nat} {f C : Addr} {fd : FuncData} {ps : List Str} {sp : Sp} {dvs : List V} {ds : List Value} {E : XK} {x m : Str} {p pos apos : Pos} {e o : Expr} {es : List Expr} {ta : TE} {t : TA}
/-- the callee runs -/
theorem run_fn {pins : List (Addr × Obj)} {σ : St} {H : Hp} {s : Shared} {Q : VK} {us : List Value} {vs : List V} (F : FnOk X.prog X.w X.K X.mg X.base CX k f fd ps sp) (hr : Room k X.A) (hb : Binds X.K fd ps ds) (hd : Vals dvs ds) (hx : Passes CX X E)
    (I : Inv X pins σ H s) (r : Vals vs us) (h : sp (vs ++ dvs) H Q E) : wpAny (model X.prog X.w) X.A (call (.ref f) us) (EP X pins σ Q) X.xe s := by
  have r2 : Vals (vs ++ dvs) (us ++ ds) := r.append hd
  have hl : (us ++ ds).length = ps.length := by rw [← r2.length]; exact F.len _ _ _ _ h
  refine wpAny_call (codeAny_mono (F.run X.A X.stack s H ⟨us, []⟩ (us ++ ds) (vs ++ dvs) Q E hr I.env0 (hb s us I.kIn hl) r2 h) fun r s' hq => ?_)
  cases r with
  | error e => exact hx pins σ H s e s' I hq
  | ok fl =>
    cases fl with
    | ret u => exact I.after hq
    | next => exact False.elim hq
    | brk => exact False.elim hq
    | cont => exact False.elim hq
theorem pe_call (F : FnOk X.prog X.w X.K X.mg X.base CX k f fd ps sp) (hr : Room k X.A) (hg : Gl X x) (hm : X.mg x = some (.ref f)) (hk : PySem.W.keepIn X.K (.ref f) = true) (hb : Binds X.K fd ps ds) (hd : Vals dvs ds) (hx : Passes CX X E)
    (ha : PA X (e :: es) t) (hdb : (x == ("__debug__" : Str)) = false := by decide) (he : starEach (e :: es) X.env = (false, eval e X.env) :: starEach es X.env := by rfl) (hpl : (backTo pos (starEach es X.env)).any (·.1) = false := by rfl) :
    PE X (.Call (.Name x p) (e :: es) [] pos) (tCall sp dvs E t) := by
  intro pins s σ H Q I h
  refine wpAny_Call_Name_kw (ld_glob I hg hm ?_ hdb)
  refine PySem.W.callWith_K (h₀ := X.base) I.ok.mod.kin hk (thn (ha pos pins s σ H _ I h) fun us s1 ⟨vs, H1, I1, r, q⟩ => ⟨I1.kIn, ?_⟩) he hpl
  exact run_fn F hr hb hd hx I1 r q
end
section
variable {X : Cx} {CX : CXT} {k : Nat} {f C : Addr} {fd : FuncData} {ps ks : List Str} {sp : Sp} {E : XK} {x m : Str} {p pos apos kpos : Pos} {e o : Expr} {es : List Expr} {kws : List Keyword} {te ta : TE} {t tk : TA} {nm : Option Str}
variable {g : List Value → List Value → List Value} {gV : List V → List V → List V}
end
/-- names: the parameters first -/
structure FnScope (N P : List Str) (sc : Scope) : Prop where
  kind : sc.kind = .function
  co : sc.isCoroutine = false
  gen : sc.isGenerator = false
  nd : N.Nodup
  pre : N.take P.length = P
  par : ∀ x ∈ P, sc.names.lookup x = some .local ∨ sc.names.lookup x = some .cell
  nofree : ∀ y ∈ sc.names, y.2 ≠ .free
theorem bindL_out {kindOf : Str → Option NameKind} {x : Str} : ∀ {binds : List (Str × Value)} {m : Str → Option Value}, (∀ v, (x, v) ∉ binds) → bindL kindOf binds m x = m x
  | [], _, _ => rfl
  | (n, v) :: r, m, h => by
    unfold bindL
    rw [bindL_out fun w hw => h w (List.mem_cons_of_mem _ hw)]
    split
    · have : x ≠ n := by rintro rfl; exact h v List.mem_cons_self
      simp [this]
    · rfl
theorem bindC_out {kindOf : Str → Option NameKind} {x : Str} : ∀ {binds : List (Str × Value)} {m : Str → Option Value}, (∀ v, (x, v) ∉ binds) → bindC kindOf binds m x = m x
  | [], _, _ => rfl
  | (n, v) :: r, m, h => by
    unfold bindC
    rw [bindC_out fun w hw => h w (List.mem_cons_of_mem _ hw)]
    split
    · rfl
    · have : x ≠ n := by rintro rfl; exact h v List.mem_cons_self
      simp [this]
theorem bindL_get {kindOf : Str → Option NameKind} {x : Str} {v : Value} : ∀ {P : List Str} {vs : List Value} {i : Nat} {m : Str → Option Value}, P.Nodup → P[i]? = some x → vs[i]? = some v → kindOf x = some .local →
    bindL kindOf (P.zip vs) m x = some v
  | [], _, _, _, _, h, _, _ => by simp at h
  | _ :: _, [], _, _, _, _, h, _ => by simp at h
  | p :: P, w :: vs, 0, m, nd, h1, h2, hk => by
    simp at h1 h2; subst h1; subst h2
    show bindL kindOf ((p, w) :: P.zip vs) m p = _
    unfold bindL
    rw [bindL_out fun v hv => (List.nodup_cons.mp nd).1 (List.of_mem_zip hv).1, if_pos hk]
    simp
  | p :: P, w :: vs, i + 1, m, nd, h1, h2, hk => by
    show bindL kindOf ((p, w) :: P.zip vs) m x = _
    unfold bindL
    exact bindL_get (i := i) (List.nodup_cons.mp nd).2 (by simpa using h1) (by simpa using h2) hk
theorem bindC_get {kindOf : Str → Option NameKind} {x : Str} {v : Value} : ∀ {P : List Str} {vs : List Value} {i : Nat} {m : Str → Option Value}, P.Nodup → P[i]? = some x → vs[i]? = some v → kindOf x ≠ some .local →
    bindC kindOf (P.zip vs) m x = some v
  | [], _, _, _, _, h, _, _ => by simp at h
  | _ :: _, [], _, _, _, _, h, _ => by simp at h
  | p :: P, w :: vs, 0, m, nd, h1, h2, hk => by
    simp at h1 h2; subst h1; subst h2
    show bindC kindOf ((p, w) :: P.zip vs) m p = _
    unfold bindC
    rw [bindC_out fun v hv => (List.nodup_cons.mp nd).1 (List.of_mem_zip hv).1, if_neg hk]
    simp
  | p :: P, w :: vs, i + 1, m, nd, h1, h2, hk => by
    show bindC kindOf ((p, w) :: P.zip vs) m x = _
    unfold bindC
    exact bindC_get (i := i) (List.nodup_cons.mp nd).2 (by simpa using h1) (by simpa using h2) hk
/-- the names' values at the entry -/
def start (N : List Str) (vs : List V) : St := vs.map some ++ List.replicate (N.length - vs.length) none
/-- the context of a def's body, at its entry; an exception leaves the frame, then lies as CX says -/
def cxOf (CX : CXT) (P : Program) (w : World) (K : PySem.W.Frag) (mg : Str → Option Value) (base : Heap) (N : List Str) (qual : Str) (scope : Scope) (f : Addr) (cd : Value) (A : Around) (outer : List Env) (s : Shared) (H : Hp) (E : XK) : Cx where
  prog := P
  w := w
  K := K
  mg := mg
  base := base
  A := A.deeper (envOfC qual scope s.heap.objs.size f cd)
  N := N
  s_0 := s
  H_0 := H
  env := envOfC qual scope s.heap.objs.size f cd
  outer := outer
  stack := envOfC qual scope s.heap.objs.size f cd :: outer
  ex := []
  calm := true
  fn := fun _ => true
  pn := []
  xe := fun e s' => wpAny (model P w) (A.deeper (envOfC qual scope s.heap.objs.size f cd)) (leaving (envOfC qual scope s.heap.objs.size f cd) e) (fun _ s'' => CX outer H s E e s'') (fun e' s'' => CX outer H s E e' s'') s'
theorem cell_has {sc : Scope} {n : Nat} {x : Str} (h : sc.names.lookup x = some .cell) : ∃ c, (cellsFrom n sc.names []).lookup x = some c := by
  have q := PySem.W.cellsFrom_some sc.names n [] (.inl h)
  exact Option.isSome_iff_exists.mp q
theorem inv_start {CX : CXT} {P : Program} {w : World} {K : PySem.W.Frag} {mg : Str → Option Value} {base : Heap} {N ps : List Str} {qual : Str} {scope : Scope} {f : Addr} {cd : Value} {A : Around} {outer : List Env} {s s1 : Shared} {H : Hp} {E : XK} {us : List Value} {vs : List V}
    (S : FnScope N ps scope) (hd : A.handled = none) (e0 : Env0 P w K mg base A outer s H) (hl : vs.length = ps.length) (r : Vals vs us)
    (x : InCallC s s.heap.objs.size (bindL (envOfC qual scope s.heap.objs.size f cd).kindOf (ps.zip us) fun _ => none) (cellsFrom (s.heap.objs.size + 1) scope.names []) (bindC (envOfC qual scope s.heap.objs.size f cd).kindOf (ps.zip us) fun _ => none) s1) :
    Inv (cxOf CX P w K mg base N qual scope f cd A outer s H E) [] (start N vs) H s1 := by
  have hpl : ps.length ≤ N.length := by have := congrArg List.length S.pre; rw [List.length_take] at this; omega
  obtain ⟨h1, tk, rfl, hk⟩ := x.done
  have noA : ∀ b : Addr, b ∉ (cxOf CX P w K mg base N qual scope f cd A outer s H E).ex := fun b z => absurd (show b ∈ ([] : List Addr) from z) (by simp)
  refine ⟨⟨e0.mod, S.kind, rfl, rfl, Nat.le_refl _, fun y z c h1 h2 => ?_, fun y hy => ?_, fun y c _ h => ?_, fun _ => hd, Around.frames_deeper e0.frames, .inr ⟨rfl, rfl⟩, fun b z => absurd z (noA b), e0.bs, e0.bsz, fun b _ _ => noA b, fun b z => absurd z (noA b), e0.funs, e0.frf⟩,
    rfl, e0.bare, Un.kept hk, ⟨_, x.toInCall.ns, fun i y v h1 h2 h3 => ?_⟩, fun y c h => ⟨_, x.cell y c h⟩, e0.hok.fresh (Nat.le_refl _), fun y c h => ?_, fun p hp => absurd (show p ∈ ([] : List (Addr × Obj)) from hp) (by simp), e0.hok.kept hk, ?_⟩
  · exact name_of_addr x.apart (PySem.mem_of_lookup h1) (PySem.mem_of_lookup h2)
  · have hy : scope.names.lookup y = some .cell ∨ scope.names.lookup y = some .free := hy
    rcases hy with hy | hy
    · exact cell_has hy
    · exact absurd rfl (S.nofree _ (PySem.mem_of_lookup hy))
  · exact Nat.le_of_lt (x.above y c (PySem.mem_of_lookup h))
  · have hi : i < vs.length := by
      unfold start at h2
      by_cases hi : i < vs.length
      · exact hi
      · rw [List.getElem?_append_right (by simpa using hi)] at h2
        rw [List.getElem?_replicate] at h2
        split at h2 <;> cases h2
    have ha : vs[i]? = some v := by
      unfold start at h2
      rw [List.getElem?_append_left (by simpa using hi), List.getElem?_map] at h2
      cases e : vs[i]? with
      | none => rw [e] at h2; cases h2
      | some a => rw [e] at h2; cases h2; rfl
    obtain ⟨u, hu, rv⟩ := r.get ha
    have hp : ps[i]? = some y := by
      rw [← S.pre, List.getElem?_take_of_lt (by omega)]; exact h1
    have ndP : ps.Nodup := by rw [← S.pre]; exact S.nd.sublist (List.take_sublist _ _)
    refine ⟨u, rv, ?_⟩
    rcases S.par y (List.mem_of_getElem? hp) with k | k
    · exact .inl ⟨k, bindL_get ndP hp hu k⟩
    · obtain ⟨c, e⟩ := cell_has (n := s.heap.objs.size + 1) k
      refine .inr ⟨.inl k, c, e, ?_⟩
      have q := x.cell y c e
      rw [bindC_get ndP hp hu (by show scope.names.lookup y ≠ _; rw [k]; decide)] at q
      exact q
  · exact e0.hok.fresh (Nat.le_of_lt (x.above y c (PySem.mem_of_lookup h)))
  · unfold start
    show _ = N.length
    rw [List.length_append, List.length_map, List.length_replicate]
    omega
/-- THE RULE: a def (or a method) of the text, by its body. The body's reading t is chosen for each entry; it is run at the parameters' values -/
theorem fn_of {CX : CXT} {P : Program} {w : World} {K : PySem.W.Frag} {mg : Str → Option Value} {base : Heap} {k : Nat} {f : Addr} {name qual : Str} {params : Arguments} {body : List Stmt} {scope : Scope} {dV kV doc pm cdv ct oc : Value} {an od : Option Addr}
    {osl : Array (Option Value)} {N ps : List Str} {sp : Sp} (lk : K.lookup f = some ⟨oc, od, .func (PySem.W.fnOf name qual params body scope dV kV doc pm an cdv ct), osl⟩) (hcd : PySem.W.codeIn K cdv qual = true) (S : FnScope N ps scope)
    (len : ∀ vs H Q E, sp vs H Q E → vs.length = ps.length)
    (hbody : ∀ (A : Around) (outer : List Env) (s : Shared) (H : Hp) (vs : List V) (Q : VK) (E : XK), Room k (A.deeper (envOfC qual scope s.heap.objs.size f cdv)) → sp vs H Q E →
      ∃ t, PSs (cxOf CX P w K mg base N qual scope f cdv A outer s H E) body t ∧ t { nx := fun _ H' => Q .non H', rt := Q } (start N vs) H) :
    FnOk P w K mg base CX (k + 1) f (PySem.W.fnOf name qual params body scope dV kV doc pm an cdv ct) ps sp := by
  refine ⟨len, fun A outer s H args us vs Q E hr e0 hb r hsp => ?_⟩
  have hl := len _ _ _ _ hsp
  have KX : K.In s.heap := e0.mod.kin.keeps fun b o e => (e0.bs b o e).1
  have lim : s.heap.NoLimit := e0.mod.nolimit.keeps fun b o e => (e0.bs b o e).1
  have hkind : ∀ y ∈ ps.zip us, scope.names.lookup y.1 = some .local ∨ (scope.names.lookup y.1 = some .cell ∧ ((cellsFrom (s.heap.objs.size + 1) scope.names []).lookup y.1).isSome = true) := fun ⟨n, v⟩ hy => by
    rcases S.par n (List.of_mem_zip hy).1 with q | q
    · exact .inl q
    · exact .inr ⟨q, PySem.W.cellsFrom_some _ _ _ (.inl q)⟩
  refine codeAny_call_function hr.depth (KX _ _ lk) rfl S.co S.gen rfl (PySem.W.codeRec_of KX hcd) (hb _ _ _ _ ?_)
  refine wpAny_newFunctionEnv_cells S.kind hkind fun env he s1 x => ?_
  subst he
  refine ⟨lim.keeps x.toInCall.keep, codeAny_func ?_⟩
  obtain ⟨t, ht, hq⟩ := hbody A outer s H vs Q E (hr.deeper _) hsp
  have I : Inv (cxOf CX P w K mg base N qual scope f cdv A outer s H E) [] (start N vs) H s1 := inv_start S hr.hd e0 hl r x
  refine wpAny_mono (ht [] s1 (start N vs) H _ I hq) (fun fl s' hs => ?_) fun e s' hs => hs
  have fin : ∀ {σ' : St} {H' : Hp} {v : V} {u : Value}, Inv (cxOf CX P w K mg base N qual scope f cdv A outer s H E) [] σ' H' s' → RelV v u → Q v H' → CE outer P w H s Q u s' :=
    fun {σ' H' v u} J rv q => ⟨v, H', J.os, J.bare, J.base, J.hok, rv, q⟩
  cases fl with
  | ret u =>
    obtain ⟨v, σ', H', J, rv, q⟩ := hs
    exact fin J rv q
  | next =>
    obtain ⟨σ', H', J, q⟩ := hs
    exact fin (v := V.non) (u := Value.none) J rfl q
  | brk =>
    obtain ⟨_, _, _, q⟩ := hs
    exact False.elim q
  | cont =>
    obtain ⟨_, _, _, q⟩ := hs
    exact False.elim q
end L2
namespace L2
open PySem PySem.Spec PyProof.Rows
section
variable {X : Cx} {x : Str} {p pos : Pos} {e : Expr} {es : List Expr} {t : TA} {id T : String} {r : List V → Hp → VK → Prop}
def tCB (r : List V → Hp → VK → Prop) (t : TA) : TE := fun σ H Q => t σ H fun vs H1 => r vs H1 Q
/-- f(e, ..), f a built-in function -/
theorem pe_callB (hc : CallR X (.builtin id) r) (hg : Gl X x) (hm : X.mg x = none) (hv : bootBuiltins x = some (.builtin id)) (ha : PA X (e :: es) t) (hn : x ≠ "__name__" := by decide) (hdb : (x == ("__debug__" : Str)) = false := by decide)
    (he : starEach (e :: es) X.env = (false, eval e X.env) :: starEach es X.env := by rfl) (hpl : (backTo pos (starEach es X.env)).any (·.1) = false := by rfl) : PE X (.Call (.Name x p) (e :: es) [] pos) (tCB r t) := by
  intro pins s σ H Q I h
  refine wpAny_Call_Name_kw (ld_blt I hg hm hv ?_ hn hdb)
  exact PyProof.Rows.callWith_builtin1 (thn (ha pos pins s σ H _ I h) fun us s1 ⟨vs, H1, I1, r1, q1⟩ => hc pins s1 σ H1 vs us Q I1 r1 q1) he hpl
/-- T(e, ..), T a built-in type -/
theorem pe_callTy (hc : CallR X (.type T) r) (hg : Gl X x) (hm : X.mg x = none) (hv : bootBuiltins x = some (.type T)) (ha : PA X (e :: es) t) (hn : x ≠ "__name__" := by decide) (hdb : (x == ("__debug__" : Str)) = false := by decide)
    (he : starEach (e :: es) X.env = (false, eval e X.env) :: starEach es X.env := by rfl) (hpl : (backTo pos (starEach es X.env)).any (·.1) = false := by rfl) : PE X (.Call (.Name x p) (e :: es) [] pos) (tCB r t) := by
  intro pins s σ H Q I h
  refine wpAny_Call_Name_kw (ld_blt I hg hm hv ?_ hn hdb)
  exact PyProof.Rows.callWith_type1 (thn (ha pos pins s σ H _ I h) fun us s1 ⟨vs, H1, I1, r1, q1⟩ => hc pins s1 σ H1 vs us Q I1 r1 q1) he hpl
end
end L2
namespace HT
open PySem PyProof.Rows
section
open PySem.SeqAt
open PySem.AutoSeq1 (wpAny_loadPart')
open PySem.MeetsSeq PySem.MeetsSeq2 PySem.MeetsSeq3
end
section
variable {prog : Program} {w : World} {A : Around} {E : Value → Shared → Prop} {s : Shared}
/-- a slice's bound as a place among n (d where it is left out) -/
def sIx (n d : Nat) : Option Int → Nat
  | none => d
  | some v => if v < 0 then (v + (n : Int)).toNat else min v.toNat n
theorem sIx_none (n d : Nat) : sIx n d none = d := rfl
theorem sIx_nat (n d k : Nat) : sIx n d (some (k : Int)) = min k n := by
  show (if (k : Int) < 0 then ((k : Int) + (n : Int)).toNat else min (k : Int).toNat n) = min k n
  rw [if_neg (by omega), Int.toNat_natCast]
end
end HT
namespace L2
open PySem PySem.Spec PyProof.Rows
abbrev TO := St → Hp → (Option Int → Hp → Prop) → Prop
/-- a slice's part (left out, or an int) -/
def PO (X : Cx) (e : Option Expr) (t : TO) : Prop :=
  ∀ (pins : List (Addr × Obj)) (s : Shared) (σ : St) (H : Hp) (Q : Option Int → Hp → Prop), Inv X pins σ H s → t σ H Q →
    wpAny (model X.prog X.w) X.A (evalPart e X.env) (fun u s' => ∃ o H', Inv X pins σ H' s' ∧ IsPart u o ∧ Q o H') X.xe s
def tNoPart : TO := fun _ H Q => Q none H
def tPart (t : TE) : TO := fun σ H Q => t σ H fun x H1 => ∃ i, x = .int i ∧ Q (some i) H1
section
variable {X : Cx} {e : Expr} {te : TE} {lo hi : Option Expr} {tl th : TO} {pos p2 : Pos}
theorem po_none : PO X none tNoPart := by
  intro pins s σ H Q I h
  rw [evalPart_none]
  exact wpAny_pure ⟨none, H, I, .none, h⟩
theorem po_some (h : PE X e te) : PO X (some e) (tPart te) := by
  intro pins s σ H Q I hw
  rw [evalPart_some]
  refine thn (h pins s σ H _ I hw) fun u s1 ⟨x, H1, I1, r1, q1⟩ => ?_
  obtain ⟨i, rfl, q⟩ := q1
  obtain ⟨t, rfl⟩ := r1
  exact ⟨some i, H1, I1, .int i t, q⟩
/-- what a slice of a value is, by values: the slice object stands at sl -/
def SlR (X : Cx) (r : V → Option Int → Option Int → Hp → VK → Prop) : Prop :=
  ∀ (pins : List (Addr × Obj)) (s : Shared) (σ : St) (H : Hp) (x : V) (v vl vu : Value) (lo hi : Option Int) (sl : Addr) (Q : VK), Inv X pins σ H s → RelV x v → s.heap.IsSliceOf sl vl vu .none → IsPart vl lo → IsPart vu hi → r x lo hi H Q →
    ∃ T id, typeLookup (.type T) "__getitem__" = pure (some (.builtin id)) ∧ s.TypeIs v T ∧ wpAny (model X.prog X.w) X.A (getItem v (.ref sl)) (EP X pins σ Q) X.xe s
def tSl (r : V → Option Int → Option Int → Hp → VK → Prop) (te : TE) (tl th : TO) : TE := fun σ H Q => te σ H fun x H1 => tl σ H1 fun l H2 => th σ H2 fun u H3 => r x l u H3 Q
/-- a[lo:hi], any a -/
theorem pe_slice {r : V → Option Int → Option Int → Hp → VK → Prop} (hr : SlR X r) (he : PE X e te) (hl : PO X lo tl) (hu : PO X hi th) : PE X (.Subscript e (.Slice lo hi none p2) pos) (tSl r te tl th) := by
  intro pins s σ H Q I h
  refine Subscript_ (thn (he pins s σ H _ I h) fun v s1 ⟨x, H1, I1, r1, q1⟩ => ?_)
  refine wpAny_Slice (thn (hl pins s1 σ H1 _ I1 q1) fun vl s2 ⟨l, H2, I2, pl, q2⟩ => thn (hu pins s2 σ H2 _ I2 q2) fun vu s3 ⟨u, H3, I3, pu, q3⟩ => ?_)
  rw [evalPart_none]
  refine wpAny_pure ?_
  have I4 : Inv X pins σ H3 { s3 with heap := s3.heap.push { cls := .type "slice", data := .fields #[vl, vu, .none] } } := I3.kept (t' := s3.toks) fun b ob q => Heap.get?_push_of_some _ q
  obtain ⟨T, id, hT, ht, hg⟩ := hr pins { s3 with heap := s3.heap.push { cls := .type "slice", data := .fields #[vl, vu, .none] } } σ H3 x v vl vu l u s3.heap.objs.size Q I4 r1 (Heap.IsSliceOf.new ..) pl pu q3
  show wpAny (model X.prog X.w) X.A (subscriptTail e (.Slice lo hi none p2) v (.ref s3.heap.objs.size)) (EP X pins σ Q) X.xe { s3 with heap := s3.heap.push { cls := .type "slice", data := .fields #[vl, vu, .none] } }
  exact tail_any (ops := [.ref s3.heap.objs.size, v]) ht hT hg (by with_unfolding_all rfl)
/-- the items of xs[lo:hi] -/
def cutV (xs : List V) (lo hi : Option Int) : List V := (xs.drop (HT.sIx xs.length 0 lo)).take (HT.sIx xs.length xs.length hi - HT.sIx xs.length 0 lo)
theorem cutV_length (xs : List V) (lo hi : Option Int) : (cutV xs lo hi).length ≤ xs.length := by
  unfold cutV
  rw [List.length_take, List.length_drop]
  omega
end
end L2
namespace L2
open PySem PySem.Spec PyProof.Rows
/-- the place that an index of any sign means -/
def ixN (n : Nat) (i : Int) : Option Nat := if 0 ≤ i then (if i < n then some i.toNat else none) else if -(n : Int) ≤ i then some (i + n).toNat else none
def atI {α : Type} (xs : List α) (i : Int) : Option α := (ixN xs.length i).bind fun j => xs[j]?
theorem ixN_seq {n : Nat} {i : Int} {j : Nat} (h : ixN n i = some j) : seqIndex? i n = some j ∧ j < n ∧ -(n : Int) ≤ i ∧ i < n := by
  unfold ixN at h
  by_cases h0 : 0 ≤ i
  · rw [if_pos h0] at h
    by_cases h1 : i < n
    · rw [if_pos h1] at h
      have e : i.toNat = j := Option.some.inj h
      exact ⟨by rw [seqIndex_of h0 h1, e], by omega, by omega, h1⟩
    · rw [if_neg h1] at h; cases h
  · rw [if_neg h0] at h
    by_cases h1 : -(n : Int) ≤ i
    · rw [if_pos h1] at h
      have e : (i + n).toNat = j := Option.some.inj h
      exact ⟨by rw [seqIndex_neg (by omega) h1, e], by omega, h1, by omega⟩
    · rw [if_neg h1] at h; cases h
theorem atI_get {α : Type} {xs : List α} {i : Int} {v : α} (h : atI xs i = some v) : ∃ j, seqIndex? i xs.length = some j ∧ xs[j]? = some v ∧ j < xs.length ∧ -(xs.length : Int) ≤ i ∧ i < xs.length := by
  unfold atI at h
  cases e : ixN xs.length i with
  | none => rw [e] at h; cases h
  | some j =>
    rw [e] at h
    obtain ⟨h1, h2, h3, h4⟩ := ixN_seq e
    exact ⟨j, h1, h, h2, h3, h4⟩
theorem atI_nat {α : Type} {xs : List α} {j : Nat} {v : α} (h : xs[j]? = some v) : atI xs (j : Int) = some v := by
  have hj : j < xs.length := (List.getElem?_eq_some_iff.mp h).1
  have e : ixN xs.length (j : Int) = some j := by
    unfold ixN
    rw [if_pos (by omega), if_pos (by omega)]; simp
  unfold atI; rw [e]; exact h
theorem atI_last {α : Type} (xs : List α) (v : α) : atI (xs ++ [v]) (-1) = some v := by
  have hl : (xs ++ [v]).length = xs.length + 1 := by simp
  have e : ixN (xs ++ [v]).length (-1) = some xs.length := by
    unfold ixN
    rw [hl, if_neg (by decide), if_pos (by omega)]
    congr 1
    omega
  unfold atI
  rw [e]
  show (xs ++ [v])[xs.length]? = some v
  simp
/-- what stands as an index of a plain subscript -/
def PlainIx (b : Expr) : Prop := ∀ o i, subscripted b false o i = operate [o, i] (getItem o i)
/-- a subscript by values -/
def IxR (X : Cx) (r : R2) : Prop :=
  ∀ (value slice : Expr) (pins : List (Addr × Obj)) (s : Shared) (σ : St) (H : Hp) (x y : V) (v u : Value) (Q : VK), Inv X pins σ H s → RelV x v → RelV y u → r x y H Q →
    subscripted slice false v u = operate [v, u] (getItem v u) → wpAny (model X.prog X.w) X.A (subscriptTail value slice v u) (EP X pins σ Q) X.xe s
/-- a call of a builtin's method by values: the receiver, the arguments -/
def MtR (X : Cx) (id : String) (r : V → List V → Hp → VK → Prop) : Prop :=
  ∀ (pins : List (Addr × Obj)) (s : Shared) (σ : St) (H : Hp) (x : V) (xs : List V) (v : Value) (us : List Value) (Q : VK), Inv X pins σ H s → RelV x v → Vals xs us → r x xs H Q →
    wpAny (model X.prog X.w) X.A (call (.builtin id) (v :: us)) (EP X pins σ Q) X.xe s
section
variable {X : Cx} {a b : Expr} {ta tb : TE} {pos : Pos}
/-- a[b] -/
theorem pe_ix {r : R2} (hr : IxR X r) (ha : PE X a ta) (hb : PE X b tb) (hs : PlainIx b) : PE X (.Subscript a b pos) (tOp r ta tb) := by
  intro pins s σ H Q I h
  exact Subscript_ (binT ha hb I h fun v u s2 x y H2 I2 rx ry q => hr a b pins s2 σ H2 x y v u Q I2 rx ry q (hs _ _))
def rIxL (K : PySem.W.Frag) : R2 := fun x y H Q => ∃ p xs i v, x = .ref p ∧ y = .int i ∧ SqL K H p xs ∧ atI xs i = some v ∧ Q v H
theorem ix_list : IxR X (rIxL X.K) := by
  intro value slice pins s σ H x y v u Q I rx ry h hs
  obtain ⟨p, xs, i, z, rfl, rfl, hq, he, q⟩ := h
  cases rx
  obtain ⟨t, rfl⟩ := ry
  obtain ⟨its, r, pl, hz⟩ := I.list hq
  obtain ⟨j, h1, h2, h3, h4, h5⟩ := atI_get he
  obtain ⟨w, ew, rw'⟩ := r.get h2
  have hl := r.length
  have hn := line63
  have fin : EP X pins σ Q w s := ⟨z, H, I, rw', q⟩
  by_cases h0 : 0 ≤ i
  · have hj : i.toNat = j := by
      rw [seqIndex_of h0 h5] at h1
      exact Option.some.inj h1
    exact item_listR pl.isList h0 (by omega) (by rw [hj]; simpa using ew) fin hs
  · have hj : (i + (its.toArray.size : Int)).toNat = j := by
      rw [seqIndex_neg (by omega) h4] at h1
      rw [List.size_toArray, ← hl]
      exact Option.some.inj h1
    exact subscriptTail_builtinR (x := w) pl.isList.typeIs slot_list_getitem.lookup
      (wpAny_getItem_list_neg (Q := fun r s' => r = w ∧ EP X pins σ Q r s') pl.isList (by omega) (by rw [List.size_toArray] <;> omega) (by omega) (by rw [hj]; simpa using ew) ⟨rfl, fin⟩) hs
theorem slice_bounds (lo hi : Option Int) (n : Nat) : (sliceBounds lo hi none n).1 = ((HT.sIx n 0 lo : Nat) : Int) ∧ (sliceBounds lo hi none n).2.1 = ((HT.sIx n n hi : Nat) : Int) ∧ (sliceBounds lo hi none n).2.2 = 1 := by
  refine ⟨?_, ?_, rfl⟩
  · cases lo with
    | none => simp [sliceBounds, HT.sIx]
    | some i =>
      simp only [sliceBounds, HT.sIx, Option.getD_none, show (1 : Int) > 0 by decide, if_true]
      by_cases h : i < 0
      · simp only [h, if_true] <;> omega
      · simp only [h, if_false] <;> omega
  · cases hi with
    | none => simp [sliceBounds, HT.sIx]
    | some i =>
      simp only [sliceBounds, HT.sIx, Option.getD_none, show (1 : Int) > 0 by decide, if_true]
      by_cases h : i < 0
      · simp only [h, if_true] <;> omega
      · simp only [h, if_false] <;> omega
theorem slicePick_cut (its : List Value) (lo hi : Option Int) : slicePick its.toArray lo hi none = ((its.drop (HT.sIx its.length 0 lo)).take (HT.sIx its.length its.length hi - HT.sIx its.length 0 lo)).toArray := by
  obtain ⟨h1, h2, h3⟩ := slice_bounds lo hi its.toArray.size
  unfold slicePick
  rw [h1, h2, h3]
  simp only [sliceRange_one, pick_run, List.size_toArray] <;> rfl
/-- xs[lo:hi] of a list: a new list -/
def rSlL (K : PySem.W.Frag) : V → Option Int → Option Int → Hp → VK → Prop := fun x lo hi H Q => ∃ a xs, x = .ref a ∧ SqL K H a xs ∧ ∀ p, H p = none → Q (.ref p) (upd H p (.lst (cutV xs lo hi)))
theorem sl_list : SlR X (rSlL X.K) := by
  intro pins s σ H x v vl vu lo hi sl Q I rx hs pl pu h
  obtain ⟨a, xs, rfl, hx, q⟩ := h
  cases rx
  obtain ⟨its, r, ht, hz⟩ := I.list hx
  have hlen := r.length
  refine ⟨"list", _, slot_list_getitem.lookup, ht.isList.typeIs, ?_⟩
  refine wpAny_getItem_list_slice ht.isList hs pl pu .none (by simp) ?_ (by rw [List.size_toArray] <;> omega)
  rw [slicePick_cut, ← hlen]
  refine ⟨.ref s.heap.objs.size, _, I.laid (t' := s.toks) (o := .lst (cutV xs lo hi)) (fun b ob q => Heap.get?_push_of_some _ q) (Nat.le_refl _) ?_, rfl, q _ (I.hok.fresh (Nat.le_refl _))⟩
  exact ⟨Nat.le_trans (cutV_length xs lo hi) hz, _, 0, (r.drop (HT.sIx xs.length 0 lo)).take (HT.sIx xs.length xs.length hi - HT.sIx xs.length 0 lo), Heap.get?_push_size _ rfl⟩
def flatV : V → Bool
  | .non => true
  | .bl _ => true
  | .int _ => true
  | .str _ => true
  | _ => false
/-- == of flat values -/
def eqV : V → V → Bool
  | .non, .non => true
  | .bl a, .bl b => a == b
  | .bl a, .int b => (if a then 1 else 0) == b
  | .int a, .bl b => a == (if b then 1 else 0)
  | .int a, .int b => a == b
  | .str a, .str b => a == b
  | _, _ => false
theorem eqAt_V {A : Around} {s : Shared} {y x : V} {u v : Value} (ry : RelV y u) (rx : RelV x v) (fy : flatV y = true) (fx : flatV x = true) : SeqAt.EqAt A s u v (eqV y x) := by
  cases y with
  | non =>
    cases ry
    cases x with
    | non => cases rx; exact SeqAt.EqAt.same _
    | bl b => cases rx; exact SeqAt.EqAt.none_bool b
    | int b => obtain ⟨t, rfl⟩ := rx; exact SeqAt.EqAt.none_int b t
    | str b => obtain ⟨t, rfl⟩ := rx; exact SeqAt.EqAt.none_str b t
    | _ => exact absurd (show false = true from fx) Bool.false_ne_true
  | bl a =>
    cases ry
    cases x with
    | non => cases rx; exact SeqAt.EqAt.bool_none a
    | bl b => cases rx; exact SeqAt.EqAt.bool_bool a b
    | int b => obtain ⟨t, rfl⟩ := rx; exact SeqAt.EqAt.bool_int a b t
    | str b => obtain ⟨t, rfl⟩ := rx; exact SeqAt.EqAt.bool_str a b t
    | _ => exact absurd (show false = true from fx) Bool.false_ne_true
  | int a =>
    obtain ⟨t', rfl⟩ := ry
    cases x with
    | non => cases rx; exact SeqAt.EqAt.int_none a t'
    | bl b => cases rx; exact SeqAt.EqAt.int_bool a t' b
    | int b => obtain ⟨t, rfl⟩ := rx; exact SeqAt.EqAt.int_int a t' b t
    | str b => obtain ⟨t, rfl⟩ := rx; exact SeqAt.EqAt.int_str a t' b t
    | _ => exact absurd (show false = true from fx) Bool.false_ne_true
  | str a =>
    obtain ⟨t', rfl⟩ := ry
    cases x with
    | non => cases rx; exact SeqAt.EqAt.str_none a t'
    | bl b => cases rx; exact SeqAt.EqAt.str_bool a t' b
    | int b => obtain ⟨t, rfl⟩ := rx; exact SeqAt.EqAt.str_int a t' b t
    | str b => obtain ⟨t, rfl⟩ := rx; exact SeqAt.EqAt.str_str a t' b t
    | _ => exact absurd (show false = true from fx) Bool.false_ne_true
  | _ => exact absurd (show false = true from fy) Bool.false_ne_true
/-- the items' answers, read off the values (a value's own answer does not lean on its token) -/
def eqU (x : V) (u : Value) : Bool := match u with
  | .none => eqV .non x
  | .bool b => eqV (.bl b) x
  | .int i _ => eqV (.int i) x
  | .str z _ => eqV (.str z) x
  | _ => false
theorem eqU_of {x y : V} {u : Value} (r : RelV y u) (f : flatV y = true) : eqU x u = eqV y x := by
  cases y with
  | non => cases r; rfl
  | bl b => cases r; rfl
  | int i => obtain ⟨t, rfl⟩ := r; rfl
  | str z => obtain ⟨t, rfl⟩ := r; rfl
  | _ => exact absurd (show false = true from f) Bool.false_ne_true
theorem any_eqU {x : V} : ∀ {xs : List V} {us : List Value}, Vals xs us → xs.all flatV = true → us.any (eqU x) = xs.any fun y => eqV y x
  | _, _, .nil, _ => rfl
  | y :: xs, u :: us, .cons r t, f => by
    rw [List.all_cons, Bool.and_eq_true] at f
    rw [List.any_cons, List.any_cons, eqU_of r f.1, any_eqU t f.2]
theorem mem_eqAt {A : Around} {s : Shared} {x : V} {v : Value} (rx : RelV x v) (fx : flatV x = true) : ∀ {xs : List V} {us : List Value}, Vals xs us → xs.all flatV = true → ∀ u ∈ us, SeqAt.EqAt A s u v (eqU x u)
  | _, _, .nil, _ => fun u hu => by cases hu
  | y :: xs, u :: us, .cons r t, f => fun u' hu => by
    rw [List.all_cons, Bool.and_eq_true] at f
    rcases List.mem_cons.mp hu with rfl | hu
    · rw [eqU_of r f.1]; exact eqAt_V r rx f.1 fx
    · exact mem_eqAt rx fx t f.2 u' hu
def inV (x : V) (xs : List V) : Bool := xs.any fun y => eqV y x
/-- x in a list or tuple of flat items -/
def rIn (K : PySem.W.Frag) (neg : Bool) : R2 := fun x y H Q => ∃ p xs, y = .ref p ∧ (SqL K H p xs ∨ SqT K H p xs) ∧ flatV x = true ∧ xs.all flatV = true ∧ Q (.bl (if neg then !inV x xs else inV x xs)) H
theorem op_notIn_seq : OpR X (compareOp .NotIn) (rIn X.K true) := by
  intro pins s σ H x y v u Q I rx ry h
  obtain ⟨p, xs, rfl, hq, fx, fs, q⟩ := h
  cases ry
  rcases hq with hq | hq
  · obtain ⟨its, r, pl, hz⟩ := I.list hq
    refine SeqAt.notIn_listAt (eqU x) pl.isList (fun w hw => mem_eqAt rx fx r fs w (by simpa using hw)) ⟨.bl _, H, I, rfl, ?_⟩
    rw [show its.toArray.any (eqU x) = its.any (eqU x) by simp, any_eqU r fs]
    exact q
  · obtain ⟨its, r, pl, hz⟩ := I.tuple hq
    refine SeqAt.notIn_tupleAt (eqU x) pl (fun w hw => mem_eqAt rx fx r fs w (by simpa using hw)) ⟨.bl _, H, I, rfl, ?_⟩
    rw [show its.toArray.any (eqU x) = its.any (eqU x) by simp, any_eqU r fs]
    exact q
theorem call_len_seq : CallR X (.builtin "len") (fun xs H Q => ∃ p ys, xs = [.ref p] ∧ (SqL X.K H p ys ∨ SqT X.K H p ys) ∧ Q (.int ys.length) H) := by
  intro pins s σ H xs us Q I r h
  obtain ⟨p, ys, rfl, hq, q⟩ := h
  obtain ⟨u, rfl, rx⟩ := vals1 r
  cases rx
  have hn := line63
  rcases hq with hq | hq
  · obtain ⟨its, r', pl, hz⟩ := I.list hq
    have hlen := r'.length
    exact Calls.call_len_list pl.isList (by simp only [List.size_toArray] <;> omega) ⟨.int ys.length, H, I.tok _, ⟨s.toks + 1, by rw [List.size_toArray, hlen]⟩, q⟩
  · obtain ⟨its, r', pl, hz⟩ := I.tuple hq
    have hlen := r'.length
    exact len_tuple pl (by simp only [List.size_toArray] <;> omega) ⟨.int ys.length, H, I.tok _, ⟨s.toks + 1, by rw [List.size_toArray, hlen]⟩, q⟩
theorem call_list_of : CallR X (.type "list") (fun xs H Q => ∃ p ys, xs = [.ref p] ∧ (SqL X.K H p ys ∨ SqT X.K H p ys) ∧ ∀ l, H l = none → Q (.ref l) (upd H l (.lst ys))) := by
  intro pins s σ H xs us Q I r h
  obtain ⟨p, ys, rfl, hq, q⟩ := h
  obtain ⟨u, rfl, rx⟩ := vals1 r
  cases rx
  have fin : ∀ (its : List Value), Vals ys its → ys.length ≤ sizeLine → ∀ (h' : Heap) (c' : Nat), (∀ b o', s.heap.get? b = some o' → h'.get? b = some o') →
      h'.get? s.heap.objs.size = some { cls := .type "list", dict := none, data := .seq its.toArray c', slots := #[] } → EP X pins σ Q (.ref s.heap.objs.size) { s with heap := h' } := fun its r' hz h' c' kp e =>
    ⟨.ref s.heap.objs.size, _, I.laid (t' := s.toks) kp (Nat.le_refl _) (show ObjOk X.prog X.w _ h' _ (.lst ys) from ⟨hz, its, c', r', e⟩), rfl, q _ (I.hok.fresh (Nat.le_refl _))⟩
  rcases hq with hq | hq
  · obtain ⟨its, r', pl, hz⟩ := I.list hq
    have hlen := r'.length
    obtain ⟨o, ho, hc, n, hd⟩ := pl.isList
    exact call_list_seq p (.inl rfl) ho hc hd (fun h' c' kp e => fin its r' hz h' c' kp e) (by simp only [List.size_toArray] <;> omega)
  · obtain ⟨its, r', pl, hz⟩ := I.tuple hq
    have hlen := r'.length
    obtain ⟨o, ho, hc, n, hd⟩ := pl
    exact call_list_seq p (.inr rfl) ho hc hd (fun h' c' kp e => fin its r' hz h' c' kp e) (by simp only [List.size_toArray] <;> omega)
/-- the value is of that builtin type -/
def tyV (K : PySem.W.Frag) (T : String) (x : V) (H : Hp) : Prop := match x with
  | .str _ => T = "str"
  | .int _ => T = "int"
  | .ref p => (T = "list" ∧ ∃ xs, SqL K H p xs) ∨ (T = "tuple" ∧ ∃ o, K.lookup p = some o ∧ o.cls = .type "tuple" ∧ o.dict = none) ∨
      (T = "dict" ∧ ((∃ kvs, H p = some (.dK kvs)) ∨ ∃ kvs, H p = some (.dT kvs))) ∨ (T = "set" ∧ ∃ S n, H p = some (.set S n))
  | _ => False
theorem tyV_is {pins : List (Addr × Obj)} {σ : St} {H : Hp} {s : Shared} {T : String} {x : V} {v : Value} (I : Inv X pins σ H s) (r : RelV x v) (ty : tyV X.K T x H) :
    s.TypeIs v T ∧ ∀ a, v = .ref a → ∃ ob, s.heap.get? a = some ob ∧ ob.dict = none := by
  cases x with
  | str z =>
    obtain ⟨t, rfl⟩ := r
    cases (show T = "str" from ty)
    exact ⟨typeIs_str s z t, fun _ e => nomatch e⟩
  | int i =>
    obtain ⟨t, rfl⟩ := r
    cases (show T = "int" from ty)
    exact ⟨typeIs_int s i t, fun _ e => nomatch e⟩
  | ref p =>
    cases r
    rcases ty with ⟨rfl, xs, hq⟩ | ⟨rfl, o, hk, hc, hd⟩ | ⟨rfl, hk⟩ | ⟨rfl, S, n, hk⟩
    · obtain ⟨its, _, pl, _⟩ := I.list hq
      refine ⟨pl.isList.typeIs, fun a e => ?_⟩
      cases e
      obtain ⟨o, n, e, c, hd, _⟩ := pl
      exact ⟨o, e, hd⟩
    · refine ⟨⟨o, I.kIn p o hk, hc⟩, fun a e => ?_⟩
      cases e
      exact ⟨o, I.kIn _ o hk, hd⟩
    · have z : ∃ o, s.heap.get? p = some o ∧ o.ExactDict := by
        rcases hk with ⟨kvs, hk⟩ | ⟨kvs, hk⟩
        · obtain ⟨_, _, _, _, o, _, _, e, ex, _⟩ := I.hok p _ hk
          exact ⟨o, e, ex⟩
        · obtain ⟨_, _, _, _, o, _, _, e, ex, _⟩ := I.hok p _ hk
          exact ⟨o, e, ex⟩
      obtain ⟨o, e, ex⟩ := z
      refine ⟨⟨o, e, ex.1⟩, fun a e2 => ?_⟩
      cases e2
      exact ⟨o, e, ex.2.1⟩
    · obtain ⟨o, _, _, _, e, ex, _⟩ := I.hok p _ hk
      refine ⟨⟨o, e, ex.1⟩, fun a e2 => ?_⟩
      cases e2
      exact ⟨o, e, ex.2.1⟩
  | _ => exact False.elim ty
def tBM0 (K : PySem.W.Frag) (T : String) (r : V → List V → Hp → VK → Prop) (to : TE) : TE := fun σ H Q => to σ H fun x H1 => tyV K T x H1 ∧ r x [] H1 Q
def tBM (K : PySem.W.Frag) (T : String) (r : V → List V → Hp → VK → Prop) (to : TE) (t : TA) : TE := fun σ H Q => to σ H fun x H1 => tyV K T x H1 ∧ t σ H1 fun xs H2 => r x xs H2 Q
variable {o e : Expr} {es : List Expr} {to : TE} {t : TA} {name : Str} {apos cpos : Pos} {T id : String} {r : V → List V → Hp → VK → Prop}
theorem pe_bm0 (pa : PlainAttrs T) (slot : Slot T name id) (hty : typeOf (.builtin id) = pure (.type "method_descriptor")) (hm : MtR X id r) (ho : PE X o to)
    (hbase : attributeBase o name X.env (eval o X.env) = eval o X.env := by rfl) (hline : (apos.endLine == cpos.line) = true := by rfl) : PE X (.Call (.Attribute o name apos) [] [] cpos) (tBM0 X.K T r to) := by
  intro pins s σ H Q I h
  refine wpAny_Call_method0_late hbase hline (thn (ho pins s σ H _ I h) fun v s1 ⟨x, H1, I1, r1, ty, q1⟩ => ?_)
  obtain ⟨h1, h2⟩ := tyV_is I1 r1 ty
  exact ⟨T, id, pa, slot, hty, h1, h2, Calls.callWith_builtin rfl (PySem.evalArgs_none (hm pins s1 σ H1 x [] v [] Q I1 r1 .nil q1))⟩
theorem pe_bm (pa : PlainAttrs T) (slot : Slot T name id) (hty : typeOf (.builtin id) = pure (.type "method_descriptor")) (hm : MtR X id r) (ho : PE X o to) (ha : PA X (e :: es) t)
    (hbase : attributeBase o name X.env (eval o X.env) = eval o X.env := by rfl)
    (hfew : ((backTo cpos (starEach (e :: es) X.env)).all (fun x => !x.1) && (backToKw cpos (keywordEach [] X.env)).all (fun x => x.1.isSome)
      && decide ((e :: es).length + ([] : List Keyword).length + (if ([] : List Keyword).isEmpty then 0 else 1) < 30)) = true := by rfl)
    (hline : (apos.endLine == cpos.line) = true := by rfl) (hs : starEach (e :: es) X.env = (false, eval e X.env) :: starEach es X.env := by rfl) (hplain : (backTo cpos (starEach es X.env)).any (·.1) = false := by rfl) :
    PE X (.Call (.Attribute o name apos) (e :: es) [] cpos) (tBM X.K T r to t) := by
  intro pins s σ H Q I h
  refine wpAny_Call_method_late hbase hfew hline rfl (thn (ho pins s σ H _ I h) fun v s1 ⟨x, H1, I1, r1, ty, q1⟩ => ?_)
  obtain ⟨h1, h2⟩ := tyV_is I1 r1 ty
  refine ⟨T, id, pa, slot, hty, h1, h2, ?_⟩
  have hA := ha cpos pins s1 σ H1 _ I1 q1
  rw [hs] at hA ⊢
  refine Calls.callWith_builtin (by show (false || (backTo cpos (starEach es X.env)).any (·.1)) = false; rw [hplain] <;> rfl) (Calls.evalArgs_plain ?_)
  exact thn hA fun us s2 ⟨vs, H2, I2, r2, q2⟩ => hm pins s2 σ H2 x vs v us Q I2 r1 r2 q2
/- xs.append(e), list.index on a module's tuple .. are MtR facts of 06m -/
end
end L2
namespace L2
open PySem PySem.Spec PyProof.Rows
def MtM (X : Cx) (id : String) (r : V → List V → Hp → VK → Prop) : Prop :=
  ∀ (pins : List (Addr × Obj)) (s : Shared) (σ : St) (H : Hp) (x : V) (xs : List V) (v : Value) (us : List Value) (Q : VK), Inv X pins σ H s → RelV x v → Vals xs us → r x xs H Q →
    wpAny (model X.prog X.w) X.A (call (.builtin id) (v :: us)) (EP X pins σ Q) X.xe s
theorem Vals.one : ∀ {x : V} {us : List Value}, Vals [x] us → ∃ u, us = [u] ∧ RelV x u
  | _, _, .cons r .nil => ⟨_, rfl, r⟩
theorem Vals.zero : ∀ {us : List Value}, Vals [] us → us = []
  | _, .nil => rfl
theorem Vals.dropLast {xs : List V} {us : List Value} (h : Vals xs us) : Vals xs.dropLast us.dropLast := by
  induction h with
  | nil => exact .nil
  | cons r t ih =>
    cases t with
    | nil => exact .nil
    | cons q t' => exact .cons r ih
theorem erase_last {α : Type} (l : List α) : l.eraseIdx (l.length - 1) = l.dropLast := by
  induction l with
  | nil => rfl
  | cons a r ih =>
    cases r with
    | nil => rfl
    | cons b r =>
      have e : (a :: b :: r).length - 1 = ((b :: r).length - 1) + 1 := by
        have h1 : (a :: b :: r).length = r.length + 2 := rfl
        have h2 : (b :: r).length = r.length + 1 := rfl
        omega
      rw [e, List.eraseIdx_cons_succ, ih]
      all_goals rfl
section
variable {X : Cx} {pins : List (Addr × Obj)} {σ : St} {H : Hp} {s : Shared} {l b : Addr} {xs ys zs : List V}
theorem Inv.lset {its its' : List Value} {n : Nat} {f : Array Value → Array Value} {t' : Nat} (I : Inv X pins σ H s) (hH : H l = some (.lst xs))
    (e : s.heap.get? l = some { cls := .type "list", data := .seq its.toArray n }) (hf : f its.toArray = its'.toArray) (hv : Vals ys its') (hz : ys.length ≤ sizeLine) :
    Inv X pins σ (upd H l (.lst ys)) { s with heap := s.heap.update l (Obj.mapSeq f), toks := t' } := by
  have q := PySem.IsL.update e f
  rw [hf] at q
  refine I.write (x := l) (e := l) (by rw [hH]; exact trivial) (.inl rfl) (fun b' u hb hu => (Heap.get?_update_other s.heap (Obj.mapSeq f) (Ne.symm hb)).trans hu) ⟨_, q⟩ ?_
  exact ⟨hz, its', _, hv, q⟩
theorem Inv.lnew {its : List Value} {t' : Nat} (I : Inv X pins σ H s) (hv : Vals ys its) (hz : ys.length ≤ sizeLine) :
    Inv X pins σ (upd H s.heap.objs.size (.lst ys)) { s with heap := s.heap.push { cls := .type "list", data := .seq its.toArray }, toks := t' } :=
  I.laid (fun _ _ q => Heap.get?_push_of_some _ q) (Nat.le_refl _) ⟨hz, its, 0, hv, Heap.get?_push_size _ rfl⟩
theorem Inv.fresh (I : Inv X pins σ H s) : H s.heap.objs.size = none := I.hok.fresh (Nat.le_refl _)
theorem Inv.lstM (I : Inv X pins σ H s) (hH : H l = some (.lst xs)) : xs.length ≤ sizeLine ∧ ∃ (its : List Value) (n : Nat), Vals xs its ∧ xs.length = its.length ∧ s.heap.get? l = some { cls := .type "list", data := .seq its.toArray n } := by
  obtain ⟨z, its, n, r, e⟩ := I.hok l _ hH
  exact ⟨z, its, n, r, r.length, e⟩
end
section
variable {X : Cx}
def rAppend : V → List V → Hp → VK → Prop := fun x vs H Q => ∃ l xs y, x = .ref l ∧ vs = [y] ∧ H l = some (.lst xs) ∧ xs.length < sizeLine ∧ Q .non (upd H l (.lst (xs ++ [y])))
theorem mt_append : MtM X "list.append" rAppend := by
  intro pins s σ H x vs v us Q I rx rv h
  obtain ⟨l, xs, y, rfl, rfl, hH, hz, q⟩ := h
  cases rx
  obtain ⟨u, rfl, ru⟩ := rv.one
  obtain ⟨z, its, n, r, hl, e⟩ := I.lstM hH
  refine call_meets F.slot_list_append ⟨_, e, rfl⟩ F.entry_list_append (F.args_list_append_2 _ _) (PySem.list_append l its.toArray n u (by rw [List.size_toArray]; omega)) ⟨e, ?_⟩
  refine ⟨.non, _, I.lset (its' := its ++ [u]) hH e (by simp) (r.append (.cons ru .nil)) ?_, rfl, q⟩
  rw [List.length_append, List.length_singleton]
  omega
def rPop : V → List V → Hp → VK → Prop := fun x vs H Q => ∃ l xs y, x = .ref l ∧ vs = [] ∧ H l = some (.lst xs) ∧ xs[xs.length - 1]? = some y ∧ Q y (upd H l (.lst xs.dropLast))
theorem mt_pop : MtM X "list.pop" rPop := by
  intro pins s σ H x vs v us Q I rx rv h
  obtain ⟨l, xs, y, rfl, rfl, hH, hy, q⟩ := h
  cases rx
  have hus := rv.zero
  subst hus
  obtain ⟨z, its, n, r, hl, e⟩ := I.lstM hH
  obtain ⟨u, hu, ru⟩ := r.get hy
  have hy' : its.toArray[its.toArray.size - 1]? = some u := by
    show its.toArray[its.length - 1]? = some u
    rw [← Array.getElem?_toList, ← hl]
    exact hu
  refine call_meets F.slot_list_pop ⟨_, e, rfl⟩ F.entry_list_pop (F.args_list_pop_1 _) (MeetsSeq.list_pop_last l its.toArray n u hy' (by rw [List.size_toArray]; omega)) ⟨e, ?_⟩
  refine ⟨y, _, I.lset (its' := its.dropLast) hH e ?_ r.dropLast ?_, ru, q⟩
  · show its.toArray.eraseIdxIfInBounds (its.toArray.size - 1) = its.dropLast.toArray
    rw [List.size_toArray, List.eraseIdxIfInBounds_toArray, erase_last]
  · rw [List.length_dropLast]
    omega
def rCat : R2 := fun x y H Q => ∃ l b xs zs, x = .ref l ∧ y = .ref b ∧ H l = some (.lst xs) ∧ H b = some (.lst zs) ∧ xs.length + zs.length ≤ sizeLine ∧ ∀ p, H p = none → Q (.ref p) (upd H p (.lst (xs ++ zs)))
theorem op_cat : OpR X (binaryOp .Add) rCat := by
  intro pins s σ H x y v u Q I rx ry h
  obtain ⟨l, b, xs, zs, rfl, rfl, hH, hB, hz, q⟩ := h
  cases rx
  cases ry
  obtain ⟨z, its, n, r, hl, e⟩ := I.lstM hH
  obtain ⟨z2, its2, n2, r2, hl2, e2⟩ := I.lstM hB
  refine PySem.P.add_list e e2 ?_ (by rw [List.size_toArray, List.size_toArray]; omega)
  have ea : its.toArray ++ its2.toArray = (its ++ its2).toArray := by simp
  rw [ea]
  exact ⟨.ref _, _, I.lnew (t' := s.toks) (r.append r2) (by rw [List.length_append]; omega), rfl, q _ I.fresh⟩
end
section
variable {prog : Program} {w : World} {A : Around} {E : Value → Shared → Prop} {s : Shared}
set_option maxRecDepth 100000 in
end
section
variable {X : Cx}
end
end L2
namespace L2
open PySem PySem.Spec PyProof.Rows
theorem Vals.bls : ∀ {bs : List Bool} {us : List Value}, Vals (bs.map V.bl) us → us = bs.map Value.bool
  | [], us, h => by
    rw [List.map_nil] at h
    cases h
    rfl
  | b :: bs, us, h => by
    rw [List.map_cons] at h
    cases h with
    | cons r t =>
      cases r
      rw [Vals.bls t, List.map_cons]
theorem Vals.ref1 {a : Addr} {us : List Value} (r : Vals [V.ref a] us) : us = [Value.ref a] := by
  cases r with
  | cons r t =>
    cases t
    cases r
    rfl
section
variable {prog : Program} {w : World} {A : Around} {E : Value → Shared → Prop} {s : Shared} {l : Addr} {its : List Value} {ns : List Int} {Q : Value → Shared → Prop}
end
section
variable {X : Cx}
end
section
variable {X : Cx}
end
section
variable {X : Cx}
end
theorem iter_any {prog : Program} {w : World} {A : Around} {E : Value → Shared → Prop} {s : Shared} {l : Addr} {items : Array Value} {Q : Value → Shared → Prop} (hl : s.heap.IsList l items)
    (h : ∀ s₂ : Shared, s₂ = { s with heap := s.heap.push { cls := .type "list_iterator", data := .fields #[.ref l, .int 0 0] } } →
      (s₂.heap.IsListIter s.heap.objs.size l 0 ∧ s₂.heap.IsList l items) → l ≠ s.heap.objs.size → Q (.ref s.heap.objs.size) s₂) : wpAny (model prog w) A (pyIter (.ref l)) Q E s := by
  have hlt : l < s.heap.objs.size := by obtain ⟨_, e, _⟩ := hl; exact Heap.lt_size e
  exact wpAny_pyIter_list hl (h _ rfl ⟨⟨_, Heap.get?_push_size _ rfl, rfl, rfl⟩, hl.push _⟩ (Nat.ne_of_lt hlt))
theorem truth_bools {prog : Program} {w : World} {A : Around} {bs : List Bool} {its : List Value} (e : its = bs.map Value.bool) :
    TruthOf prog w A (fun i v => its.toArray[i]? = some v) (fun i => bs.getD i false) := fun i v s Q E hv hq => by
  have hv' : its[i]? = some v := by simpa using hv
  rw [e, List.getElem?_map] at hv'
  obtain ⟨b, hb, rfl⟩ := Option.map_eq_some_iff.mp hv'
  have hg : bs.getD i false = b := by rw [List.getD_eq_getElem?_getD, hb] <;> rfl
  have hq' : Q (bs.getD i false) s := hq
  rw [hg] at hq'
  exact wpAny_truthy_bool hq'
theorem any_range : ∀ bs : List Bool, (List.range bs.length).any (fun i => bs.getD i false) = bs.any id
  | [] => rfl
  | b :: bs => by
    rw [List.length_cons, List.range_succ_eq_map, List.any_cons, List.any_map, List.any_cons, ← any_range bs]
    all_goals rfl
theorem all_range : ∀ bs : List Bool, (List.range bs.length).all (fun i => bs.getD i false) = bs.all id
  | [] => rfl
  | b :: bs => by
    rw [List.length_cons, List.range_succ_eq_map, List.all_cons, List.all_map, List.all_cons, ← all_range bs]
    all_goals rfl
section
variable {X : Cx}
def rAny (K : PySem.W.Frag) : List V → Hp → VK → Prop := fun vs H Q => ∃ (a : Addr) (bs : List Bool), vs = [V.ref a] ∧ SqL K H a (bs.map V.bl) ∧ Q (.bl (bs.any id)) H
def rAll (K : PySem.W.Frag) : List V → Hp → VK → Prop := fun vs H Q => ∃ (a : Addr) (bs : List Bool), vs = [V.ref a] ∧ SqL K H a (bs.map V.bl) ∧ Q (.bl (bs.all id)) H
theorem cr_any (hc : X.calm = true) : CallR X (.builtin "any") (rAny X.K) := by
  intro pins s σ H vs us Q I r h
  obtain ⟨a, bs, rfl, hs, q⟩ := h
  obtain ⟨its, rv, hl, _⟩ := I.list hs
  rw [Vals.ref1 r]
  have hb := rv.bls
  refine call_any_walk (iter_any hl.isList fun s₂ e2 st hne => ?_)
  subst e2
  refine ⟨_, _, _, _, _, _, _, rfl, Walks.list (A := X.A.in1) (I.ok.hd hc) _ a hne its.toArray, st, truth_bools hb, fun h' tk hk => ?_⟩
  refine ⟨.bl _, H, I.kept fun b o eo => hk b o (fun hmem => ?_) (Heap.get?_push_of_some _ eo), ?_, q⟩
  · rcases List.mem_cons.mp hmem with e1 | hmem
    · exact absurd (e1 ▸ Heap.lt_size eo) (Nat.lt_irrefl _)
    · cases hmem
  · show Value.bool _ = Value.bool _
    rw [← any_range, hb, List.size_toArray, List.length_map]
theorem cr_all (hc : X.calm = true) : CallR X (.builtin "all") (rAll X.K) := by
  intro pins s σ H vs us Q I r h
  obtain ⟨a, bs, rfl, hs, q⟩ := h
  obtain ⟨its, rv, hl, _⟩ := I.list hs
  rw [Vals.ref1 r]
  have hb := rv.bls
  refine call_all_walk (iter_any hl.isList fun s₂ e2 st hne => ?_)
  subst e2
  refine ⟨_, _, _, _, _, _, _, rfl, Walks.list (A := X.A.in1) (I.ok.hd hc) _ a hne its.toArray, st, truth_bools hb, fun h' tk hk => ?_⟩
  refine ⟨.bl _, H, I.kept fun b o eo => hk b o (fun hmem => ?_) (Heap.get?_push_of_some _ eo), ?_, q⟩
  · rcases List.mem_cons.mp hmem with e1 | hmem
    · exact absurd (e1 ▸ Heap.lt_size eo) (Nat.lt_irrefl _)
    · cases hmem
  · show Value.bool _ = Value.bool _
    rw [← all_range, hb, List.size_toArray, List.length_map]
end
mutual
inductive Dp (K : PySem.W.Frag) (H : Hp) : V → PyData → Prop
  | non : Dp K H .non .none
  | bl (b : Bool) : Dp K H (.bl b) (.bool b)
  | int (i : Int) : Dp K H (.int i) (.int i)
  | str (x : Str) : Dp K H (.str x) (.str x)
  | lst {a : Addr} {xs : List V} {ds : List PyData} : SqL K H a xs → DpAll K H xs ds → Dp K H (.ref a) (.list ds)
  | tup {a : Addr} {xs : List V} {ds : List PyData} : SqT K H a xs → DpAll K H xs ds → Dp K H (.ref a) (.tuple ds)
inductive DpAll (K : PySem.W.Frag) (H : Hp) : List V → List PyData → Prop
  | nil : DpAll K H [] []
  | cons {v : V} {vs : List V} {d : PyData} {ds : List PyData} : Dp K H v d → DpAll K H vs ds → DpAll K H (v :: vs) (d :: ds)
end
section
variable {X : Cx} {pins : List (Addr × Obj)} {σ : St} {H : Hp} {s : Shared}
mutual
theorem Dp.reads (I : Inv X pins σ H s) : ∀ (d : PyData) (v : V) (u : Value), Dp X.K H v d → RelV v u → ∃ as, Reads s.heap u d as
  | .none, _, _, h, r => by
    cases h
    cases r
    exact ⟨_, Reads.none⟩
  | .bool b, _, _, h, r => by
    cases h
    cases r
    exact ⟨_, Reads.bool b⟩
  | .int i, _, _, h, r => by
    cases h
    obtain ⟨t, rfl⟩ := r
    exact ⟨_, Reads.int i t⟩
  | .str x, _, _, h, r => by
    cases h
    obtain ⟨t, rfl⟩ := r
    exact ⟨_, Reads.str x t⟩
  | .list ds, _, _, h, r => by
    cases h with
    | lst hs ha =>
      cases r
      obtain ⟨its, rv, ⟨o, n, ho, hc, _, hd⟩, _⟩ := I.list hs
      obtain ⟨as, hr⟩ := Dp.readsAll I ds _ its ha rv
      exact ⟨_, Reads.list ho hc hd hr⟩
  | .tuple ds, _, _, h, r => by
    cases h with
    | tup hs ha =>
      cases r
      obtain ⟨its, rv, ⟨o, ho, hc, n, hd⟩, _⟩ := I.tuple hs
      obtain ⟨as, hr⟩ := Dp.readsAll I ds _ its ha rv
      exact ⟨_, Reads.tuple ho hc hd hr⟩
  | .dict _, _, _, h, _ => by cases h
theorem Dp.readsAll (I : Inv X pins σ H s) : ∀ (ds : List PyData) (vs : List V) (us : List Value), DpAll X.K H vs ds → Vals vs us → ∃ as, ReadsAll s.heap us ds as
  | [], _, _, h, r => by
    cases h
    cases r
    exact ⟨_, ReadsAll.nil⟩
  | d :: ds, _, _, h, r => by
    cases h with
    | cons h1 h2 =>
      cases r with
      | cons r1 r2 =>
        obtain ⟨as, q1⟩ := Dp.reads I d _ _ h1 r1
        obtain ⟨bs, q2⟩ := Dp.readsAll I ds _ _ h2 r2
        exact ⟨_, ReadsAll.cons q1 q2⟩
end
end
section
variable {X : Cx}
def rEqD (K : PySem.W.Frag) : R2 := fun x y H Q => ∃ d e, Dp K H x d ∧ Dp K H y e ∧ SeqAt.shaped d = true ∧ SeqAt.shaped e = true ∧ Q (.bl (PyData.eqv d e)) H
theorem op_eqD (hu : X.A.units + 64 < cLine) : OpR X (compareOp .Eq) (rEqD X.K) := by
  intro pins s σ H x y v u Q I rx ry h
  obtain ⟨d, e, hd, he, sd, se, q⟩ := h
  obtain ⟨as, r1⟩ := Dp.reads I d x v hd rx
  obtain ⟨bs, r2⟩ := Dp.reads I e y u he ry
  exact SeqAt.compareEq_shaped r1 r2 sd se hu ⟨.bl _, H, I, rfl, q⟩
end
end L2
namespace L2
open PySem PySem.Spec PyProof.Rows
abbrev CellAt (h : Heap) (c : Addr) (v : Option Value) : Prop := h.IsCell c v
def relS (scope sc : Scope) : Scope :=
  { scope with names := scope.names.map fun (n, k) => if (k == .free && sc.kind == .function && sc.names.lookup n == some .cell) then (n, .cell) else (n, k) }
def cloFrom (cells : List (Str × Addr)) : List (Str × NameKind) → List (Str × Addr) → List (Str × Addr)
  | [], acc => acc
  | (n, k) :: r, acc => if k == .free then cloFrom cells r ((n, (cells.lookup n).getD 0) :: acc) else cloFrom cells r acc
theorem closure_loop (env : Env) (f : Str × NameKind → List (Str × Addr) → Sem (ForInStep (List (Str × Addr))))
    (hf : ∀ n k c, f (n, k) c = if k == .free then (do let a ← cellOf env n; pure (.yield ((n, a) :: c))) else pure (.yield c)) :
    ∀ (names : List (Str × NameKind)) (acc : List (Str × Addr)), (∀ y ∈ names, y.2 = .free → ∃ c, env.cells.lookup y.1 = some c) → forIn names acc f = pure (cloFrom env.cells names acc)
  | [], acc, _ => by rw [List.forIn_nil]; rfl
  | (n, k) :: r, acc, h => by
    rw [List.forIn_cons, hf]
    have ih := fun acc => closure_loop env f hf r acc fun y hy => h y (List.mem_cons_of_mem _ hy)
    unfold cloFrom
    by_cases hk : (k == NameKind.free) = true
    · rw [if_pos hk, if_pos hk]
      obtain ⟨c, hc⟩ := h (n, k) List.mem_cons_self (by simpa using hk)
      have e : cellOf env n = pure c := by unfold cellOf; rw [hc]
      rw [e]
      have e2 : (env.cells.lookup n).getD 0 = c := by rw [hc]; rfl
      rw [e2]
      exact ih _
    · rw [if_neg hk, if_neg hk]
      exact ih _
theorem closure_ok {scope : Scope} {env : Env} (h : ∀ y ∈ scope.names, y.2 = .free → ∃ c, env.cells.lookup y.1 = some c) : closureFor scope env = pure (cloFrom env.cells scope.names []) := by
  simp only [closureFor]
  rw [closure_loop env _ (fun n k c => rfl) scope.names [] h]
  rfl
theorem mem_lookup {α : Type} : ∀ {l : List (Str × α)} {n : Str} {c : α}, (n, c) ∈ l → ∃ c', l.lookup n = some c'
  | (k, v) :: r, n, c, h => by
    rw [List.lookup_cons]
    cases hb : n == k with
    | true => exact ⟨_, rfl⟩
    | false =>
      rcases List.mem_cons.mp h with e | h
      · cases e; simp at hb
      · exact mem_lookup h
theorem cloFrom_mem {cells : List (Str × Addr)} : ∀ {names : List (Str × NameKind)} {acc : List (Str × Addr)} {n : Str} {c : Addr}, (n, c) ∈ cloFrom cells names acc → (n, c) ∈ acc ∨ ((n, .free) ∈ names ∧ c = (cells.lookup n).getD 0)
  | [], _, _, _, h => .inl h
  | (m, k) :: r, acc, n, c, h => by
    unfold cloFrom at h
    split at h
    · rename_i hk
      have hk : k = .free := by simpa using hk
      rcases cloFrom_mem h with h | ⟨h1, h2⟩
      · rcases List.mem_cons.mp h with e | h
        · cases e; exact .inr ⟨hk ▸ List.mem_cons_self, rfl⟩
        · exact .inl h
      · exact .inr ⟨List.mem_cons_of_mem _ h1, h2⟩
    · rcases cloFrom_mem h with h | ⟨h1, h2⟩
      · exact .inl h
      · exact .inr ⟨List.mem_cons_of_mem _ h1, h2⟩
theorem cloFrom_acc {cells : List (Str × Addr)} : ∀ {names : List (Str × NameKind)} {acc : List (Str × Addr)} {p : Str × Addr}, p ∈ acc → p ∈ cloFrom cells names acc
  | [], _, _, h => h
  | (m, k) :: r, acc, p, h => by
    unfold cloFrom
    split
    · exact cloFrom_acc (List.mem_cons_of_mem _ h)
    · exact cloFrom_acc h
theorem cloFrom_has {cells : List (Str × Addr)} : ∀ {names : List (Str × NameKind)} {acc : List (Str × Addr)} {n : Str}, (n, .free) ∈ names → (n, (cells.lookup n).getD 0) ∈ cloFrom cells names acc
  | (m, k) :: r, acc, n, h => by
    unfold cloFrom
    rcases List.mem_cons.mp h with e | h
    · cases e
      exact cloFrom_acc List.mem_cons_self
    · split
      · exact cloFrom_has h
      · exact cloFrom_has h
theorem cells_mem : ∀ {names : List (Str × NameKind)} {h : Heap} {acc : List (Str × Addr)} {x : Str} {c : Addr}, (x, c) ∈ cellsFrom h.objs.size names acc →
    (x, c) ∈ acc ∨ ((x, .cell) ∈ names ∧ h.objs.size ≤ c ∧ CellAt (pushCells h names) c none)
  | [], _, _, _, _, h => .inl h
  | (n, k) :: r, h, acc, x, c, hm => by
    unfold cellsFrom at hm
    unfold pushCells
    split at hm
    · rename_i hk
      rw [if_pos hk]
      have hk : k = .cell := by simpa using hk
      rw [← Heap.size_push h { cls := .type "cell", data := .cell none }] at hm
      rcases cells_mem hm with hm | ⟨h1, h2, h3⟩
      · rcases List.mem_cons.mp hm with e | hm
        · cases e
          exact .inr ⟨hk ▸ List.mem_cons_self, Nat.le_refl _, _, pushCells_keeps r _ _ _ (Heap.get?_push_size _ rfl), rfl⟩
        · exact .inl hm
      · rw [Heap.size_push] at h2
        exact .inr ⟨List.mem_cons_of_mem _ h1, Nat.le_of_succ_le h2, h3⟩
    · rename_i hk
      rw [if_neg hk]
      rcases cells_mem hm with hm | ⟨h1, h2, h3⟩
      · exact .inl hm
      · exact .inr ⟨List.mem_cons_of_mem _ h1, h2, h3⟩
theorem cells_acc : ∀ {names : List (Str × NameKind)} {n : Nat} {acc : List (Str × Addr)} {p : Str × Addr}, p ∈ acc → p ∈ cellsFrom n names acc
  | [], _, _, _, h => h
  | (m, k) :: r, n, acc, p, h => by
    unfold cellsFrom
    split
    · exact cells_acc (List.mem_cons_of_mem _ h)
    · exact cells_acc h
theorem cells_has : ∀ {names : List (Str × NameKind)} {n : Nat} {acc : List (Str × Addr)} {x : Str}, (x, .cell) ∈ names → ∃ c, (x, c) ∈ cellsFrom n names acc
  | (m, k) :: r, n, acc, x, h => by
    unfold cellsFrom
    rcases List.mem_cons.mp h with e | h
    · cases e
      exact ⟨n, cells_acc List.mem_cons_self⟩
    · split
      · exact cells_has h
      · exact cells_has h
theorem cells_inj : ∀ {names : List (Str × NameKind)} {h : Heap} {acc : List (Str × Addr)} {x y : Str} {c : Addr}, (∀ p ∈ acc, p.2 < h.objs.size) → (∀ x y c, (x, c) ∈ acc → (y, c) ∈ acc → x = y) →
    (x, c) ∈ cellsFrom h.objs.size names acc → (y, c) ∈ cellsFrom h.objs.size names acc → x = y
  | [], _, _, _, _, _, _, hi, h1, h2 => hi _ _ _ h1 h2
  | (n, k) :: r, h, acc, x, y, c, hl, hi, h1, h2 => by
    unfold cellsFrom at h1 h2
    split at h1
    · rename_i hk
      rw [if_pos hk] at h2
      rw [← Heap.size_push h { cls := .type "cell", data := .cell none }] at h1 h2
      refine cells_inj (h := h.push _) (fun p hp => ?_) (fun x y c a b => ?_) h1 h2
      · rw [Heap.size_push]
        rcases List.mem_cons.mp hp with rfl | hp
        · exact Nat.lt_succ_self _
        · exact Nat.lt_succ_of_lt (hl p hp)
      · rcases List.mem_cons.mp a with e | a <;> rcases List.mem_cons.mp b with e' | b
        · cases e; cases e'; rfl
        · cases e; exact absurd (hl _ b) (Nat.lt_irrefl _)
        · cases e'; exact absurd (hl _ a) (Nat.lt_irrefl _)
        · exact hi _ _ _ a b
    · rename_i hk
      rw [if_neg hk] at h2
      exact cells_inj hl hi h1 h2
theorem newEnv_comp {M : Model} {A : Around} {E : Value → Shared → Prop} {s : Shared} {scope : Scope} {globals : Addr} {closure : List (Str × Addr)} {qual : Str} {func : Option Addr} {code : Value} {around : Env} {builtins : Addr} {Q : Env → Shared → Prop}
    (h : Q (newEnv scope s.heap.objs.size globals (cellsFrom (s.heap.objs.size + 1) scope.names closure) qual func code (some around) builtins)
      { s with heap := pushCells (s.heap.push { cls := .type "dict", data := .dict #[] }) scope.names }) :
    wpAny M A (newFunctionEnv scope globals closure [] qual func code (some around) builtins) Q E s := by
  simp only [newFunctionEnv, Option.isSome_some, if_true]
  refine wpAny_bind (wpAny_alloc ?_)
  refine wpAny_bind (wpAny_layCells _ (fun n k c => rfl) scope.names closure _ _ ?_)
  rw [show ({ s with heap := s.heap.push { cls := .type "dict", data := .dict #[] } } : Shared).heap.objs.size = s.heap.objs.size + 1 from Heap.size_push ..]
  rw [List.forIn_nil]
  exact wpAny_bind (wpAny_pure (wpAny_pure h))
/-- every name of the written scope, in the scope that runs -/
theorem lookup_relS {sc : Scope} : ∀ {names : List (Str × NameKind)} {x : Str} {k : NameKind},
    (names.map fun (n, k) => if (k == NameKind.free && sc.kind == .function && sc.names.lookup n == some .cell) then (n, NameKind.cell) else (n, k)).lookup x = some k →
    ∃ k', names.lookup x = some k' ∧ (k = k' ∨ (k' = .free ∧ k = .cell))
  | [], _, _, h => by simp at h
  | (n, k₀) :: r, x, k, h => by
    have ih := @lookup_relS sc r x k
    have h' : List.lookup x ((if (k₀ == NameKind.free && sc.kind == .function && sc.names.lookup n == some .cell) = true then (n, NameKind.cell) else (n, k₀)) :: (r.map _)) = some k := h
    cases hx : x == n with
    | true =>
      simp only [List.lookup_cons, hx]
      by_cases hc : (k₀ == NameKind.free && sc.kind == .function && sc.names.lookup n == some .cell) = true
      · rw [if_pos hc] at h'
        simp only [List.lookup_cons, hx] at h'
        cases h'
        simp only [Bool.and_eq_true, beq_iff_eq] at hc
        exact ⟨k₀, rfl, .inr ⟨hc.1.1, rfl⟩⟩
      · rw [if_neg hc] at h'
        simp only [List.lookup_cons, hx] at h'
        cases h'
        exact ⟨_, rfl, .inl rfl⟩
    | false =>
      simp only [List.lookup_cons, hx]
      by_cases hc : (k₀ == NameKind.free && sc.kind == .function && sc.names.lookup n == some .cell) = true
      · rw [if_pos hc] at h'
        simp only [List.lookup_cons, hx] at h'
        exact ih h'
      · rw [if_neg hc] at h'
        simp only [List.lookup_cons, hx] at h'
        exact ih h'
/-- the names of a comprehension's block: its own (with their places in N), or captured -/
structure BlkOk (N : List Str) (sc scope : Scope) (own : List (Str × Nat)) : Prop where
  kind : scope.kind = .function
  uniq : ∀ y ∈ scope.names, scope.names.lookup y.1 = some y.2
  ix : ∀ p ∈ own, N[p.2]? = some p.1
  free : ∀ y ∈ scope.names, y.2 = .free → sc.names.lookup y.1 = some .cell ∨ sc.names.lookup y.1 = some .free
  own : ∀ y ∈ scope.names, y.2 = .local ∨ y.2 = .cell → y.1 ∈ own.map (·.1) ∨ y.1 ∉ N
/-- the slots of the block's own names forgotten -/
def wipe (σ : St) : List Nat → St
  | [] => σ
  | v :: vs => (wipe σ vs).set v none
theorem wipe_length (σ : St) : ∀ vs : List Nat, (wipe σ vs).length = σ.length
  | [] => rfl
  | v :: vs => by unfold wipe; rw [List.length_set, wipe_length σ vs]
theorem wipe_some {σ : St} {i : Nat} {x : V} : ∀ {vs : List Nat}, (wipe σ vs)[i]? = some (some x) → σ[i]? = some (some x) ∧ i ∉ vs
  | [], h => ⟨h, by simp⟩
  | v :: vs, h => by
    unfold wipe at h
    by_cases hi : v = i
    · subst hi
      by_cases hv : v < (wipe σ vs).length
      · rw [List.getElem?_set_self hv] at h; cases h
      · rw [List.getElem?_eq_none (by simpa using hv)] at h; cases h
    · rw [List.getElem?_set_ne hi] at h
      obtain ⟨h1, h2⟩ := wipe_some h
      exact ⟨h1, by simp only [List.mem_cons, not_or]; exact ⟨fun e => hi e.symm, h2⟩⟩
/-- the context of a block that starts at s, its iterator's objects at fp -/
abbrev Cx.blk (X : Cx) (s : Shared) (H : Hp) (scope : Scope) (cenv : Env) (fp : List Addr) : Cx := { X with s_0 := s, H_0 := H, env := cenv, outer := X.stack, ex := fp, fn := fun x => scope.names.lookup x == some .cell, pn := [], xe := fun _ _ => False }
section
variable {X : Cx} {pins : List (Addr × Obj)} {σ : St} {H : Hp} {s : Shared}
theorem block_start {scope : Scope} {own : List (Str × Nat)} {fp : List Addr} (I : Inv X pins σ H s) (ok : BlkOk X.N X.env.scope scope own) (hN : X.N.Nodup) (hfp : ∀ b ∈ fp, FpOk X pins H b ∧ b < s.heap.objs.size) :
    Inv (X.blk s H scope (compEnvC scope (cellsFrom (s.heap.objs.size + 1) scope.names (cloFrom X.env.cells scope.names [])) s.heap.objs.size X.env) fp) [] (wipe σ (own.map (·.2))) H { s with heap := pushCells (s.heap.push { cls := .type "dict", data := .dict #[] }) scope.names } := by
  have hfree : ∀ y ∈ scope.names, y.2 = .free → ∃ c, X.env.cells.lookup y.1 = some c := fun y hy e => by
    rcases ok.free y hy e with k | k
    · exact I.ok.has _ (.inl k)
    · exact I.ok.has _ (.inr k)
  generalize hcenv : compEnvC scope (cellsFrom (s.heap.objs.size + 1) scope.names (cloFrom X.env.cells scope.names [])) s.heap.objs.size X.env = cenv
  have kp : ∀ b o, s.heap.get? b = some o → (pushCells (s.heap.push { cls := .type "dict", data := .dict #[] }) scope.names).get? b = some o := fun b o e => pushCells_keeps _ _ _ _ (Heap.get?_push_of_some _ e)
  have hL : cenv.locals = s.heap.objs.size := by rw [← hcenv]; rfl
  have hcl : cenv.cells = cellsFrom (s.heap.objs.size + 1) scope.names (cloFrom X.env.cells scope.names []) := by rw [← hcenv]; rfl
  have hsc : cenv.scope = relS scope X.env.scope := by rw [← hcenv]; rfl
  rw [← Heap.size_push s.heap { cls := .type "dict", data := .dict #[] }] at hcl
  have cm : ∀ {y c}, (y, c) ∈ cloFrom X.env.cells scope.names [] → X.env.cells.lookup y = some c ∧ c < s.heap.objs.size := fun {y c} hm => by
    rcases cloFrom_mem hm with hm | ⟨h1, rfl⟩
    · cases hm
    · obtain ⟨c, hc⟩ := hfree _ h1 rfl
      rw [hc]
      obtain ⟨w, z⟩ := I.cell _ _ hc
      exact ⟨rfl, z.lt⟩
  have mem : ∀ {y c}, cenv.cells.lookup y = some c → (X.env.cells.lookup y = some c ∧ c < s.heap.objs.size) ∨ (s.heap.objs.size + 1 ≤ c ∧ CellAt (pushCells (s.heap.push { cls := .type "dict", data := .dict #[] }) scope.names) c none) := fun {y c} e => by
    rw [hcl] at e
    rcases cells_mem (PySem.mem_of_lookup e) with hm | ⟨_, h2, h3⟩
    · exact .inl (cm hm)
    · rw [Heap.size_push] at h2; exact .inr ⟨h2, h3⟩
  have look : ∀ {y}, scope.names.lookup y = some .free → ∃ c, cenv.cells.lookup y = some c ∧ X.env.cells.lookup y = some c := fun {y} hl => by
    have hy : (y, NameKind.free) ∈ scope.names := PySem.mem_of_lookup hl
    obtain ⟨c', e'⟩ := mem_lookup (cells_acc (names := scope.names) (n := (s.heap.push { cls := .type "dict", data := .dict #[] }).objs.size) (cloFrom_has (cells := X.env.cells) (acc := []) hy))
    rw [← hcl] at e'
    refine ⟨c', e', ?_⟩
    rw [hcl] at e'
    rcases cells_mem (PySem.mem_of_lookup e') with hm | ⟨h1, _, _⟩
    · exact (cm hm).1
    · have := ok.uniq _ h1
      rw [hl] at this; cases this
  have okB : (X.blk s H scope cenv fp).Ok := by
    refine ⟨I.ok.mod, by show cenv.scope.kind = _; rw [hsc]; exact ok.kind, by show cenv.globals = _; rw [← hcenv]; exact I.ok.glob, by show cenv.builtins = _; rw [← hcenv]; exact I.ok.blt, by show s.heap.objs.size ≤ cenv.locals; rw [hL]; exact Nat.le_refl _,
      fun y z c e1 e2 => ?_, fun y hy => ?_, fun y c z e => ?_, I.ok.hd, I.ok.frames, .inl rfl, fun b hb => ⟨?_, fun y c e z => ?_⟩, I.bs, Nat.le_trans I.ok.bsz I.sz, fun b o e hb => ?_, fun b hb z => ?_, I.stack, I.stkFree⟩
    · have e1 : cenv.cells.lookup y = some c := e1
      have e2 : cenv.cells.lookup z = some c := e2
      rw [hcl] at e1 e2
      refine cells_inj (fun p hp => ?_) (fun y z c a b => I.ok.inj y z c (cm a).1 (cm b).1) (PySem.mem_of_lookup e1) (PySem.mem_of_lookup e2)
      rw [Heap.size_push]
      exact Nat.lt_succ_of_lt (cm (y := p.1) (c := p.2) hp).2
    · show ∃ c, cenv.cells.lookup y = some c
      have key : ∀ k, cenv.kindOf y = some k → (k = .cell ∨ k = .free) → ∃ c, cenv.cells.lookup y = some c := fun k hk hk' => by
        unfold Env.kindOf at hk
        rw [hsc] at hk
        obtain ⟨k', e, r⟩ := lookup_relS hk
        have : k' = .cell ∨ k' = .free := by
          rcases r with rfl | ⟨rfl, _⟩
          · exact hk'
          · exact .inr rfl
        rcases this with rfl | rfl
        · obtain ⟨c, hm⟩ := cells_has (n := (s.heap.push { cls := .type "dict", data := .dict #[] }).objs.size) (acc := cloFrom X.env.cells scope.names []) (PySem.mem_of_lookup e)
          obtain ⟨c', e'⟩ := mem_lookup hm
          exact ⟨c', by rw [hcl]; exact e'⟩
        · obtain ⟨c, h1, _⟩ := look e
          exact ⟨c, h1⟩
      rcases hy with hy | hy
      · exact key _ hy (.inl rfl)
      · exact key _ hy (.inr rfl)
    · have z : (scope.names.lookup y == some NameKind.cell) = true := z
      have z : scope.names.lookup y = some .cell := by simpa using z
      have e : cenv.cells.lookup y = some c := e
      rw [hcl] at e
      rcases cells_mem (PySem.mem_of_lookup e) with hm | ⟨_, h2, _⟩
      · rcases cloFrom_mem hm with hm | ⟨h1, _⟩
        · cases hm
        · have q := ok.uniq _ h1
          rw [z] at q; cases q
      · rw [Heap.size_push] at h2
        exact Nat.le_of_succ_le h2
    · show b ≠ cenv.locals
      rw [hL]; exact Nat.ne_of_lt (hfp b hb).2
    · have e : cenv.cells.lookup y = some c := e
      rcases mem e with ⟨h1, _⟩ | ⟨h1, _⟩
      · exact (hfp b hb).1.2.2.2.2.1 y c h1 z
      · have h2 : s.heap.objs.size + 1 ≤ b := by rw [← z]; exact h1
        exact absurd (Nat.lt_of_lt_of_le (hfp b hb).2 (Nat.le_of_succ_le h2)) (Nat.lt_irrefl _)
    · rcases (hfp b hb).1.2.2.2.1 with z | z
      · exact I.ok.noex b o e z
      · exact absurd (Nat.lt_of_lt_of_le (Heap.lt_size e) (Nat.le_trans I.ok.bsz z)) (Nat.lt_irrefl _)
    · rcases List.mem_cons.mp (I.stkSub b z) with z | z
      · exact (hfp b hb).1.2.1 z
      · exact (hfp b hb).1.2.2.1 z
  refine ⟨okB, rfl, I.bare, Un.kept kp, ⟨fun _ => none, ?_, fun i y av e1 e2 e3 => ?_⟩, fun y c e => ?_, ?_, fun y c e => ?_, fun p hp => ?_, I.hok.kept kp, by rw [wipe_length]; exact I.len⟩
  · show Heap.Ns _ cenv.locals _
    rw [hL]
    exact Heap.Ns.keeps (Heap.Ns.new ..) fun b o e => pushCells_keeps _ _ _ _ e
  · obtain ⟨e2, hne⟩ := wipe_some e2
    have hfr : scope.names.lookup y = some .free ∧ (cenv.kindOf y = some .cell ∨ cenv.kindOf y = some .free) := by
      have key : ∀ k, cenv.scope.names.lookup y = some k → k = .local ∨ k = .cell ∨ k = .free → scope.names.lookup y = some .free ∧ (cenv.kindOf y = some .cell ∨ cenv.kindOf y = some .free) := fun k hk hk' => by
        have hk0 := hk
        rw [hsc] at hk
        obtain ⟨k', e, r⟩ := lookup_relS hk
        have no : ¬ (k' = .local ∨ k' = .cell) := fun hh => by
          rcases ok.own _ (PySem.mem_of_lookup e) hh with e' | e'
          · obtain ⟨p, hp, hpy⟩ := List.mem_map.mp e'
            have e3 := ok.ix p hp
            have : p.1 = y := hpy
            rw [this] at e3
            exact hne (List.mem_map.mpr ⟨p, hp, nodup_ix hN e3 e1⟩)
          · exact e' (List.mem_of_getElem? e1)
        rcases r with rfl | ⟨rfl, rfl⟩
        · rcases hk' with rfl | rfl | rfl
          · exact absurd (.inl rfl) no
          · exact absurd (.inr rfl) no
          · exact ⟨e, .inr hk0⟩
        · exact ⟨e, .inl hk0⟩
      have e3 : Vis cenv.scope y := e3
      rcases e3 with e3 | e3 | e3
      · exact key _ e3 (.inl rfl)
      · exact key _ e3 (.inr (.inl rfl))
      · exact key _ e3 (.inr (.inr rfl))
    obtain ⟨m, hn, hl⟩ := I.loc
    have hvis : Vis X.env.scope y := (ok.free _ (PySem.mem_of_lookup hfr.1) rfl).elim (fun k => .inr (.inl k)) (fun k => .inr (.inr k))
    obtain ⟨w, r, q⟩ := hl i y av e1 e2 hvis
    refine ⟨w, r, .inr ⟨hfr.2, ?_⟩⟩
    obtain ⟨c, h1, h2⟩ := look hfr.1
    rcases q with ⟨k, _⟩ | ⟨_, c', e', z⟩
    · have k : X.env.scope.names.lookup y = some .local := k
      rcases ok.free _ (PySem.mem_of_lookup hfr.1) rfl with k' | k' <;> rw [show X.env.scope.names.lookup y = _ from k'] at k <;> cases k
    · rw [h2] at e'; cases e'
      exact ⟨c, h1, z.keeps kp⟩
  · have e : cenv.cells.lookup y = some c := e
    rcases mem e with ⟨h1, _⟩ | ⟨_, z⟩
    · obtain ⟨w, z⟩ := I.cell y c h1
      exact ⟨w, z.keeps kp⟩
    · exact ⟨_, z⟩
  · show H cenv.locals = none
    rw [hL]; exact I.hok.fresh (Nat.le_refl _)
  · have e : cenv.cells.lookup y = some c := e
    rcases mem e with ⟨h1, _⟩ | ⟨h1, _⟩
    · exact I.freeC y c h1
    · exact I.hok.fresh (Nat.le_of_succ_le h1)
  · exact absurd (show p ∈ ([] : List (Addr × Obj)) ++ [] from hp) (by simp)
/-- an item appended to a tracked list -/
theorem app_ok {E : Value → Shared → Prop} {D : Addr} {xs : List V} {y : V} {v : Value} {Q : Value → Shared → Prop} (I : Inv X pins σ H s) (hD : H D = some (.lst xs)) (hz : xs.length < sizeLine) (r : RelV y v)
    (h : ∀ s', Inv X pins σ (upd H D (.lst (xs ++ [y]))) s' → Q .none s') : wpAny (model X.prog X.w) X.A (call (.builtin "list.append") [.ref D, v]) Q E s := by
  obtain ⟨hz', its, n, ri, e⟩ := I.hok D _ hD
  have hl := ri.length
  refine append_at (hsz := by rw [List.size_toArray]; omega) e fun h' sb ho' => ?_
  refine h { s with heap := h' } (I.write (t' := s.toks) (by rw [hD]; trivial) (.inl rfl) (fun b u hb q => (sb.2 b hb).trans q) ⟨_, ho'⟩ ⟨by rw [List.length_append]; exact hz, its ++ [v], n + 1, ri.append (.cons r .nil), ?_⟩)
  rw [ho']
  simp
/-- a clause's tests -/
def PTs (X : Cx) (ifs : List Expr) (t : TT) : Prop :=
  ∀ (pins : List (Addr × Obj)) (s : Shared) (σ : St) (H : Hp) (Q : Bool → Hp → Prop), Inv X pins σ H s → t σ H Q →
    wpAny (model X.prog X.w) X.A (forIn ifs true fun c r => if r = true then do let ok ← isTrue c X.env (eval c X.env); pure (ForInStep.yield ok) else pure (ForInStep.yield r)) (TP X pins σ Q) X.xe s
def tYes : TT := fun _ H Q => Q true H
theorem pts_nil : PTs X [] tYes := fun _ _ _ H _ I h => wpAny_tests_nil ⟨H, I, h⟩
theorem pts_one {c : Expr} {t : TT} (h : PT X c t) : PTs X [c] t := fun pins s σ H Q I hw => wpAny_tests_one (h pins s σ H Q I hw)
end
theorem thnF {α : Type} {t : Sem α} {Q Q' : α → Shared → Prop} {M : Model} {A : Around} {E : Value → Shared → Prop} {s : Shared} (h : wpAny M A t Q (fun _ _ => False) s) (hQ : ∀ a s, Q a s → Q' a s) : wpAny M A t Q' E s := wpAny_mono h hQ fun _ _ z => False.elim z
/-- the loop of a list comprehension's block, the target of any form (codeAny_compLoop_tests asks a target that no tuple goes to; statement and proof follow it, PyProof/CompMap.lean:41-61, with the step letOwnedTupleGo kept) -/
theorem compLoop_any {prog : Program} {w : World} {A : Around} {R : Result → Shared → Prop} {s : Shared} {elt target iter : Expr} {ifs : List Expr} {scope : Scope} {pos : Pos} {it acc : Value} {env : Env} (I : Nat → Shared → Prop)
    (turn : ∀ n s, I n s → wpAny (model prog w) A (pyNext it) (fun r s₁ => match r with
      | none => R (.ok .next) s₁
      | some v => wpAny (model prog w) A (letOwnedTupleGo target it v) (fun _ s₁' => wpAny (model prog w) A (assign target env v) (fun _ s₂ =>
          wpAny (model prog w) A (forIn ifs true fun c r => if r = true then do let ok ← isTrue c env (eval c env); pure (ForInStep.yield ok) else pure (ForInStep.yield r)) (fun ok s₃ =>
            if ok = true then wpAny (model prog w) A (eval elt env) (fun x s₄ =>
              wpAny (model prog w) A (call (.builtin "list.append") [acc, x]) (fun _ s₅ => ∃ m, m < n ∧ I m s₅) (notedBy (model prog w) A env fun e s' => R (.error e) s') s₄) (notedBy (model prog w) A env fun e s' => R (.error e) s') s₃
            else ∃ m, m < n ∧ I m s₃) (notedBy (model prog w) A env fun e s' => R (.error e) s') s₂) (notedBy (model prog w) A env fun e s' => R (.error e) s') s₁') (notedBy (model prog w) A env fun e s' => R (.error e) s') s₁) (notedBy (model prog w) A env fun e s' => R (.error e) s') s)
    (n : Nat) (h : I n s) :
    codeAny (model prog w) A (.compLoop (.ListComp elt [⟨target, iter, ifs, 0⟩] scope pos) 0 it acc env) R s := by
  refine codeAny_loop rfl I (fun n s hI => ?_) n h
  show wpAny _ A ((compTurn (.ListComp elt [⟨target, iter, ifs, 0⟩] scope pos) 0 it acc env).onRaise (fun x => do noteFrame x env; theTreesLotGoes x)) _ _ s
  refine wpAny_noted ?_
  rw [compTurn_list]
  refine wpAny_bind (wpAny_standAt (wpAny_bind (wpAny_mono (turn n s hI) (fun r s₁ h₁ => ?_) fun _ _ h' => h')))
  cases r with
  | none => exact wpAny_pure h₁
  | some v =>
    refine wpAny_bind (wpAny_mono h₁ (fun _ s₁' h₁' => ?_) fun _ _ h' => h')
    refine wpAny_bind (wpAny_mono h₁' (fun _ s₂ h₂ => wpAny_bind (wpAny_mono h₂ (fun ok s₃ h₃ => ?_) fun _ _ h' => h')) fun _ _ h' => h')
    cases ok with
    | false => exact wpAny_pure ⟨rfl, h₃⟩
    | true =>
      exact wpAny_bind (wpAny_bind (wpAny_mono h₃ (fun x s₄ h₄ => wpAny_bind (wpAny_mono h₄ (fun _ s₅ h₅ => wpAny_pure (wpAny_pure ⟨rfl, h₅⟩)) fun _ _ h' => h')) fun _ _ h' => h'))
section
variable {X : Cx}
/-- [elt for target in iter if ..]: D the new list; W by the turn and a measure, Nx what a turn is to reach -/
def tLc (wi : TI) (g : TG) (tt : TT) (te : TE) (vs : List Nat) : TE := fun σ H Q => wi σ H fun J H1 => ∀ D, H1 D = none → ∃ W : Nat → Nat → Hp → Prop, (∃ m, W 0 m (upd H1 D (.lst []))) ∧ ∀ i m H, W i m H →
  (J.stop i H ∧ Q (.ref D) H) ∨ (J.go i H ∧ ∃ Nx : Hp → Prop, (∀ H', Nx H' → ∃ m', m' < m ∧ W (i + 1) m' H') ∧ ∀ x H', J.yld i H x H' → g x (wipe σ vs) H' fun σ2 H2 => wipe σ2 vs = wipe σ vs ∧ tt σ2 H2 fun b H3 =>
    if b = true then te σ2 H3 fun y H4 => ∃ acc, H4 D = some (.lst acc) ∧ acc.length < sizeLine ∧ Nx (upd H4 D (.lst (acc ++ [y]))) else Nx H3)
theorem lc_core {pins : List (Addr × Obj)} {s : Shared} {σ : St} {H : Hp} {Q : VK} {elt tg iter : Expr} {ifs : List Expr} {scope : Scope} {own : List (Str × Nat)} {pos pos' : Pos} {wi : TI} {g : TG} {tt : TT} {te : TE} {use : Option (Value → Sem Unit)} {Qf : Value → Shared → Prop}
    (hc : X.calm = true) (hN : X.N.Nodup) (I : Inv X pins σ H s) (hi : PI X tg iter wi) (ok : BlkOk X.N X.env.scope scope own)
    (hg : ∀ (s : Shared) (H : Hp) (C : Addr) (cl : List (Str × Addr)) (fp : List Addr), PG (X.blk s H scope (compEnvC scope cl C X.env) fp) tg g) (ht : ∀ (s : Shared) (H : Hp) (C : Addr) (cl : List (Str × Addr)) (fp : List Addr), PTs (X.blk s H scope (compEnvC scope cl C X.env) fp) ifs tt)
    (he : ∀ (s : Shared) (H : Hp) (C : Addr) (cl : List (Str × Addr)) (fp : List Addr), PE (X.blk s H scope (compEnvC scope cl C X.env) fp) elt te) (hs : ∀ x, foldedSetIterable iter X.env x = pure x)
    (h : tLc wi g tt te (own.map (·.2)) σ H Q)
    (hRR : ∀ D C s' m H', Inv X pins σ H' s' → Q (.ref D) H' → s'.heap.Ns C m → FpOk X pins H' C → compPost (model X.prog X.w) X.A X.xe use Qf (.ref D) C (.ok .next) s') :
    wpAny (model X.prog X.w) X.A (comprehension (.ListComp elt [⟨tg, iter, ifs, 0⟩] scope pos) scope X.env pos' (newList []) false (eval iter X.env) use) Qf X.xe s := by
  have hfree : ∀ y ∈ scope.names, y.2 = .free → ∃ c, X.env.cells.lookup y.1 = some c := fun y hy e => by
    rcases ok.free y hy e with k | k
    · exact I.ok.has _ (.inl k)
    · exact I.ok.has _ (.inr k)
  refine wpAny_comprehension_free (use := use) rfl hs (closure_ok hfree) ok.kind (fun y hy e => by rw [ok.uniq y hy, e])
    (thn (hi pins s σ H _ I h) fun xv s1 hx => thn hx fun itv s2 h2 => ?_)
  obtain ⟨it, fp, tn, J, H2, e, I2, T, st2, f2, q⟩ := h2
  subst e
  refine wpAny_newObj_type (newEnv_comp ?_) (by show 0 ≤ sizeLine; decide)
  generalize hD : s2.heap.objs.size = D
  have hDn : H2 D = none := I2.hok.fresh (Nat.le_of_eq hD)
  obtain ⟨W, ⟨m0, w0⟩, turn⟩ := q D hDn
  -- the new list
  generalize hs3 : ({ s2 with heap := s2.heap.push { cls := .type "list", data := .seq ([] : List Value).toArray } } : Shared) = s3
  have I3 : Inv X pins σ (upd H2 D (.lst [])) s3 := by
    rw [← hs3]
    refine I2.laid (t' := s2.toks) (fun b o e => Heap.get?_push_of_some _ e) (Nat.le_of_eq hD) ⟨Nat.zero_le _, [], 0, .nil, ?_⟩
    rw [← hD]
    exact Heap.get?_push_size _ rfl
  have h3 : s3.heap = s2.heap.push { cls := .type "list", data := .seq ([] : List Value).toArray } := by rw [← hs3]
  have sz : ∀ b ∈ fp, b < s2.heap.objs.size := fun b hb => by
    obtain ⟨o, e, _⟩ := T.obj _ _ st2 b hb
    exact Heap.lt_size e
  have f3 : ∀ b ∈ fp, FpOk X pins (upd H2 D (.lst [])) b ∧ b < s3.heap.objs.size := fun b hb => by
    have hlt := sz b hb
    refine ⟨⟨?_, (f2 b hb).2⟩, by rw [h3, Heap.size_push]; exact Nat.lt_succ_of_lt hlt⟩
    rw [upd_ne (by rw [← hD]; exact Nat.ne_of_lt hlt)]
    exact (f2 b hb).1
  have st3 : tn 0 s3.heap := T.keep _ _ _ st2 fun b _ o e => by rw [h3]; exact Heap.get?_push_of_some _ e
  have I4 := block_start I3 ok hN f3
  have pg := hg s3 (upd H2 D (.lst [])) s3.heap.objs.size (cellsFrom (s3.heap.objs.size + 1) scope.names (cloFrom X.env.cells scope.names [])) fp
  have pt := ht s3 (upd H2 D (.lst [])) s3.heap.objs.size (cellsFrom (s3.heap.objs.size + 1) scope.names (cloFrom X.env.cells scope.names [])) fp
  have pe := he s3 (upd H2 D (.lst [])) s3.heap.objs.size (cellsFrom (s3.heap.objs.size + 1) scope.names (cloFrom X.env.cells scope.names [])) fp
  show codeAny _ _ (.compStart (.ListComp elt [⟨tg, iter, ifs, 0⟩] scope pos) 0 (.ref it) (.ref D) (compEnvC scope (cellsFrom (s3.heap.objs.size + 1) scope.names (cloFrom X.env.cells scope.names [])) s3.heap.objs.size X.env)) (compPost (model X.prog X.w) X.A X.xe use Qf (.ref D) s3.heap.objs.size) { s3 with heap := pushCells (s3.heap.push { cls := .type "dict", data := .dict #[] }) scope.names }
  have nfp : ∀ b ∈ fp, (upd H2 D (.lst [])) b = none := fun b hb => (f3 b hb).1.1
  generalize hce : compEnvC scope (cellsFrom (s3.heap.objs.size + 1) scope.names (cloFrom X.env.cells scope.names [])) s3.heap.objs.size X.env = ce at I4 pg pt pe ⊢
  have cL : ce.locals = s3.heap.objs.size := by subst hce; rfl
  generalize hH3 : upd H2 D (.lst []) = H3 at I3 I4 pg pt pe w0 nfp f3
  generalize hs4 : ({ s3 with heap := pushCells (s3.heap.push { cls := .type "dict", data := .dict #[] }) scope.names } : Shared) = s4 at I4 ⊢
  have st4 : tn 0 s4.heap := T.keep _ _ _ st3 fun b _ o e => by rw [← hs4]; exact pushCells_keeps _ _ _ _ (Heap.get?_push_of_some _ e)
  have stat : ∀ {σ' : St} {H' : Hp} {s' : Shared}, Inv (X.blk s3 H3 scope ce fp) [] σ' H' s' → (∀ b ∈ fp, H' b = none) → ∀ b ∈ fp, FpOk (X.blk s3 H3 scope ce fp) [] H' b := fun {σ' H' s'} I' hn b hb =>
    ⟨hn b hb, (I'.ok.exf b hb).1, I'.ok.exfs b hb, .inl hb, fun x c e => (I'.ok.exf b hb).2 x c e, fun p hp => absurd (show p ∈ ([] : List (Addr × Obj)) ++ [] from hp) (by simp)⟩
  have loop : codeAny (model X.prog X.w) X.A (.compLoop (.ListComp elt [⟨tg, iter, ifs, 0⟩] scope pos) 0 (.ref it) (.ref D) ce) (compPost (model X.prog X.w) X.A X.xe use Qf (.ref D) s3.heap.objs.size) s4 := by
    refine compLoop_any (fun n s' => ∃ i H', Inv (X.blk s3 H3 scope ce fp) [] (wipe σ (own.map (·.2))) H' s' ∧ tn i s'.heap ∧ (∀ b ∈ fp, H' b = none) ∧ W i n H') ?_ m0 ⟨0, H3, I4, st4, nfp, w0⟩
    rintro n s5 ⟨i, H5, I5, st5, n5, w5⟩
    rcases turn i n H5 w5 with ⟨stop, qq⟩ | ⟨go, Nx, hNx, step⟩
    · have td := T.done (X.blk s3 H3 scope ce fp) rfl rfl rfl hc i [] s5 _ H5 (fun _ _ => False) I5 (stat I5 n5) st5 stop
      refine thnF td fun r s6 ⟨hr, I6⟩ => ?_
      subst hr
      -- back in the def's context
      have I7 : Inv X pins σ H5 s6 := I3.call' (ch := fp) I6.os I6.base I6.hok I6.bare fun b hb => ⟨(f3 b hb).1.2.2.2.1, (f3 b hb).1.2.1, (f3 b hb).1.2.2.2.2.1, (f3 b hb).1.2.2.2.2.2⟩
      have nC : H5 s3.heap.objs.size = none := by
        have z : H5 ce.locals = none := I6.free
        rw [cL] at z
        exact z
      obtain ⟨m, hn, _⟩ := I6.loc
      have hn : s6.heap.Ns ce.locals m := hn
      rw [cL] at hn
      exact hRR D s3.heap.objs.size s6 m H5 I7 qq hn (I3.fpOk (Nat.le_refl _) nC)
    · have ti := T.item (X.blk s3 H3 scope ce fp) rfl rfl rfl hc i [] s5 _ H5 (fun _ _ => False) I5 (stat I5 n5) st5 go
      refine thnF ti fun r s6 ⟨u, hr, h6⟩ => ?_
      subst hr
      refine thnF h6 fun _ s7 ⟨x, H7, I7, r7, y7, st7, n7⟩ => ?_
      have I7' := I7.pinned (stat I7 n7) (T.obj _ _ st7)
      refine thnF (pg _ s7 _ H7 x u _ I7' r7 (step x H7 y7)) fun _ s8 ⟨σ8, H8, I8, hw8, q8⟩ => ?_
      refine thnF (pt _ s8 σ8 H8 _ I8 q8) fun b s9 ⟨H9, I9, q9⟩ => ?_
      -- the turn's end
      have fin : ∀ {s' : Shared} {H' : Hp}, Inv (X.blk s3 H3 scope ce fp) ([] ++ pinsAt fp s7.heap) σ8 H' s' → Nx H' → ∃ m, m < n ∧ ∃ i H', Inv (X.blk s3 H3 scope ce fp) [] (wipe σ (own.map (·.2))) H' s' ∧ tn i s'.heap ∧ (∀ b ∈ fp, H' b = none) ∧ W i m H' := fun {s' H'} I' nx => by
        obtain ⟨m', hm, w'⟩ := hNx H' nx
        have pin' : ∀ b ∈ fp, ∀ o, s7.heap.get? b = some o → s'.heap.get? b = some o ∧ H' b = none := fun b hb o e =>
          let z := I'.pin (b, o) (List.mem_append_right _ (List.mem_append_right _ (mem_pinsAt hb e)))
          ⟨z.1, z.2.1⟩
        have hl : (wipe σ (own.map (·.2))).length = σ8.length := by rw [← hw8, wipe_length]
        refine ⟨m', hm, i + 1, H', (I'.unpinned (pins := [])).weak hl (fun j v e => ?_), T.keep _ _ _ st7 fun b hb o e => (pin' b hb o e).1, fun b hb => ?_, w'⟩
        · rw [← hw8] at e
          exact (wipe_some e).1
        · obtain ⟨o, e, _⟩ := T.obj _ _ st7 b hb
          exact (pin' b hb o e).2
      cases b with
      | false =>
        simp only [Bool.false_eq_true, if_false] at q9 ⊢
        exact fin I9 q9
      | true =>
        simp only [if_true] at q9 ⊢
        refine thnF (pe _ s9 σ8 H9 _ I9 q9) fun z s10 ⟨yv, H10, I10, r10, acc, hD10, hz10, nx⟩ => ?_
        exact app_ok (X := X.blk s3 H3 scope ce fp) I10 hD10 hz10 r10 fun s11 I11 => fin I11 nx
  exact codeAny_compStart_list loop (T.self X.A 0 _ _ _ st4 loop)
/-- as a value -/
theorem pe_lc {elt tg iter : Expr} {ifs : List Expr} {scope : Scope} {own : List (Str × Nat)} {pos : Pos} {wi : TI} {g : TG} {tt : TT} {te : TE} (hc : X.calm = true) (hN : X.N.Nodup) (hi : PI X tg iter wi) (ok : BlkOk X.N X.env.scope scope own)
    (hg : ∀ (s : Shared) (H : Hp) (C : Addr) (cl : List (Str × Addr)) (fp : List Addr), PG (X.blk s H scope (compEnvC scope cl C X.env) fp) tg g) (ht : ∀ (s : Shared) (H : Hp) (C : Addr) (cl : List (Str × Addr)) (fp : List Addr), PTs (X.blk s H scope (compEnvC scope cl C X.env) fp) ifs tt)
    (he : ∀ (s : Shared) (H : Hp) (C : Addr) (cl : List (Str × Addr)) (fp : List Addr), PE (X.blk s H scope (compEnvC scope cl C X.env) fp) elt te) (hs : ∀ x, foldedSetIterable iter X.env x = pure x := by intro _; rfl) :
    PE X (.ListComp elt [⟨tg, iter, ifs, 0⟩] scope pos) (tLc wi g tt te (own.map (·.2))) := by
  intro pins s σ H Q I h
  rw [eval_ListComp]
  refine lc_core hc hN I hi ok hg ht he hs h fun D C s' m H' I' q hn f => ⟨m, hn, fun h'' sb => ?_⟩
  obtain ⟨f0, f1, f2, f3, f4, f5⟩ := f
  exact ⟨.ref D, H', I'.turned (t' := s'.toks) (fun b o hb e => (sb.2 b hb).trans e) f0 f1 f3 f4 f5, rfl, q⟩
end
/-- over a list that the block leaves as it is -/
theorem lc_list {K : PySem.W.Frag} {a : Addr} {xs : List V} {g : TG} {tt : TT} {te : TE} {vs : List Nat} {σ : St} {H1 : Hp} {D : Addr} {Qd : Hp → Prop} (Pv : Nat → Hp → Prop) (h0 : Pv 0 (upd H1 D (.lst []))) (hl : ∀ i H, i ≤ xs.length → Pv i H → SqL K H a xs)
    (hs : ∀ i x H, xs[i]? = some x → Pv i H → g x (wipe σ vs) H fun σ2 H2 => wipe σ2 vs = wipe σ vs ∧ tt σ2 H2 fun b H3 =>
      if b = true then te σ2 H3 fun y H4 => ∃ acc, H4 D = some (.lst acc) ∧ acc.length < sizeLine ∧ Pv (i + 1) (upd H4 D (.lst (acc ++ [y]))) else Pv (i + 1) H3) (hd : ∀ H, Pv xs.length H → Qd H) :
    ∃ W : Nat → Nat → Hp → Prop, (∃ m, W 0 m (upd H1 D (.lst []))) ∧ ∀ i m H, W i m H →
      ((Itl K a).stop i H ∧ Qd H) ∨ ((Itl K a).go i H ∧ ∃ Nx : Hp → Prop, (∀ H', Nx H' → ∃ m', m' < m ∧ W (i + 1) m' H') ∧ ∀ x H', (Itl K a).yld i H x H' → g x (wipe σ vs) H' fun σ2 H2 => wipe σ2 vs = wipe σ vs ∧ tt σ2 H2 fun b H3 =>
        if b = true then te σ2 H3 fun y H4 => ∃ acc, H4 D = some (.lst acc) ∧ acc.length < sizeLine ∧ Nx (upd H4 D (.lst (acc ++ [y]))) else Nx H3) := by
  refine ⟨fun i m H => m = xs.length - i ∧ i ≤ xs.length ∧ Pv i H, ⟨xs.length, by simp, Nat.zero_le _, h0⟩, ?_⟩
  rintro i m H ⟨rfl, hi, p⟩
  have q := hl i H hi p
  by_cases hlt : i < xs.length
  · refine .inr ⟨⟨xs, xs[i], q, by simp [hlt]⟩, Pv (i + 1), fun H' p' => ⟨xs.length - (i + 1), by omega, rfl, hlt, p'⟩, fun x H' y => ?_⟩
    obtain ⟨e, y⟩ := y
    subst e
    exact hs i x _ (y xs q) p
  · have e : i = xs.length := by omega
    subst e
    exact .inl ⟨⟨xs, q, Nat.le_refl _⟩, hd H p⟩
def blkC (N : List Str) (sc scope : Scope) (own : List (Str × Nat)) : Bool :=
  (match scope.kind with | .function => true | _ => false) && (scope.names.all fun y => decide (scope.names.lookup y.1 = some y.2)) && (own.all fun p => decide (N[p.2]? = some p.1)) &&
    (scope.names.all fun y => match y.2 with
      | .free => (match sc.names.lookup y.1 with | some .cell => true | some .free => true | _ => false)
      | .local => decide (y.1 ∈ own.map (·.1)) || decide (y.1 ∉ N)
      | .cell => decide (y.1 ∈ own.map (·.1)) || decide (y.1 ∉ N)
      | _ => true)
theorem blkOk_by {N : List Str} {sc scope : Scope} {own : List (Str × Nat)} (h : blkC N sc scope own = true) : BlkOk N sc scope own := by
  unfold blkC at h
  simp only [Bool.and_eq_true, List.all_eq_true, decide_eq_true_eq] at h
  obtain ⟨⟨⟨h1, h2⟩, h3⟩, h4⟩ := h
  refine ⟨?_, h2, h3, fun y hy e => ?_, fun y hy e => ?_⟩
  · split at h1
    · assumption
    · cases h1
  · have q := h4 y hy
    simp only [e] at q
    split at q <;> first | exact .inl (by assumption) | exact .inr (by assumption) | cases q
  · have q := h4 y hy
    rcases e with e | e <;> (simp only [e, Bool.or_eq_true, decide_eq_true_eq] at q; exact q)
end L2
namespace L2
open PySem PySem.Spec PyProof.Rows
section
variable {prog : Program} {w : World} {A : Around} {R : Result → Shared → Prop} {s : Shared} {elt t0 i0 t1 i1 : Expr} {ifs0 ifs1 : List Expr} {scope : Scope} {pos : Pos} {it acc : Value} {env : Env}
end
section
variable {X : Cx}
end
end L2
namespace L2
open PySem PySem.Spec PyProof.Rows
section
variable {κ : Type} [DecidableEq κ]
end
section
variable {P : Program} {w : World} {H : Hp} {h : Heap} {a : Addr}
end
section
variable {X : Cx} {pins : List (Addr × Obj)} {σ : St} {H : Hp} {s : Shared} {a : Addr} {y v : V} {u r : Value} {o : Option V} {A : Around} {E : Value → Shared → Prop}
end
section
variable {X : Cx} {pins : List (Addr × Obj)} {σ : St} {H : Hp} {s : Shared} {a : Addr} {kvs : List (Key × V)} {k : Key} {u : Value} {A : Around} {E : Value → Shared → Prop}
end
/-- the element of a subscription, not a slice -/
def NoSl (i : Expr) : Prop := ∀ ov iv, subscripted i false ov iv = operate [ov, iv] (getItem ov iv)
theorem subD_of {prog : Program} {w : World} {A : Around} {E : Value → Shared → Prop} {s : Shared} {env : Env} {value slice : Expr} {pos : Pos} {T id : String} {Q : Value → Shared → Prop}
    (hl : typeLookup (.type T) "__getitem__" = pure (some (.builtin id))) (hs : NoSl slice)
    (h : wpAny (model prog w) A (eval value env) (fun o s₁ => wpAny (model prog w) A (eval slice env) (fun i s₂ => s₂.TypeIs o T ∧ wpAny (model prog w) A (getItem o i) Q E s₂) E s₁) E s) :
    wpAny (model prog w) A (eval (.Subscript value slice pos) env) Q E s := by
  refine Subscript_ (wpAny_mono h (fun o s₁ h₁ => wpAny_mono h₁ (fun i s₂ h₂ => ?_) fun _ _ x => x) fun _ _ x => x)
  obtain ⟨hT, h₂⟩ := h₂
  unfold subscriptTail
  refine wpAny_bind ?_
  rw [getitemInPython_of_ne hT.not_modules]
  refine wpAny_bind (wpAny_specialOf hT hl ?_)
  have fin : wpAny (model prog w) A (subscripted slice false o i) (fun r s₃ => wpAny (model prog w) A (letTemporaryGo value o r >>= fun _ => pure r) Q E s₃) E s₂ := by
    rw [hs o i]
    exact wpAny_operating (wpAny_mono h₂ (fun r s₃ h₃ => wpAny_bind (wpAny_letTemporaryGo (wpAny_pure h₃))) fun _ _ x => x)
  first
    | exact wpAny_pure (wpAny_bind fin)
    | exact wpAny_bind (wpAny_pure (wpAny_bind fin))
    | exact wpAny_bind fin
section
variable {X : Cx} {o i e value : Expr} {pos pos' tpos : Pos} {td ty tv : TE}
end
section
variable {X : Cx} {pos : Pos}
end
section
variable {X : Cx} {pins : List (Addr × Obj)} {σ : St} {H : Hp} {s : Shared} {a : Addr} {y d : V} {u r : Value} {o : Option V} {A : Around} {E : Value → Shared → Prop}
end
section
variable {X : Cx} {o e f : Expr} {apos cpos : Pos} {td ty tx : TE}
end
section
variable {X : Cx} {pins : List (Addr × Obj)} {σ : St} {H : Hp} {s : Shared} {a : Addr} {kvs : List (Key × V)} {A : Around} {E : Value → Shared → Prop}
end
section
variable {X : Cx} {pins : List (Addr × Obj)} {σ : St} {H : Hp} {s : Shared} {a : Addr} {y : V} {u : Value} {A : Around} {E : Value → Shared → Prop}
end
end L2
namespace L2
open PySem PySem.Spec PyProof.Rows
section
variable {prog : Program} {w : World} {A : Around} {E : Value → Shared → Prop}
end
section
variable {X : Cx}
end
end L2
namespace L2
open PySem PySem.Spec PyProof.Rows
section
variable {X : Cx} {pins : List (Addr × Obj)} {σ : St} {H : Hp} {s : Shared} {h' : Heap}
/-- .. and one new object is laid -/
theorem Inv.turnedNew {t' : Nat} {ch : List Addr} {T : Addr} {ob : HO} (I : Inv X pins σ H s) (k : ∀ b o, b ∉ ch → s.heap.get? b = some o → h'.get? b = some o) (hf : ∀ b ∈ ch, FpOk X pins H b) (hT : s.heap.objs.size ≤ T)
    (new : ObjOk X.prog X.w (upd H T ob) h' T ob) : Inv X pins σ (upd H T ob) { s with heap := h', toks := t' } := by
  have hn : H T = none := I.hok.fresh hT
  have nit : ∀ b u, H b = some u → b ∉ ch := fun b u e z => by
    have q := (hf b z).1
    rw [q] at e; cases e
  refine I.step (g' := s.gens) (d' := s.drawn) (ch := ch) (fun b hb => ⟨(hf b hb).2.2.2.1, (hf b hb).2.1, (hf b hb).2.2.2.2.1, (hf b hb).2.2.2.2.2⟩) (fun b o _ _ hc e _ => k b o hc e) (fun b o _ _ hc e _ => ⟨o.slots, k b o hc e⟩)
    (fun b o _ e n => ?_) (fun b o hc e => ⟨o, k b o hc e⟩) (fun b xs e => ?_) (fun b o u e => ?_) (fun b ps e => ⟨#[], ?_⟩) (fun m hm => ?_) (fun b u e => ?_) I.bare
  · rw [upd_ne (Nat.ne_of_lt (Nat.lt_of_lt_of_le (Heap.lt_size e) hT))]; exact n
  · rw [upd_ne (ne_of_none e hn)]; exact e
  · rw [upd_ne (ne_of_none e hn)]; exact e
  · rw [upd_ne (ne_of_none e hn), e]; simp
  · obtain ⟨o, es, ep, ho, r⟩ := hm
    exact ⟨o, es, ep, k _ o (fun z => (hf _ z).2.1 rfl) ho, r⟩
  · by_cases hb : b = T
    · subst hb
      rw [upd_same] at e
      cases e
      exact new
    · rw [upd_ne hb] at e
      refine (I.hok b u e).stay (fun c v hc q => k c v ?_ q) (fun c q => by rw [upd_ne (ne_of_none q hn)]; exact q) fun c xs q => by rw [upd_ne (ne_of_none q hn)]; exact q
      rcases hc with z | z
      · rw [z]; exact nit b u e
      · exact nit c _ z
end
section
variable {X : Cx}
theorem pi_one {tg : Expr} {pins : List (Addr × Obj)} {σ : St} {H : Hp} {s : Shared} {R : It → Hp → Prop} {J : It} {tn : Nat → Heap → Prop} {tk : Nat} (I : Inv X pins σ H s) (o : Obj)
    (T : Turn X.prog X.w X.K tg J [s.heap.objs.size] s.heap.objs.size tn) (st : tn 0 (s.heap.push o)) (q : R J H) : PIE X pins σ tg R (.ref s.heap.objs.size) { s with heap := s.heap.push o, toks := tk } := by
  refine ⟨s.heap.objs.size, [s.heap.objs.size], tn, J, H, rfl, I.kept fun b ob e => Heap.get?_push_of_some _ e, T, st, fun b hb => ?_, q⟩
  have e : b = s.heap.objs.size := by simpa using hb
  subst e
  exact I.fpOk (Nat.le_refl _) (I.hok.fresh (Nat.le_refl _))
end
section
variable {X : Cx} {tg : Expr}
end
section
variable {X : Cx} {tg : Expr}
end
def Its (x : Str) : It := ⟨fun i _ => i < x.cps.size, fun i H v H' => H' = H ∧ ∃ c, x.cps[i]? = some c ∧ v = .str ⟨#[c]⟩, fun i _ => x.cps.size ≤ i⟩
theorem turn_str {P : Program} {w : World} {K : PySem.W.Frag} {tg : Expr} (it : Addr) (x : Str) (t : Tok) (ty : String) (hty : ty = "str_ascii_iterator" ∨ ty = "str_iterator") :
    Turn P w K tg (Its x) [it] it (fun i h => h.IsStrIter it ty x t i) where
  mem := by simp
  obj := fun i h st b hb => by
    have e : b = it := by simpa using hb
    subst e
    obtain ⟨o, e, c, d⟩ := st
    exact ⟨o, e, fun v z => by rw [d] at z; cases z⟩
  keep := fun i h h' st k => let ⟨o, ho, r⟩ := st; ⟨o, k it (by simp) o ho, r⟩
  item := by
    intro X hP hw hK hc i pins s σ H E I hf st hg
    subst hP hw hK
    obtain ⟨f0, f1, f2, f3, f4, f5⟩ := hf it (by simp)
    have W : Walks X.prog X.w X.A it [it] [it] x.cps.size (SignAt x) (fun i h => h.IsStrIter it ty x t i) := by
      rcases hty with e | e
      · rw [e]; exact Walks.strAscii (I.ok.hd hc) it x t
      · rw [e]; exact Walks.strWide (I.ok.hd hc) it x t
    have hno : ["enumerate", "zip", "dict_itemiterator", "dict_reverseitemiterator", "odict_iterator", "itertools.zip_longest", "itertools.pairwise"].contains ty = false := by
      rcases hty with e | e
      · rw [e]; decide
      · rw [e]; decide
    refine W.item i s _ _ hg st fun v h' tk hv st' kk => ?_
    obtain ⟨c, u, hcx, rfl⟩ := hv
    have I1 : Inv X pins σ H { s with heap := h', toks := tk } := I.turned (fun b o hb e => kk b o (by simpa using hb) e) f0 f1 f3 f4 f5
    obtain ⟨oi, e, cc, dd⟩ := id st'
    exact ⟨_, rfl, go_of (s := { s with heap := h', toks := tk }) e cc dd hno ⟨.str ⟨#[c]⟩, H, I1, ⟨u, rfl⟩, ⟨rfl, c, hcx, rfl⟩, st', fun b hb => (hf b hb).1⟩⟩
  done := by
    intro X hP hw hK hc i pins s σ H E I hf st hg
    subst hP hw hK
    obtain ⟨f0, f1, f2, f3, f4, f5⟩ := hf it (by simp)
    have hx : x.cps[i]? = none := Array.getElem?_eq_none hg
    rcases hty with e | e
    · rw [e] at st
      exact wpAny_pyNext_ascii_end (I.ok.hd hc) st hx fun h' eb => ⟨rfl, I.turned (t' := s.toks) (fun b o hb e => eb b o hb e) f0 f1 f3 f4 f5⟩
    · rw [e] at st
      exact wpAny_pyNext_wide_end (I.ok.hd hc) st hx fun h' eb => ⟨rfl, I.turned (t' := s.toks) (fun b o hb e => eb b o hb e) f0 f1 f3 f4 f5⟩
  self := fun A i s Q E st h => by
    rcases hty with e | e
    · rw [e] at st; exact wpAny_pyIter_striter_ascii st h
    · rw [e] at st; exact wpAny_pyIter_striter_wide st h
def iStr (te : TE) : TI := fun σ H R => te σ H fun v H1 => ∃ x, v = .str x ∧ R (Its x) H1
theorem pi_str {X : Cx} {tg e : Expr} {te : TE} (he : PE X e te) : PI X tg e (iStr te) := by
  intro pins s σ H R I h
  refine thn (he pins s σ H _ I h) fun v s1 ⟨y, H1, I1, r1, x, ex, q⟩ => ?_
  subst ex
  obtain ⟨t, rfl⟩ := r1
  cases ha : x.cps.all (· < 128)
  · exact wpAny_pyIter_wide ha (pi_one (tk := s1.toks) I1 _ (turn_str _ x t "str_iterator" (.inr rfl)) ⟨_, Heap.get?_push_size _ rfl, rfl, rfl⟩ q)
  · exact wpAny_pyIter_ascii ha (pi_one (tk := s1.toks) I1 _ (turn_str _ x t "str_ascii_iterator" (.inl rfl)) ⟨_, Heap.get?_push_size _ rfl, rfl, rfl⟩ q)
section
variable {prog : Program} {w : World} {A : Around} {E : Value → Shared → Prop} {s : Shared}
end
theorem paired_get {α β : Type} {G : α → β → Prop} {l₁ : List α} {l₂ : List β} (h : Paired G l₁ l₂) : ∀ {i : Nat} {a : α}, l₁[i]? = some a → ∃ b, l₂[i]? = some b ∧ G a b := by
  induction h with
  | nil => intro i a e; simp at e
  | @cons a b l₁ l₂ r t ih =>
    intro i a' e
    cases i with
    | zero =>
      simp only [List.getElem?_cons_zero, Option.some.injEq] at e
      subst e
      exact ⟨b, rfl, r⟩
    | succ j =>
      simp only [List.getElem?_cons_succ] at e ⊢
      exact ih e
section
variable {X : Cx} {pins : List (Addr × Obj)} {σ : St} {H : Hp} {s : Shared} {d : Addr} {o : Obj}
end
section
variable {P : Program} {w : World} {K : PySem.W.Frag} {tg : Expr} {d : Addr} {o : Obj} {es : Array DictEntry} {ep : Nat}
end
section
variable {X : Cx} {tg e : Expr} {td : TE} {apos cpos : Pos}
end
end L2
section 
namespace Bits
open PySem PyProof.Rows
end Bits
end 
section 
namespace TL
open PySem PySem.Builtin PySem.Builtin.Str PySem.StrLaws
end TL
end 
namespace L2
open PySem PySem.Spec PyProof.Rows
theorem strs_of_vals : ∀ {ys : List Str} {us : List Value}, Vals (ys.map V.str) us → StrsAre us ys
  | [], _, .nil => .nil
  | y :: ys, _, .cons r t => by
    obtain ⟨k, rfl⟩ := r
    exact .cons y k (strs_of_vals t)
section
variable {X : Cx} {pins : List (Addr × Obj)} {σ : St} {H : Hp} {s : Shared} {Q : VK}
end
section
variable {X : Cx}
end
section
variable {X : Cx} {o e : Expr} {to te : TE}
end
end L2
namespace L2
open PySem PySem.Spec PyProof.Rows
section
variable {X : Cx}
end
end L2
namespace Att
open PySem PySem.W PySem.Calls PyProof.Rows
section
variable {prog : Program} {w : World} {A : Around} {E : Value → Shared → Prop} {s : Shared} {K : Frag}
end
end Att
namespace L2
open PySem PySem.Spec PyProof.Rows
end L2
namespace L2
open PySem PySem.Spec PyProof.Rows
end L2
namespace L2
open PySem PySem.Spec PyProof.Rows
def defArgs (s : Stmt) : Arguments := match s with
  | .FunctionDef _ a _ _ _ _ _ _ _ _ => a
  | _ => { posonlyargs := [], args := [], vararg := none, kwonlyargs := [], kw_defaults := [], kwarg := none, defaults := [] }
def defBody (s : Stmt) : List Stmt := match s with
  | .FunctionDef _ _ b _ _ _ _ _ _ _ => b
  | _ => []
def defScope (s : Stmt) : Scope := match s with
  | .FunctionDef _ _ _ _ _ _ sc _ _ _ => sc
  | _ => { kind := .function, names := [], isGenerator := false, isCoroutine := false }
abbrev CX0 : CXT := fun _ _ _ _ _ _ => False
abbrev E0 : XK := fun _ _ _ => False
theorem pass0 {X : Cx} : Passes CX0 X E0 := fun _ _ _ _ _ _ _ h => h.elim
structure Fun (K : PySem.W.Frag) (x qual : Str) (st : Stmt) (f : Addr) (fd : FuncData) : Prop where
  ex : ∃ (oc : Value) (od : Option Addr) (kV doc pm : Value) (an : Option Addr) (cdv ct : Value) (osl : Array (Option Value)),
    fd = PySem.W.fnOf x qual (defArgs st) (defBody st) (defScope st) .none kV doc pm an cdv ct ∧ K.lookup f = some ⟨oc, od, .func fd, osl⟩ ∧ PySem.W.codeIn K cdv qual = true
  kp : PySem.W.keepIn K (.ref f) = true
section
variable {P : Program} {w : World} {K : PySem.W.Frag} {mg : Str → Option Value} {base : Heap}
/-- THE RULE for a def: its body as a term of rules, and the reading of that term -/
theorem Fun.ok {x qual : Str} {st : Stmt} {f : Addr} {fd : FuncData} {N ps : List Str} {k : Nat} {sp : Sp} (F : Fun K x qual st f fd) (S : FnScope N ps (defScope st)) (len : ∀ vs H Q E, sp vs H Q E → vs.length = ps.length)
    (hbody : ∀ (cdv : Value) (A : Around) (outer : List Env) (s : Shared) (H : Hp) (vs : List V) (Q : VK) (E : XK), Room k (A.deeper (envOfC qual (defScope st) s.heap.objs.size f cdv)) → sp vs H Q E →
      ∃ t, PSs (cxOf CX0 P w K mg base N qual (defScope st) f cdv A outer s H E).nox (defBody st) t ∧ t { nx := fun _ H' => Q .non H', rt := Q } (start N vs) H) : FnOk P w K mg base CX0 (k + 1) f fd ps sp := by
  obtain ⟨oc, od, kV, doc, pm, an, cdv, ct, osl, rfl, lk, hcd⟩ := F.ex
  refine fn_of lk hcd S len fun A outer s H vs Q E hr hsp => ?_
  obtain ⟨t, h, q⟩ := hbody cdv A outer s H vs Q E hr hsp
  exact ⟨t, h.nox, q⟩
/-- how its arguments bind (no defaults): h is «fun _ _ _ _ _ _ us hl => match us, hl with | [_, _], _ => rfl», one _ a parameter -/
theorem Fun.binds {x qual : Str} {st : Stmt} {f : Addr} {fd : FuncData} {ps : List Str} (F : Fun K x qual st f fd)
    (h : ∀ (kV doc pm : Value) (an : Option Addr) (cdv ct : Value) (us : List Value), us.length = ps.length → bindArgs (PySem.W.fnOf x qual (defArgs st) (defBody st) (defScope st) .none kV doc pm an cdv ct) ⟨us, []⟩ = pure (ps.zip us)) : Binds K fd ps [] := by
  obtain ⟨oc, od, kV, doc, pm, an, cdv, ct, osl, rfl, lk, hcd⟩ := F.ex
  exact .all (h kV doc pm an cdv ct)
theorem fun_mk {x qual : Str} {st : Stmt} {f : Addr} {oc : Value} {od an : Option Addr} {osl : Array (Option Value)} {kV doc pm cdv ct : Value} (l : K.lookup f = some ⟨oc, od, .func (PySem.W.fnOf x qual (defArgs st) (defBody st) (defScope st) .none kV doc pm an cdv ct), osl⟩)
    (c : PySem.W.codeIn K cdv qual = true) (k : PySem.W.keepIn K (.ref f) = true) : Fun K x qual st f (PySem.W.fnOf x qual (defArgs st) (defBody st) (defScope st) .none kV doc pm an cdv ct) := ⟨⟨oc, od, kV, doc, pm, an, cdv, ct, osl, rfl, l, c⟩, k⟩
end
section
variable {X : Cx}
theorem pv (i : Nat) {x : Str} {pos : Pos} (hN : X.N[i]? = some x := by rfl) (hv : Vis X.env.scope x := by first | exact Or.inl rfl | exact Or.inr (Or.inl rfl) | exact Or.inr (Or.inr rfl)) (hd : (x == ("__debug__" : Str)) = false := by decide)
    (hcd : (x == ("__classdict__" : Str)) = false := by decide) : PE X (.Name x pos) (tVar i) := pe_var hN hv hd hcd
end
theorem iteT {A B : Prop} (h : A) : if true = true then A else B := by
  rw [if_pos rfl]
  exact h
theorem ite2 {c A B : Prop} [Decidable c] (h1 : c → A) (h2 : ¬ c → B) : if c then A else B := by
  by_cases h : c
  · rw [if_pos h]
    exact h1 h
  · rw [if_neg h]
    exact h2 h
/-- all that was tracked is as it was -/
def Same (H H' : Hp) : Prop := ∀ b o, H b = some o → H' b = some o
theorem Same.refl (H : Hp) : Same H H := fun _ _ h => h
theorem Same.trans {H H1 H2 : Hp} (a : Same H H1) (b : Same H1 H2) : Same H H2 := fun c o h => b c o (a c o h)
theorem Same.free {H H' : Hp} (e : Same H H') {l : Addr} (h : H' l = Option.none) : H l = Option.none := by
  cases q : H l with
  | none => rfl
  | some o =>
    rw [e l o q] at h
    cases h
theorem Same.seq {K : PySem.W.Frag} {H H' : Hp} {a : Addr} {xs : List V} (e : Same H H') (h : SqL K H a xs) : SqL K H' a xs := by
  rcases h with (h | ⟨o, h⟩) | h
  · exact .inl (.inl (e _ _ h))
  · exact .inl (.inr ⟨o, e _ _ h⟩)
  · exact .inr h
section
variable {κ : Type} [DecidableEq κ]
end
theorem at_of {xs : List V} {z : Int} {j : Nat} {v : V} (e : z = (j : Int)) (h : xs[j]? = some v) : atI xs z = some v := by
  rw [e]
  exact atI_nat h
end L2
section
set_option Elab.async false
set_option linter.all false
set_option maxRecDepth 100000
set_option maxHeartbeats 2000000
namespace L2
open PySem PySem.Spec PyProof.Rows
open PySem.W (WData Codec OpenSpec Well WellAll ReadsW ReadsAllW)
mutual
/-- x stands for the datum d, lists and tuples all the way -/
inductive Dw (K : PySem.W.Frag) (H : Hp) : V → WData → Prop
  | non : Dw K H .non .none
  | bl (b : Bool) : Dw K H (.bl b) (.bool b)
  | int (i : Int) : Dw K H (.int i) (.int i)
  | str (x : Str) : Dw K H (.str x) (.str x)
  | byt (b : Array UInt8) : Dw K H (.byt b) (.bytes b.toList)
  | lst {a : Addr} {xs : List V} {ds : List WData} : SqL K H a xs → DwAll K H xs ds → Dw K H (.ref a) (.list ds)
  | tup {a : Addr} {xs : List V} {ds : List WData} : SqT K H a xs → DwAll K H xs ds → Dw K H (.ref a) (.tuple ds)
inductive DwAll (K : PySem.W.Frag) (H : Hp) : List V → List WData → Prop
  | nil : DwAll K H [] []
  | cons {v : V} {vs : List V} {d : WData} {ds : List WData} : Dw K H v d → DwAll K H vs ds → DwAll K H (v :: vs) (d :: ds)
end
theorem dw_ints {K : PySem.W.Frag} {H : Hp} : ∀ ns : List Int, DwAll K H (ns.map V.int) (ns.map WData.int)
  | [] => .nil
  | n :: r => .cons (.int n) (dw_ints r)
theorem ints_dw {K : PySem.W.Frag} {H : Hp} : ∀ (ns : List Int) (xs : List V), DwAll K H xs (ns.map WData.int) → xs = ns.map V.int
  | [], xs, h => by
    cases h
    rfl
  | n :: r, xs, h => by
    cases h with
    | cons h1 h2 =>
      cases h1
      rw [ints_dw r _ h2] <;> rfl
section
variable {P : Program} {w : World} {K : PySem.W.Frag} {H : Hp} {h : Heap} {R : PySem.W.WRecords} {cl : Str → Option Addr}
theorem sqL_at {a : Addr} {xs : List V} (hok : HOk P w H h) (KX : K.In h) (q : SqL K H a xs) : ∃ (its : List Value) (o : Obj) (n : Nat), Vals xs its ∧ h.get? a = some o ∧ o.cls = .type "list" ∧ o.data = .seq its.toArray n := by
  rcases q with q | ⟨o, its, n, e, hc, _, hd, _, hv⟩
  · obtain ⟨_, its, n, hv, e⟩ := (show ObjOk P w H h a (.lst xs) from q.ok hok)
    exact ⟨its, _, n, hv, e, rfl, rfl⟩
  · exact ⟨its.toList, o, n, hv, KX _ _ e, hc, by simp [hd]⟩
theorem sqT_at {a : Addr} {xs : List V} (hok : HOk P w H h) (KX : K.In h) (q : SqT K H a xs) : ∃ (its : List Value) (o : Obj) (n : Nat), Vals xs its ∧ h.get? a = some o ∧ o.cls = .type "tuple" ∧ o.data = .seq its.toArray n := by
  rcases q with q | ⟨o, its, n, e, hc, hd, _, hv⟩
  · obtain ⟨_, its, hv, o, e, hc, n, hd⟩ := (show ObjOk P w H h a (.tup xs) from q.ok hok)
    exact ⟨its, o, n, hv, e, hc, hd⟩
  · exact ⟨its.toList, o, n, hv, KX _ _ e, hc, by simp [hd]⟩
mutual
theorem Dw.reads (hok : HOk P w H h) (KX : K.In h) : ∀ (d : WData) (v : V) (u : Value), Dw K H v d → RelV v u → ∃ as, ReadsW R cl h u d as
  | .none, _, _, x, r => by
    cases x
    cases r
    exact ⟨_, ReadsW.none⟩
  | .bool b, _, _, x, r => by
    cases x
    cases r
    exact ⟨_, ReadsW.bool b⟩
  | .int i, _, _, x, r => by
    cases x
    obtain ⟨t, rfl⟩ := r
    exact ⟨_, ReadsW.int i t⟩
  | .str s, _, _, x, r => by
    cases x
    obtain ⟨t, rfl⟩ := r
    exact ⟨_, ReadsW.str s t⟩
  | .bytes b, _, _, x, r => by
    cases x
    obtain ⟨t, rfl⟩ := r
    exact ⟨_, ReadsW.bytes _ t⟩
  | .list ds, _, _, x, r => by
    cases x with
    | lst hs ha =>
      cases r
      obtain ⟨its, o, n, rv, ho, hc, hd⟩ := sqL_at hok KX hs
      obtain ⟨as, hr⟩ := Dw.readsAll hok KX ds _ its ha rv
      exact ⟨_, ReadsW.list ho hc hd hr⟩
  | .tuple ds, _, _, x, r => by
    cases x with
    | tup hs ha =>
      cases r
      obtain ⟨its, o, n, rv, ho, hc, hd⟩ := sqT_at hok KX hs
      obtain ⟨as, hr⟩ := Dw.readsAll hok KX ds _ its ha rv
      exact ⟨_, ReadsW.tuple ho hc hd hr⟩
  | .float _, _, _, x, _ => by cases x
  | .dict _, _, _, x, _ => by cases x
  | .bytearray _, _, _, x, _ => by cases x
  | .set _, _, _, x, _ => by cases x
  | .frozenset _, _, _, x, _ => by cases x
  | .obj _ _, _, _, x, _ => by cases x
theorem Dw.readsAll (hok : HOk P w H h) (KX : K.In h) : ∀ (ds : List WData) (vs : List V) (us : List Value), DwAll K H vs ds → Vals vs us → ∃ as, ReadsAllW R cl h us ds as
  | [], _, _, x, r => by
    cases x
    cases r
    exact ⟨_, ReadsAllW.nil⟩
  | d :: ds, _, _, x, r => by
    cases x with
    | cons h1 h2 =>
      cases r with
      | cons r1 r2 =>
        obtain ⟨as, q1⟩ := Dw.reads hok KX d _ _ h1 r1
        obtain ⟨bs, q2⟩ := Dw.readsAll hok KX ds _ _ h2 r2
        exact ⟨_, ReadsAllW.cons q1 q2⟩
end
end
mutual
/-- data that a codec tells -/
def plW : WData → Bool
  | .none => true
  | .bool _ => true
  | .int _ => true
  | .str _ => true
  | .bytes _ => true
  | .list xs => plWs xs
  | .tuple xs => plWs xs
  | _ => false
def plWs : List WData → Bool
  | [] => true
  | x :: r => plW x && plWs r
end
theorem plWs_map {α : Type} {f : α → WData} (h : ∀ a, plW (f a) = true) : ∀ l : List α, plWs (l.map f) = true
  | [] => rfl
  | x :: r => by
    show (plW (f x) && plWs (r.map f)) = true
    rw [h x, plWs_map h r] <;> rfl
theorem pl_enc : ∀ (c : Codec) (a : c.denote), plW (c.enc a) = true
  | .unit, _ => rfl
  | .bool, _ => rfl
  | .int _ _, _ => rfl
  | .nat _ _, _ => rfl
  | .u8, _ => rfl
  | .bytes _ _, _ => rfl
  | .text _ _ _ _, _ => rfl
  | .list _ _ c, a => plWs_map (fun x => pl_enc c x) a
  | .pair c d, a => by
    show (plW (c.enc a.1) && (plW (d.enc a.2) && true)) = true
    rw [pl_enc c a.1, pl_enc d a.2] <;> rfl
  | .triple c d e, a => by
    show (plW (c.enc a.1) && (plW (d.enc a.2.1) && (plW (e.enc a.2.2) && true))) = true
    rw [pl_enc c a.1, pl_enc d a.2.1, pl_enc e a.2.2] <;> rfl
  | .option c, none => rfl
  | .option c, some x => pl_enc c x
theorem pl_encAll : ∀ (cs : List Codec) (a : Codec.denoteAll cs), plWs (Codec.encAll cs a) = true
  | [], _ => rfl
  | c :: cs, a => by
    show (plW (c.enc a.1) && plWs (Codec.encAll cs a.2)) = true
    rw [pl_enc c a.1, pl_encAll cs a.2] <;> rfl
theorem weight_mem : ∀ {xs : List WData} {d : WData}, d ∈ xs → d.weight ≤ WData.weightAll xs
  | [], d, h => absurd h (by simp)
  | x :: r, d, h => by
    show d.weight ≤ x.weight + 1 + WData.weightAll r
    rcases List.mem_cons.mp h with e | m
    · rw [e]
      omega
    · have z := weight_mem m
      omega
def toV : Value → V
  | .none => .non
  | .bool b => .bl b
  | .int i _ => .int i
  | .str x _ => .str x
  | .bytes b _ => .byt b
  | .ref a => .ref a
  | _ => .non
/-- a value of the arguments, its objects among A -/
def OkU (A : List Addr) : Value → Prop
  | .none => True
  | .bool _ => True
  | .int _ _ => True
  | .str _ _ => True
  | .bytes _ _ => True
  | .ref a => a ∈ A
  | _ => False
theorem OkU.mono {A B : List Addr} (h : ∀ a ∈ A, a ∈ B) : ∀ {u : Value}, OkU A u → OkU B u := fun {u} x => by
  cases u with
  | ref a => exact h a x
  | none => trivial
  | bool b => trivial
  | int i t => trivial
  | str s t => trivial
  | bytes b t => trivial
  | _ => exact False.elim x
theorem relV_toV {A : List Addr} {u : Value} (x : OkU A u) : RelV (toV u) u := by
  cases u with
  | ref a => rfl
  | none => rfl
  | bool b => rfl
  | int i t => exact ⟨t, rfl⟩
  | str s t => exact ⟨t, rfl⟩
  | bytes b t => exact ⟨t, rfl⟩
  | _ => exact False.elim x
theorem vals_toV {A : List Addr} : ∀ {vs : List Value}, (∀ u ∈ vs, OkU A u) → Vals (vs.map toV) vs
  | [], _ => .nil
  | u :: r, h => .cons (relV_toV (h u (List.mem_cons_self ..))) (vals_toV fun x hx => h x (List.mem_cons_of_mem _ hx))
/-- an object of the arguments -/
def ArgOb (h : Heap) (A : List Addr) (a : Addr) : Prop := ∃ vs : List Value, vs.length ≤ sizeLine ∧ (∀ u ∈ vs, OkU A u) ∧
  (h.get? a = some { cls := .type "list", data := .seq vs.toArray } ∨ h.get? a = some { cls := .type "tuple", data := .seq vs.toArray })
theorem ArgOb.mono {h : Heap} {A B : List Addr} {a : Addr} (k : ∀ a ∈ A, a ∈ B) (x : ArgOb h A a) : ArgOb h B a := by
  obtain ⟨vs, h1, h2, h3⟩ := x
  exact ⟨vs, h1, fun u hu => (h2 u hu).mono k, h3⟩
theorem wellAll_len {P : Params} {h : Heap} : ∀ {vs : List Value} {ds : List WData}, WellAll P h vs ds → vs.length = ds.length
  | _, _, .nil => rfl
  | _, _, .cons _ b => by
    show _ + 1 = _ + 1
    rw [wellAll_len b]
theorem well_list {P : Params} {h : Heap} {v : Value} {ds : List WData} (x : Well P h v (.list ds)) : ∃ (a : Addr) (vs : List Value), v = .ref a ∧ h.get? a = some { cls := .type "list", data := .seq vs.toArray } ∧ WellAll P h vs ds := by
  cases x with
  | list ho hall => exact ⟨_, _, rfl, ho, hall⟩
theorem well_tuple {P : Params} {h : Heap} {v : Value} {ds : List WData} (x : Well P h v (.tuple ds)) : ∃ (a : Addr) (vs : List Value), v = .ref a ∧ h.get? a = some { cls := .type "tuple", data := .seq vs.toArray } ∧ WellAll P h vs ds := by
  cases x with
  | tuple ho hall => exact ⟨_, _, rfl, ho, hall⟩
theorem well_cons {P : Params} {h : Heap} {us : List Value} {d : WData} {ds : List WData} (x : WellAll P h us (d :: ds)) : ∃ (v : Value) (vs : List Value), us = v :: vs ∧ Well P h v d ∧ WellAll P h vs ds := by
  cases x with
  | cons a b => exact ⟨_, _, rfl, a, b⟩
theorem line_of {n : Nat} (h : n ≤ 1048576) : n ≤ sizeLine := Nat.le_trans h (by decide)
section
variable {P : Params} {h : Heap}
mutual
theorem area_one : ∀ (d : WData) (v : Value), Well P h v d → plW d = true → d.weight ≤ 1048576 → ∃ A : List Addr, OkU A v ∧ ∀ a ∈ A, ArgOb h A a
  | .none, _, x, _, _ => by
    cases x
    exact ⟨[], trivial, fun a m => absurd m (by simp)⟩
  | .bool b, _, x, _, _ => by
    cases x
    exact ⟨[], trivial, fun a m => absurd m (by simp)⟩
  | .int i, _, x, _, _ => by
    cases x
    exact ⟨[], trivial, fun a m => absurd m (by simp)⟩
  | .str s, _, x, _, _ => by
    cases x
    exact ⟨[], trivial, fun a m => absurd m (by simp)⟩
  | .bytes b, _, x, _, _ => by
    cases x
    exact ⟨[], trivial, fun a m => absurd m (by simp)⟩
  | .list ds, _, x, p, z => by
    obtain ⟨a, vs, rfl, ho, hall⟩ := well_list x
    have z2 : WData.weightAll ds ≤ 1048576 := z
    obtain ⟨A, h1, h2⟩ := area_all ds _ hall p fun d hd => Nat.le_trans (weight_mem hd) z2
    have k : ∀ b ∈ A, b ∈ a :: A := fun b hb => List.mem_cons_of_mem _ hb
    refine ⟨a :: A, List.mem_cons_self .., fun b hb => ?_⟩
    rcases List.mem_cons.mp hb with e | m
    · rw [e]
      exact ⟨vs, line_of (by rw [wellAll_len hall]; exact Nat.le_trans (PySem.W.length_le_weightAllW ds) z2), fun u hu => (h1 u hu).mono k, .inl ho⟩
    · exact (h2 b m).mono k
  | .tuple ds, _, x, p, z => by
    obtain ⟨a, vs, rfl, ho, hall⟩ := well_tuple x
    have z2 : WData.weightAll ds ≤ 1048576 := z
    obtain ⟨A, h1, h2⟩ := area_all ds _ hall p fun d hd => Nat.le_trans (weight_mem hd) z2
    have k : ∀ b ∈ A, b ∈ a :: A := fun b hb => List.mem_cons_of_mem _ hb
    refine ⟨a :: A, List.mem_cons_self .., fun b hb => ?_⟩
    rcases List.mem_cons.mp hb with e | m
    · rw [e]
      exact ⟨vs, line_of (by rw [wellAll_len hall]; exact Nat.le_trans (PySem.W.length_le_weightAllW ds) z2), fun u hu => (h1 u hu).mono k, .inr ho⟩
    · exact (h2 b m).mono k
  | .float _, _, _, p, _ => Bool.noConfusion (show false = true from p)
  | .dict _, _, _, p, _ => Bool.noConfusion (show false = true from p)
  | .bytearray _, _, _, p, _ => Bool.noConfusion (show false = true from p)
  | .set _, _, _, p, _ => Bool.noConfusion (show false = true from p)
  | .frozenset _, _, _, p, _ => Bool.noConfusion (show false = true from p)
  | .obj _ _, _, _, p, _ => Bool.noConfusion (show false = true from p)
theorem area_all : ∀ (ds : List WData) (vs : List Value), WellAll P h vs ds → plWs ds = true → (∀ d ∈ ds, d.weight ≤ 1048576) → ∃ A : List Addr, (∀ u ∈ vs, OkU A u) ∧ ∀ a ∈ A, ArgOb h A a
  | [], _, x, _, _ => by
    cases x
    exact ⟨[], fun u m => absurd m (by simp), fun a m => absurd m (by simp)⟩
  | d :: ds, _, x, p, z => by
    obtain ⟨v, vs, rfl, x1, x2⟩ := well_cons x
    have q : plW d = true ∧ plWs ds = true := Bool.and_eq_true_iff.mp p
    obtain ⟨A, a1, a2⟩ := area_one d v x1 q.1 (z d (List.mem_cons_self ..))
    obtain ⟨B, b1, b2⟩ := area_all ds vs x2 q.2 fun e he => z e (List.mem_cons_of_mem _ he)
    have kA : ∀ b ∈ A, b ∈ A ++ B := fun b hb => List.mem_append.mpr (.inl hb)
    have kB : ∀ b ∈ B, b ∈ A ++ B := fun b hb => List.mem_append.mpr (.inr hb)
    refine ⟨A ++ B, fun u hu => ?_, fun b hb => ?_⟩
    · rcases List.mem_cons.mp hu with e | m
      · rw [e]
        exact a1.mono kA
      · exact (b1 u m).mono kB
    · rcases List.mem_append.mp hb with m | m
      · exact (a2 b m).mono kA
      · exact (b2 b m).mono kB
end
end
/-- what is tracked of an argument's object -/
def hoOf (o : Obj) : Option HO := match o.data with
  | .seq vs _ => if (o.cls == Value.type "list") = true then some (.frz o (.lst (vs.toList.map toV))) else some (.frz o (.tup (vs.toList.map toV)))
  | _ => none
def argH (K : PySem.W.Frag) (h : Heap) (A : List Addr) : Hp := fun b => if b ∈ A then (if (K.lookup b).isNone = true then (h.get? b).bind hoOf else none) else none
/-- nothing is tracked but what is known to the object -/
def OnlyF (H : Hp) : Prop := ∀ b, H b = none ∨ ∃ o u, H b = some (.frz o u)
theorem hoOf_lst (vs : List Value) : hoOf { cls := .type "list", data := .seq vs.toArray } = some (.frz { cls := .type "list", data := .seq vs.toArray } (.lst (vs.map toV))) := by
  show (if (Value.type "list" == Value.type "list") = true then some (HO.frz { cls := .type "list", data := .seq vs.toArray } (.lst (vs.toArray.toList.map toV))) else some (HO.frz { cls := .type "list", data := .seq vs.toArray } (.tup (vs.toArray.toList.map toV)))) = _
  rw [if_pos (beq_self_eq_true _)]
theorem hoOf_tup (vs : List Value) : hoOf { cls := .type "tuple", data := .seq vs.toArray } = some (.frz { cls := .type "tuple", data := .seq vs.toArray } (.tup (vs.map toV))) := by
  show (if (Value.type "tuple" == Value.type "list") = true then some (HO.frz { cls := .type "tuple", data := .seq vs.toArray } (.lst (vs.toArray.toList.map toV))) else some (HO.frz { cls := .type "tuple", data := .seq vs.toArray } (.tup (vs.toArray.toList.map toV)))) = _
  rw [if_neg (by decide)]
section
variable {P : Program} {w : World} {K : PySem.W.Frag} {h : Heap} {A : List Addr}
theorem argH_at {b : Addr} {o : Obj} (hb : b ∈ A) (hk : K.lookup b = none) (e : h.get? b = some o) : argH K h A b = hoOf o := by
  unfold argH
  rw [if_pos hb, hk, if_pos (show (none : Option Obj).isNone = true from rfl), e] <;> rfl
theorem of_argH {b : Addr} {u : HO} (q : argH K h A b = some u) : b ∈ A ∧ K.lookup b = none := by
  unfold argH at q
  by_cases hb : b ∈ A
  · rw [if_pos hb] at q
    cases hk : K.lookup b with
    | none => exact ⟨hb, rfl⟩
    | some o =>
      rw [hk, if_neg (by simp)] at q
      cases q
  · rw [if_neg hb] at q
    cases q
/-- what stands tracked -/
theorem argH_is (ar : ∀ a ∈ A, ArgOb h A a) {b : Addr} {u : HO} (q : argH K h A b = some u) : K.lookup b = none ∧ ∃ vs : List Value, vs.length ≤ sizeLine ∧ (∀ u ∈ vs, OkU A u) ∧
    ((h.get? b = some { cls := .type "list", data := .seq vs.toArray } ∧ u = .frz { cls := .type "list", data := .seq vs.toArray } (.lst (vs.map toV))) ∨
     (h.get? b = some { cls := .type "tuple", data := .seq vs.toArray } ∧ u = .frz { cls := .type "tuple", data := .seq vs.toArray } (.tup (vs.map toV)))) := by
  obtain ⟨hb, hk⟩ := of_argH q
  obtain ⟨vs, h1, h2, h3⟩ := ar b hb
  refine ⟨hk, vs, h1, h2, ?_⟩
  rcases h3 with e | e
  · rw [argH_at hb hk e, hoOf_lst] at q
    exact .inl ⟨e, (Option.some.inj q).symm⟩
  · rw [argH_at hb hk e, hoOf_tup] at q
    exact .inr ⟨e, (Option.some.inj q).symm⟩
theorem argH_only (ar : ∀ a ∈ A, ArgOb h A a) : OnlyF (argH K h A) := fun b => by
  cases q : argH K h A b with
  | none => exact .inl rfl
  | some u =>
    obtain ⟨_, vs, _, _, ⟨_, e⟩ | ⟨_, e⟩⟩ := argH_is ar q
    · exact .inr ⟨_, _, by rw [e]⟩
    · exact .inr ⟨_, _, by rw [e]⟩
theorem argH_ok (ar : ∀ a ∈ A, ArgOb h A a) : HOk P w (argH K h A) h := fun b u q => by
  obtain ⟨_, vs, h1, h2, ⟨e, rfl⟩ | ⟨e, rfl⟩⟩ := argH_is ar q
  · exact ⟨e, by rw [List.length_map]; exact h1, vs, _, vals_toV h2, e⟩
  · exact ⟨e, by rw [List.length_map]; exact h1, vs, vals_toV h2, _, e, rfl, _, rfl⟩
theorem seq_inj {c c' : Value} {vs us : List Value} (e : (some { cls := c, data := .seq vs.toArray } : Option Obj) = some { cls := c', data := .seq us.toArray }) : c = c' ∧ vs = us := by
  have e1 := Option.some.inj e
  have e2 : c = c' := congrArg Obj.cls e1
  have e3 : Data.seq vs.toArray = Data.seq us.toArray := congrArg Obj.data e1
  injection e3 with e4
  refine ⟨e2, ?_⟩
  have e5 := congrArg Array.toList e4
  simpa using e5
/-- a list argument -/
theorem argL (KX : K.In h) (ar : ∀ a ∈ A, ArgOb h A a) {a : Addr} {vs : List Value} (ha : a ∈ A) (e : h.get? a = some { cls := .type "list", data := .seq vs.toArray }) : (∀ u ∈ vs, OkU A u) ∧ SqL K (argH K h A) a (vs.map toV) := by
  obtain ⟨us, h1, h2, h3⟩ := ar a ha
  have hu : us = vs := by
    rcases h3 with q | q
    · rw [e] at q
      exact (seq_inj q).2.symm
    · rw [e] at q
      exact absurd (Value.type.inj (seq_inj q).1) (by decide)
  subst hu
  refine ⟨h2, ?_⟩
  cases hk : K.lookup a with
  | none => exact .inl (.inr ⟨_, by rw [argH_at ha hk e, hoOf_lst]⟩)
  | some o =>
    have e2 := KX a o hk
    rw [e] at e2
    obtain rfl := Option.some.inj e2
    exact .inr ⟨_, us.toArray, _, hk, rfl, rfl, rfl, by rw [List.size_toArray]; exact h1, by simpa using vals_toV h2⟩
theorem argT (KX : K.In h) (ar : ∀ a ∈ A, ArgOb h A a) {a : Addr} {vs : List Value} (ha : a ∈ A) (e : h.get? a = some { cls := .type "tuple", data := .seq vs.toArray }) : (∀ u ∈ vs, OkU A u) ∧ SqT K (argH K h A) a (vs.map toV) := by
  obtain ⟨us, h1, h2, h3⟩ := ar a ha
  have hu : us = vs := by
    rcases h3 with q | q
    · rw [e] at q
      exact absurd (Value.type.inj (seq_inj q).1) (by decide)
    · rw [e] at q
      exact (seq_inj q).2.symm
  subst hu
  refine ⟨h2, ?_⟩
  cases hk : K.lookup a with
  | none => exact .inl (.inr ⟨_, by rw [argH_at ha hk e, hoOf_tup]⟩)
  | some o =>
    have e2 := KX a o hk
    rw [e] at e2
    obtain rfl := Option.some.inj e2
    exact .inr ⟨_, us.toArray, _, hk, rfl, rfl, by rw [List.size_toArray]; exact h1, by simpa using vals_toV h2⟩
mutual
theorem dw_one {Pm : Params} (KX : K.In h) (ar : ∀ a ∈ A, ArgOb h A a) : ∀ (d : WData) (v : Value), Well Pm h v d → plW d = true → OkU A v → Dw K (argH K h A) (toV v) d
  | .none, _, x, _, _ => by
    cases x
    exact .non
  | .bool b, _, x, _, _ => by
    cases x
    exact .bl b
  | .int i, _, x, _, _ => by
    cases x
    exact .int i
  | .str s, _, x, _, _ => by
    cases x
    exact .str s
  | .bytes b, _, x, _, _ => by
    cases x
    have z := Dw.byt (K := K) (H := argH K h A) b.toArray
    exact z
  | .list ds, _, x, p, hu => by
    obtain ⟨a, vs, rfl, ho, hall⟩ := well_list x
    obtain ⟨h2, hs⟩ := argL KX ar hu ho
    exact .lst hs (dw_all KX ar ds _ hall p h2)
  | .tuple ds, _, x, p, hu => by
    obtain ⟨a, vs, rfl, ho, hall⟩ := well_tuple x
    obtain ⟨h2, hs⟩ := argT KX ar hu ho
    exact .tup hs (dw_all KX ar ds _ hall p h2)
  | .float _, _, _, p, _ => Bool.noConfusion (show false = true from p)
  | .dict _, _, _, p, _ => Bool.noConfusion (show false = true from p)
  | .bytearray _, _, _, p, _ => Bool.noConfusion (show false = true from p)
  | .set _, _, _, p, _ => Bool.noConfusion (show false = true from p)
  | .frozenset _, _, _, p, _ => Bool.noConfusion (show false = true from p)
  | .obj _ _, _, _, p, _ => Bool.noConfusion (show false = true from p)
theorem dw_all {Pm : Params} (KX : K.In h) (ar : ∀ a ∈ A, ArgOb h A a) : ∀ (ds : List WData) (vs : List Value), WellAll Pm h vs ds → plWs ds = true → (∀ u ∈ vs, OkU A u) → DwAll K (argH K h A) (vs.map toV) ds
  | [], _, x, _, _ => by
    cases x
    exact .nil
  | d :: ds, _, x, p, hu => by
    obtain ⟨v, vs, rfl, x1, x2⟩ := well_cons x
    have q : plW d = true ∧ plWs ds = true := Bool.and_eq_true_iff.mp p
    exact .cons (dw_one KX ar d v x1 q.1 (hu _ (List.mem_cons_self ..))) (dw_all KX ar ds vs x2 q.2 fun u m => hu u (List.mem_cons_of_mem _ m))
end
end
theorem spec_call {P : Program} {w : World} {K : PySem.W.Frag} {mg mb : Str → Option Value} {CX : CXT} {k : Nat} {fa : Addr} {fd : FuncData} {ps : List Str} {sp : Sp} {s₁ : Shared} {vals : List Value} {ds : List WData} {R : PySem.W.WRecords} {cl : Str → Option Addr} {d0 : WData}
    (KX : K.In s₁.heap) (hns : s₁.heap.Ns mainGlobals mg) (hb : s₁.heap.Ns builtinsNs mb) (hbb : ∀ x : Str, x ≠ "__name__" → mb x = bootBuiltins x) (hlim : s₁.heap.NoLimit) (hg : s₁.gens = #[])
    (hwl : WellAll w.params s₁.heap vals ds) (hpl : plWs ds = true) (hwt : ∀ d ∈ ds, d.weight ≤ 1048576) (hr : Room k callerA)
    (F : ∀ base : Heap, K.In base → base.Ns mainGlobals mg → FnOk P w K mg base CX k fa fd ps sp) (hbind : ∀ (s : Shared) (us : List Value), us.length = ps.length → BindsTo s fd ⟨us, []⟩ (ps.zip us)) (hlen : ds.length = ps.length)
    (hsp : ∀ (H : Hp) (xs : List V), OnlyF H → DwAll K H xs ds → sp xs H (fun v H' => Dw K H' v d0) fun _ _ _ => False)
    (hCX : ∀ H e s', CX [] H s₁ (fun _ _ _ => False) e s' → False) :
    codeAny (model P w) callerA (.call (.ref fa) ⟨vals, []⟩) (fun r s' => ∃ u as, r = .ok (.ret u) ∧ ReadsW R cl s'.heap u d0 as ∧ OldK s₁.heap s'.heap ∧ s'.os = s₁.os ∧ AllBare s'.gens) s₁ := by
  obtain ⟨A, ho, ar⟩ := area_all ds vals hwl hpl hwt
  have hO : OnlyF (argH K s₁.heap A) := argH_only ar
  have hok : HOk P w (argH K s₁.heap A) s₁.heap := argH_ok ar
  have hS := dw_all KX ar ds vals hwl hpl ho
  have hV := vals_toV ho
  have hK : ∀ b u, argH K s₁.heap A b = some u → K.lookup b = none := fun b u q => (argH_is ar q).1
  have noA : ∀ {b : Addr} {o : Obj} {es : Array DictEntry} {ep : Nat}, s₁.heap.get? b = some o → o.data = .dict es ep → argH K s₁.heap A b = none := fun {b o es ep} e d => by
    cases q : argH K s₁.heap A b with
    | none => rfl
    | some u =>
      obtain ⟨_, vs, _, _, ⟨e2, _⟩ | ⟨e2, _⟩⟩ := argH_is ar q
      · rw [e2] at e
        cases e
        have d' : Data.seq vs.toArray _ = Data.dict es ep := d
        cases d'
      · rw [e2] at e
        cases e
        have d' : Data.seq vs.toArray _ = Data.dict es ep := d
        cases d'
  generalize argH K s₁.heap A = H at hO hok hS hK noA
  have base_of : ∀ {b : Addr} {o : Obj}, s₁.heap.get? b = some o → H b = none → (hidT s₁.heap H).get? b = some o := fun e n => hidT_get e n
  have nsK : ∀ {b : Addr} {m : Str → Option Value}, s₁.heap.Ns b m → (hidT s₁.heap H).Ns b m := fun {b m} ⟨o, es, ep, e, d, r⟩ => ⟨o, es, ep, base_of e (noA e d), d, r⟩
  have nK : ∀ b o, K.lookup b = some o → H b = none := fun b o e => by
    cases q : H b with
    | none => rfl
    | some u =>
      rw [hK b u q] at e
      cases e
  have hKb : K.In (hidT s₁.heap H) := fun b o e => base_of (KX b o e) (nK b o e)
  have hM : Mod K mg (hidT s₁.heap H) := ⟨hKb, nsK hns, ⟨mb, nsK hb, hbb⟩, let ⟨mc, h1, h2⟩ := hlim; ⟨mc, nsK h1, h2⟩⟩
  have e0 : Env0 P w K mg (hidT s₁.heap H) callerA [] s₁ H := ⟨rfl, hM, fun b o e => of_hidT e, Nat.le_of_eq (hidT_size _ _), trivial, fun b hb => absurd (show b ∈ ([] : List Addr) from hb) (by simp), hok, .of_eq hg⟩
  have hl : vals.length = ps.length := by rw [wellAll_len hwl]; exact hlen
  refine codeAny_mono ((F _ hKb (nsK hns)).run callerA [] s₁ H ⟨vals, []⟩ vals (vals.map toV) _ _ hr e0 (hbind s₁ vals hl) hV (hsp H _ hO hS)) fun r s' x => ?_
  cases r with
  | error e => exact (hCX H e s' x).elim
  | ok fl =>
    cases fl with
    | next => exact False.elim x
    | brk => exact False.elim x
    | cont => exact False.elim x
    | ret u =>
      obtain ⟨v, H', os, bare, un, hok', r', q⟩ := x
      have kept : ∀ b o, s₁.heap.get? b = some o → s'.heap.get? b = some o := fun b o e => by
        cases q2 : H b with
        | none => exact un.keep b o e q2 (by intro z; exact absurd (show b ∈ ([] : List Addr) from z) (by simp)) (by simp)
        | some u2 =>
          rcases hO b with z | ⟨ob, u3, z⟩
          · rw [q2] at z
            cases z
          · have z2 := un.frzs b ob _ z
            obtain ⟨e1, _⟩ := hok b _ z
            obtain ⟨e2, _⟩ := hok' b _ z2
            rw [e] at e1
            cases e1
            exact e2
      have KX' : K.In s'.heap := fun b o e => kept b o (KX b o e)
      obtain ⟨as, hrd⟩ := Dw.reads (R := R) (cl := cl) hok' KX' d0 v u q r'
      exact ⟨u, as, rfl, hrd, OldK.of_keep kept, os, bare⟩
theorem layable_weight {ds : List WData} (h : WData.layableAll ds = true) : ∀ d ∈ ds, d.weight ≤ 1048576 := fun d hd =>
  (PySem.W.layableW_iff.mp (List.all_eq_true.mp h d hd)).2.2
theorem encAll_len : ∀ (cs : List Codec) (a : Codec.denoteAll cs), (Codec.encAll cs a).length = cs.length
  | [], _ => rfl
  | c :: cs, a => by
    show (Codec.encAll cs a.2).length + 1 = cs.length + 1
    rw [encAll_len cs a.2]
/-- the goal that k_headS leaves (case hc), from the promise of the row's def: whatever the arguments that the codecs let and the row asks for, the def gives what stands for enc (f ..) -/
theorem walk_spec {r : OpenSpec} {k : Nat} {q : Program} {loose : List Str} {XP : (Str → Option Value) → Heap → Prop} {YP : World → Heap → Prop} {d : DefRec} {K : Params → PySem.W.Frag} {CX : World → CXT} {ps : List Str} {sp : World → Sp}
    (hwell : r.wellSaid = true) (hdf : d.params.defaults = []) (hlen : r.args.length = ps.length) (hr : Room k callerA)
    (hY : ∀ (w : World) (h : Heap), YP w h → (K w.params).In h)
    (F : ∀ (w : World) (mg : Str → Option Value) (fa : Addr) (h : Heap), YP w h → (K w.params).In h → h.Ns mainGlobals mg → mg d.name = some (.ref fa) →
      ∃ fd : FuncData, (∀ (s : Shared) (us : List Value), us.length = ps.length → BindsTo s fd ⟨us, []⟩ (ps.zip us)) ∧
        ∀ base : Heap, (K w.params).In base → base.Ns mainGlobals mg → FnOk r.prog w (K w.params) mg base (CX w) k fa fd ps (sp w))
    (hsp : ∀ (w : World) (H : Hp) (xs : List V) (a : Codec.denoteAll r.args), OnlyF H → Codec.withinAll r.args a = true → Codec.app r.args r.asked a = true → DwAll (K w.params) H xs (Codec.encAll r.args a) →
      sp w xs H (fun v H' => Dw (K w.params) H' v (r.ret.enc (Codec.app r.args r.f a))) fun _ _ _ => False)
    (hCX : ∀ (w : World) (H : Hp) (s : Shared) (e : Value) (s' : Shared), CX w [] H s (fun _ _ _ => False) e s' → False) :
    PySem.W.WalkOS q loose XP YP r d [] (fun f vs => PySem.call f vs) := by
  intro w s_0 s₁ mg mb G Y fa o pm cd doc dV kV ho hd hcd hD hmg hg args vals as hpre hlay hrd hwl hlo
  obtain ⟨a, e1, e2⟩ := PySem.W.os_pre_some hpre
  obtain ⟨e3, hwi⟩ := Codec.encAll_of_decAll r.args args a e1
  subst e3
  have KX := hY w _ Y
  obtain ⟨fd, hb, hF⟩ := F w mg fa _ Y KX G.T.g hmg
  refine PySem.W.enter_call (codeAny_mono (spec_call (R := []) (cl := classAt s_0.heap) (d0 := r.ret.enc (Codec.app r.args r.f a)) KX G.T.g G.T.b G.T.builtins G.T.nolimit hg hwl (pl_encAll _ _) (layable_weight hlay) hr hF hb (by rw [encAll_len]; exact hlen)
    (fun H xs hO hS => hsp w H xs a hO hwi e2 hS) fun H e s' => hCX w H s₁ e s') fun r' s' hq => ?_)
  obtain ⟨u, as', rfl, h1, h2, h3, h4⟩ := hq
  exact ⟨.inl ⟨u, _, as', rfl, fun _ => rfl, h1, (OpenSpec.post_iff hwell hwi _ _).mpr rfl, fun z => Bool.noConfusion (show false = true from z)⟩, h2, h3, h4⟩
/-- the same where the promise hangs on the written part alone -/
theorem walk_specK {r : OpenSpec} {k : Nat} {q : Program} {loose : List Str} {XP : (Str → Option Value) → Heap → Prop} {YP : World → Heap → Prop} {d : DefRec} {K : Params → PySem.W.Frag} {CX : CXT} {ps : List Str} {sp : PySem.W.Frag → Sp}
    (hwell : r.wellSaid = true) (hdf : d.params.defaults = []) (hlen : r.args.length = ps.length) (hr : Room k callerA)
    (hY : ∀ (w : World) (h : Heap), YP w h → (K w.params).In h)
    (F : ∀ (w : World) (mg : Str → Option Value) (fa : Addr) (h : Heap), YP w h → (K w.params).In h → h.Ns mainGlobals mg → mg d.name = some (.ref fa) →
      ∃ fd : FuncData, (∀ (s : Shared) (us : List Value), us.length = ps.length → BindsTo s fd ⟨us, []⟩ (ps.zip us)) ∧
        ∀ base : Heap, (K w.params).In base → base.Ns mainGlobals mg → FnOk r.prog w (K w.params) mg base CX k fa fd ps (sp (K w.params)))
    (hsp : ∀ (K : PySem.W.Frag) (H : Hp) (xs : List V) (a : Codec.denoteAll r.args), OnlyF H → Codec.withinAll r.args a = true → Codec.app r.args r.asked a = true → DwAll K H xs (Codec.encAll r.args a) →
      sp K xs H (fun v H' => Dw K H' v (r.ret.enc (Codec.app r.args r.f a))) fun _ _ _ => False)
    (hCX : ∀ (H : Hp) (s : Shared) (e : Value) (s' : Shared), CX [] H s (fun _ _ _ => False) e s' → False) :
    PySem.W.WalkOS q loose XP YP r d [] (fun f vs => PySem.call f vs) :=
  walk_spec (K := K) (CX := fun _ => CX) (sp := fun w => sp (K w.params)) hwell hdf hlen hr hY F (fun w H xs a h1 h2 h3 h4 => hsp (K w.params) H xs a h1 h2 h3 h4) fun _ H s e s' => hCX H s e s'
end L2
end

set_option linter.all false
set_option Elab.async false
set_option maxRecDepth 100000
set_option maxHeartbeats 4000000
namespace W1
open PySem PySem.Spec PyProof.Rows L2
theorem bo_len : bootBuiltins "len" = some (.builtin "len") := by decide +kernel
theorem bo_max : bootBuiltins "max" = some (.builtin "max") := by decide +kernel
theorem bo_all : bootBuiltins "all" = some (.builtin "all") := by decide +kernel
theorem bo_ord : bootBuiltins "ord" = some (.builtin "ord") := by decide +kernel
theorem bo_list : bootBuiltins "list" = some (.type "list") := by decide +kernel
section
variable {P : Program} {w : World} {K : PySem.W.Frag} {mg : Str → Option Value} {base : Heap}
/-- a def of the text that keeps its promise, by its name -/
structure Own (P : Program) (w : World) (K : PySem.W.Frag) (mg : Str → Option Value) (base : Heap) (x : Str) (k : Nat) (ps : List Str) (sp : Sp) : Prop where
  ex : ∃ (f : Addr) (fd : FuncData), FnOk P w K mg base CX0 k f fd ps sp ∧ mg x = some (.ref f) ∧ PySem.W.keepIn K (.ref f) = true ∧ Binds K fd ps []
/-- where a def of the text stands -/
def FnAt (K : PySem.W.Frag) (mg : Str → Option Value) (x : Str) (st : Stmt) : Prop := ∃ (f : Addr) (fd : FuncData), Fun K x x st f fd ∧ mg x = some (.ref f)
theorem Own.of {x : Str} {st : Stmt} {N ps : List Str} {k : Nat} {sp : Sp} (F : FnAt K mg x st) (S : FnScope N ps (defScope st))
    (bi : ∀ (kV doc pm : Value) (an : Option Addr) (cdv ct : Value) (us : List Value), us.length = ps.length → bindArgs (PySem.W.fnOf x x (defArgs st) (defBody st) (defScope st) .none kV doc pm an cdv ct) ⟨us, []⟩ = pure (ps.zip us))
    (len : ∀ vs H Q E, sp vs H Q E → vs.length = ps.length)
    (hbody : ∀ (f : Addr) (cdv : Value) (A : Around) (outer : List Env) (s : Shared) (H : Hp) (vs : List V) (Q : VK) (E : XK), Room k (A.deeper (envOfC x (defScope st) s.heap.objs.size f cdv)) → sp vs H Q E →
      ∃ t, PSs (cxOf CX0 P w K mg base N x (defScope st) f cdv A outer s H E).nox (defBody st) t ∧ t { nx := fun _ H' => Q .non H', rt := Q } (start N vs) H) : Own P w K mg base x (k + 1) ps sp := by
  obtain ⟨f, fd, F, hm⟩ := F
  exact ⟨f, fd, F.ok S len (fun cdv A outer s H vs Q E hr h => hbody f cdv A outer s H vs Q E hr h), hm, F.kp, F.binds bi⟩
end
section
variable {X : Cx} {x : Str} {k : Nat} {ps : List Str} {sp : Sp} {e : Expr} {es : List Expr} {t : TA} {p pos : Pos}
theorem pe_own (C : Own X.prog X.w X.K X.mg X.base x k ps sp) (hr : Room k X.A) (hg : Gl X x) (ha : PA X (e :: es) t) (hdb : (x == ("__debug__" : Str)) = false := by decide)
    (he : starEach (e :: es) X.env = (false, eval e X.env) :: starEach es X.env := by rfl) (hpl : (backTo pos (starEach es X.env)).any (·.1) = false := by rfl) : PE X (.Call (.Name x p) (e :: es) [] pos) (tCall sp [] E0 t) := by
  obtain ⟨f, fd, F, hm, hk, hb⟩ := C.ex
  exact pe_call F hr hg hm hk hb .nil pass0 ha hdb he hpl
theorem pe_gint {i : Int} (hg : Gl X x) (hm : ∃ t, X.mg x = some (.int i t)) (hd : (x == ("__debug__" : Str)) = false := by decide) : PE X (.Name x pos) (tC (.int i)) := by
  obtain ⟨t, hm⟩ := hm
  exact pe_glob hg hm ⟨t, rfl⟩ hd
theorem pe_gref {a : Addr} (hg : Gl X x) (hm : X.mg x = some (.ref a)) (hd : (x == ("__debug__" : Str)) = false := by decide) : PE X (.Name x pos) (tC (.ref a)) := pe_glob hg hm rfl hd
end
section
variable {X : Cx}
def tCutS (t : TS) : TS := fun D σ H => ∃ M : L2.St → Hp → Prop, t { D with nx := M } σ H ∧ ∀ σ' H', M σ' H' → D.nx σ' H'
theorem ps_cut {st : Stmt} {t : TS} (h : PS X st t) : PS X st (tCutS t) := by
  intro pins s σ H D I hw
  obtain ⟨M, h1, h2⟩ := hw
  refine thn (h pins s σ H _ I h1) fun f s1 q => ?_
  cases f with
  | next => obtain ⟨σ', H', I', q⟩ := q; exact ⟨σ', H', I', h2 σ' H' q⟩
  | ret v => exact q
  | brk => exact q
  | cont => exact q
def tCutT (t : TT) : TT := fun σ H Q => ∃ M : Bool → Hp → Prop, t σ H M ∧ ∀ b H', M b H' → Q b H'
theorem pt_cut {e : Expr} {t : TT} (h : PT X e t) : PT X e (tCutT t) := by
  intro pins s σ H Q I hw
  obtain ⟨M, h1, h2⟩ := hw
  exact thn (h pins s σ H M I h1) fun b s1 ⟨H', I', q⟩ => ⟨H', I', h2 b H' q⟩
end
theorem Same.put {H H' : Hp} {a : Addr} {o : HO} (s : Same H H') (n : H a = none) : Same H (upd H' a o) := fun b u e => by
  rw [upd_ne (ne_of_none e n)]
  exact s b u e
theorem same_new {H : Hp} {a : Addr} {o : HO} (n : H a = none) : Same H (upd H a o) := Same.put (Same.refl H) n
theorem eqv_ints : ∀ xs ys : List Int, PyData.eqvAll (xs.map PyData.int) (ys.map PyData.int) = decide (xs = ys)
  | [], [] => rfl
  | [], _ :: _ => rfl
  | _ :: _, [] => rfl
  | x :: xs, y :: ys => by
    rw [List.map_cons, List.map_cons, PyData.eqvAll, eqv_ints xs ys, PyData.eqv, Bool.eq_iff_iff]
    simp
theorem lay_ints : ∀ xs : List Int, PyData.canLayAll0 (xs.map PyData.int) = true
  | [] => rfl
  | x :: xs => by rw [List.map_cons, PyData.canLayAll0, lay_ints xs, PyData.canLay0]; rfl
theorem dep_ints : ∀ xs : List Int, PyData.depthAll (xs.map PyData.int) = 0
  | [] => rfl
  | x :: xs => by rw [List.map_cons, PyData.depthAll, dep_ints xs]; rfl
theorem shp_ints (xs : List Int) : SeqAt.shaped (.list (xs.map PyData.int)) = true := by
  unfold SeqAt.shaped
  rw [PyData.canLay0, lay_ints, PyData.depth, dep_ints]
  rfl
theorem dp_ints {K : PySem.W.Frag} {H : Hp} : ∀ xs : List Int, DpAll K H (xs.map V.int) (xs.map PyData.int)
  | [] => .nil
  | x :: xs => .cons (.int x) (dp_ints xs)
theorem eqv_strs : ∀ xs ys : List Str, PyData.eqvAll (xs.map PyData.str) (ys.map PyData.str) = decide (xs = ys)
  | [], [] => rfl
  | [], _ :: _ => rfl
  | _ :: _, [] => rfl
  | x :: xs, y :: ys => by
    rw [List.map_cons, List.map_cons, PyData.eqvAll, eqv_strs xs ys, PyData.eqv, Bool.eq_iff_iff]
    simp
theorem lay_strs : ∀ xs : List Str, xs.all PyData.strOk = true → PyData.canLayAll0 (xs.map PyData.str) = true
  | [], _ => rfl
  | x :: xs, h => by
    rw [List.all_cons, Bool.and_eq_true] at h
    rw [List.map_cons, PyData.canLayAll0, lay_strs xs h.2, PyData.canLay0, h.1]; rfl
theorem dep_strs : ∀ xs : List Str, PyData.depthAll (xs.map PyData.str) = 0
  | [] => rfl
  | x :: xs => by rw [List.map_cons, PyData.depthAll, dep_strs xs]; rfl
theorem shp_strs {xs : List Str} (h : xs.all PyData.strOk = true) : SeqAt.shaped (.list (xs.map PyData.str)) = true := by
  unfold SeqAt.shaped
  rw [PyData.canLay0, lay_strs xs h, PyData.depth, dep_strs]
  rfl
theorem dp_strs {K : PySem.W.Frag} {H : Hp} : ∀ xs : List Str, DpAll K H (xs.map V.str) (xs.map PyData.str)
  | [] => .nil
  | x :: xs => .cons (.str x) (dp_strs xs)
def rEqInts (K : PySem.W.Frag) : R2 := fun x y H Q => ∃ (a b : Addr) (xs ys : List Int), x = .ref a ∧ y = .ref b ∧ SqL K H a (xs.map V.int) ∧ SqL K H b (ys.map V.int) ∧ Q (.bl (decide (xs = ys))) H
def rEqStrs (K : PySem.W.Frag) : R2 := fun x y H Q => ∃ (a b : Addr) (xs ys : List Str), x = .ref a ∧ y = .ref b ∧ SqL K H a (xs.map V.str) ∧ SqL K H b (ys.map V.str) ∧ xs.all PyData.strOk = true ∧ ys.all PyData.strOk = true ∧ Q (.bl (decide (xs = ys))) H
section
variable {X : Cx}
theorem op_eqInts (hu : X.A.units + 64 < cLine) : OpR X (compareOp .Eq) (rEqInts X.K) := by
  intro pins s σ H x y v u Q I rx ry h
  obtain ⟨a, b, xs, ys, rfl, rfl, h1, h2, q⟩ := h
  refine op_eqD hu pins s σ H _ _ v u Q I rx ry ⟨_, _, .lst h1 (dp_ints xs), .lst h2 (dp_ints ys), shp_ints xs, shp_ints ys, ?_⟩
  rw [PyData.eqv, eqv_ints]
  exact q
theorem op_eqStrs (hu : X.A.units + 64 < cLine) : OpR X (compareOp .Eq) (rEqStrs X.K) := by
  intro pins s σ H x y v u Q I rx ry h
  obtain ⟨a, b, xs, ys, rfl, rfl, h1, h2, s1, s2, q⟩ := h
  refine op_eqD hu pins s σ H _ _ v u Q I rx ry ⟨_, _, .lst h1 (dp_strs xs), .lst h2 (dp_strs ys), shp_strs s1, shp_strs s2, ?_⟩
  rw [PyData.eqv, eqv_strs]
  exact q
theorem cnt_str (k : Str) : ∀ ys : List Str, PySem.Spec.countIn (.str k) (ys.map PyData.str) = ((ys.count k : Nat) : Int)
  | [] => rfl
  | y :: ys => by
    rw [List.map_cons, PySem.Spec.countIn, cnt_str k ys, List.count_cons]
    simp only [PySem.Spec.same]
    by_cases e : y = k
    · subst e; simp; omega
    · simp [e]
def rCountS (K : PySem.W.Frag) : V → List V → Hp → VK → Prop := fun x xs H Q => ∃ (a : Addr) (ys : List Str) (k : Str), x = .ref a ∧ xs = [.str k] ∧ SqL K H a (ys.map V.str) ∧ Q (.int ((ys.count k : Nat) : Int)) H
theorem mt_countS : MtR X "list.count" (rCountS X.K) := by
  intro pins s σ H x xs v us Q I rx rs h
  obtain ⟨a, ys, k, rfl, rfl, hq, q⟩ := h
  cases rx
  obtain ⟨u, rfl, t, rfl⟩ := vals1 rs
  obtain ⟨its, r, pl, _⟩ := I.list hq
  refine count_list_strs pl.isList (strs_of_vals r) ⟨.int _, H, I.tok _, ⟨_, rfl⟩, ?_⟩
  rw [cnt_str]
  exact q
def DicK (P : Program) (w : World) (K : PySem.W.Frag) (a : Addr) (m : Str → Option Value) : Prop := (a == sysModules) = false ∧ ∀ h : Heap, K.In h → h.MapOf (strKind P w) a m
def tKGet (P : Program) (w : World) (K : PySem.W.Frag) (to ti : TE) : TE := fun σ H Q => to σ H fun x H1 => ti σ H1 fun y H2 =>
  ∃ (a : Addr) (k : Str) (m : Str → Option Value) (v : V) (u : Value), x = .ref a ∧ y = .str k ∧ DicK P w K a m ∧ m k = some u ∧ RelV v u ∧ Q v H2
def tKIn (P : Program) (w : World) (K : PySem.W.Frag) (neg : Bool) (ti to : TE) : TE := fun σ H Q => ti σ H fun y H1 => to σ H1 fun x H2 =>
  ∃ (a : Addr) (k : Str) (m : Str → Option Value), x = .ref a ∧ y = .str k ∧ DicK P w K a m ∧ Q (.bl (if neg then !(m k).isSome else (m k).isSome)) H2
variable {o i : Expr} {to ti : TE} {pos : Pos}
theorem pe_kget (ho : PE X o to) (hi : PE X i ti) (hs : NoSl i) : PE X (.Subscript o i pos) (tKGet X.prog X.w X.K to ti) := by
  intro pins s σ H Q I h
  refine subD_of PySem.F.slot_dict_getitem.lookup hs (thn (ho pins s σ H _ I h) fun u s1 ⟨x, H1, I1, rx, q1⟩ => thn (hi pins s1 σ H1 _ I1 q1) fun iv s2 ⟨y, H2, I2, ry, a, k, m, v, u', ex, ey, ⟨_, D⟩, hm, rv, q2⟩ => ?_)
  subst ex ey
  obtain rfl : u = Value.ref a := rx
  obtain ⟨t, rfl⟩ := ry
  have M := D s2.heap I2.kIn
  exact ⟨M.typeIs, wpAny_getItem_of (strKind_is X.prog X.w k t) M hm ⟨v, H2, I2.tok _, rv, q2⟩⟩
theorem pc_kin (hi : PE X i ti) (ho : PE X o to) : PC X .In i o (tKIn X.prog X.w X.K false ti to) := by
  intro pins s σ H Q I h
  refine thn (hi pins s σ H _ I h) fun iv s1 ⟨y, H1, I1, ry, q1⟩ => thn (ho pins s1 σ H1 _ I1 q1) fun u s2 ⟨x, H2, I2, rx, a, k, m, ex, ey, ⟨lo, D⟩, q2⟩ => ?_
  subst ex ey
  obtain rfl : u = Value.ref a := rx
  obtain ⟨t, rfl⟩ := ry
  exact wpAny_in_of (strKind_is X.prog X.w k t) lo (D s2.heap I2.kIn) ⟨.bl _, H2, I2.tok _, rfl, q2⟩
theorem pc_knotin (hi : PE X i ti) (ho : PE X o to) : PC X .NotIn i o (tKIn X.prog X.w X.K true ti to) := by
  intro pins s σ H Q I h
  refine thn (hi pins s σ H _ I h) fun iv s1 ⟨y, H1, I1, ry, q1⟩ => thn (ho pins s1 σ H1 _ I1 q1) fun u s2 ⟨x, H2, I2, rx, a, k, m, ex, ey, ⟨lo, D⟩, q2⟩ => ?_
  subst ex ey
  obtain rfl : u = Value.ref a := rx
  obtain ⟨t, rfl⟩ := ry
  exact wpAny_notIn_of (strKind_is X.prog X.w k t) lo (D s2.heap I2.kIn) ⟨.bl _, H2, I2.tok _, rfl, q2⟩
end
section
variable {X : Cx} {P : Program} {w : World} {K : PySem.W.Frag} {pos : Pos}
theorem pg_tupK {es : List Expr} {k : Nat} {t : TGs} {n : Nat} (hK : X.K = K) (hc : X.calm = true) (h : PGs X es t) (hn : (assignEach es X.env).length = n := by rfl) (hst : (assignEach es X.env).findIdx? (·.1) = none := by rfl) : PG X (.Tuple es k pos) (gTup K n t) := by
  subst hK
  exact pg_tup hc h hn hst
theorem pc_kinK {o i : Expr} {to ti : TE} (hP : X.prog = P) (hw : X.w = w) (hK : X.K = K) (hi : PE X i ti) (ho : PE X o to) : PC X .In i o (tKIn P w K false ti to) := by
  subst hP hw hK
  exact pc_kin hi ho
end
section
variable {X : Cx}
end
theorem lc_str {x : Str} {g : TG} {tt : TT} {te : TE} {vs : List Nat} {σ : L2.St} {H1 : Hp} {D : Addr} {Qd : Hp → Prop} (Pv : Nat → Hp → Prop) (h0 : Pv 0 (upd H1 D (.lst [])))
    (hs : ∀ i c H, x.cps[i]? = some c → Pv i H → g (.str ⟨#[c]⟩) (wipe σ vs) H fun σ2 H2 => wipe σ2 vs = wipe σ vs ∧ tt σ2 H2 fun b H3 =>
      if b = true then te σ2 H3 fun y H4 => ∃ acc, H4 D = some (.lst acc) ∧ acc.length < sizeLine ∧ Pv (i + 1) (upd H4 D (.lst (acc ++ [y]))) else Pv (i + 1) H3) (hd : ∀ H, Pv x.cps.size H → Qd H) :
    ∃ W : Nat → Nat → Hp → Prop, (∃ m, W 0 m (upd H1 D (.lst []))) ∧ ∀ i m H, W i m H →
      ((Its x).stop i H ∧ Qd H) ∨ ((Its x).go i H ∧ ∃ Nx : Hp → Prop, (∀ H', Nx H' → ∃ m', m' < m ∧ W (i + 1) m' H') ∧ ∀ y H', (Its x).yld i H y H' → g y (wipe σ vs) H' fun σ2 H2 => wipe σ2 vs = wipe σ vs ∧ tt σ2 H2 fun b H3 =>
        if b = true then te σ2 H3 fun y H4 => ∃ acc, H4 D = some (.lst acc) ∧ acc.length < sizeLine ∧ Nx (upd H4 D (.lst (acc ++ [y]))) else Nx H3) := by
  refine ⟨fun i m H => m = x.cps.size - i ∧ i ≤ x.cps.size ∧ Pv i H, ⟨x.cps.size, by simp, Nat.zero_le _, h0⟩, ?_⟩
  rintro i m H ⟨rfl, hi, p⟩
  by_cases hlt : i < x.cps.size
  · refine .inr ⟨hlt, Pv (i + 1), fun H' p' => ⟨x.cps.size - (i + 1), by omega, rfl, hlt, p'⟩, fun y H' q => ?_⟩
    obtain ⟨e, c, hc, e2⟩ := q
    subst e e2
    exact hs i c _ hc p
  · have e : i = x.cps.size := by omega
    subst e
    exact .inl ⟨Nat.le_refl _, hd H p⟩
theorem take_snoc {α : Type} : ∀ {l : List α} {i : Nat} {x : α}, l[i]? = some x → l.take (i + 1) = l.take i ++ [x]
  | [], i, x, h => by simp at h
  | a :: l, 0, x, h => by
    have e : a = x := Option.some.inj h
    subst e
    rfl
  | a :: l, i + 1, x, h => by
    have ih := take_snoc (l := l) (i := i) (x := x) h
    show a :: l.take (i + 1) = a :: l.take i ++ [x]
    rw [ih]
    rfl
theorem map_at {α β : Type} {f : α → β} {l : List α} {i : Nat} {y : β} (h : (l.map f)[i]? = some y) : ∃ x, l[i]? = some x ∧ y = f x := by
  rw [List.getElem?_map] at h
  cases e : l[i]? with
  | none => rw [e] at h; cases h
  | some x => rw [e] at h; exact ⟨x, rfl, (Option.some.inj h).symm⟩
theorem cut_nat (xs : List V) (i j : Nat) (h : i ≤ xs.length) : cutV xs (some (i : Int)) (some (j : Int)) = (xs.drop i).take (j - i) := by
  unfold cutV
  rw [HT.sIx_nat, HT.sIx_nat, Nat.min_eq_left h]
  by_cases hj : j ≤ xs.length
  · rw [Nat.min_eq_left hj]
  · rw [Nat.min_eq_right (by omega), List.take_of_length_le (i := xs.length - i) (by rw [List.length_drop]; omega), List.take_of_length_le (by rw [List.length_drop]; omega)]
theorem cut_from (xs : List V) (i : Nat) (h : i ≤ xs.length) : cutV xs (some (i : Int)) none = xs.drop i := by
  unfold cutV
  rw [HT.sIx_nat, HT.sIx_none, Nat.min_eq_left h, List.take_of_length_le (by rw [List.length_drop]; omega)]
end W1

set_option linter.all false
set_option Elab.async false
set_option maxRecDepth 100000
set_option maxHeartbeats 4000000
namespace W1
open PySem PyProof.Rows
open AutoSeq1 (wpAny_loadPart')
section
variable {prog : Program} {w : World} {A : Around} {E : Value → Shared → Prop} {s : Shared}
theorem en_item {e it l : Addr} {i : Nat} {c : Int} {items : Array Value} {x old : Value} {Q : Option Value → Shared → Prop}
    (he : IsEnum s.heap e it c old) (hit : s.heap.IsListIter it l i) (hl : s.heap.IsList l items) (hx : items[i]? = some x) (hne : e ≠ it)
    (hQ : ∀ h', IsEnumOut h' e it (c + 1) x s.heap.objs.size → h'.IsListIter it l (i + 1) → h'.get? s.heap.objs.size = some { cls := .type "tuple", data := .seq #[.int c s.toks, x] } →
      h'.objs.size = s.heap.objs.size + 1 → (∀ b o, b ≠ e → b ≠ it → s.heap.get? b = some o → h'.get? b = some o) → Q (some (.ref s.heap.objs.size)) { s with heap := h', toks := s.toks + 1 }) :
    wpAny (model prog w) A (pyNext (.ref e)) Q E s := by
  have hT : s.TypeIs (.ref e) "enumerate" := ⟨_, he, rfl⟩
  unfold pyNext
  refine wpAny_bind (wpAny_attempt (wpAny_callSpecial?_slot (name := Str.ofString "__next__") hT F.slot_enumerate_next (wpAny_call_entry F.slot_enumerate_next hT F.entry_enumerate_next ?_ (F.args_enumerate_next_1 _))))
  obtain ⟨hp, g, d, tk, os⟩ := s
  show wpAny _ _ (field (.ref e) 2 >>= _) _ _ _
  refine wpAny_bind (wpAny_field he rfl (x := .ref it) rfl (wpAny_bind (wpAny_nextOf_list_item hit hl hx fun h1 hit1 s1 => ?_)))
  have e1 : IsEnum h1 e it c old := (s1.2 e hne).trans he
  show wpAny _ _ (field (.ref e) 3 >>= _) _ _ ⟨h1, g, d, tk, os⟩
  refine wpAny_bind (wpAny_field e1 rfl (x := rawInt c) rfl ?_)
  show wpAny _ _ (field (.ref e) 4 >>= _) _ _ ⟨h1, g, d, tk, os⟩
  refine wpAny_bind (wpAny_field e1 rfl (x := .none) rfl ?_)
  show wpAny _ _ (mkInt c >>= _) _ _ ⟨h1, g, d, tk, os⟩
  refine wpAny_bind (wpAny_mkInt ?_)
  show wpAny _ _ (setField (.ref e) 3 (rawInt (c + 1)) >>= _) _ _ ⟨h1, g, d, tk + 1, os⟩
  refine wpAny_bind (wpAny_setField_rec e1 (by simp) fun h2 e2 s2 => ?_)
  replace e2 : IsEnum h2 e it (c + 1) old := e2
  show wpAny _ _ (setField (.ref e) 4 .none >>= _) _ _ ⟨h2, g, d, tk + 1, os⟩
  refine wpAny_bind (wpAny_setField_rec e2 (by simp) fun h3 e3 s3 => ?_)
  replace e3 : IsEnum h3 e it (c + 1) old := e3
  have z3 : h3.objs.size = hp.objs.size := by
    have a1 := s1.1; have a2 := s2.1; have a3 := s3.1
    exact a3.trans (a2.trans a1)
  have k3 : ∀ b o, b ≠ e → b ≠ it → hp.get? b = some o → h3.get? b = some o := fun b o n1 n2 q => s3.extBut b o n1 (s2.extBut b o n1 (s1.extBut b o n2 q))
  have i3 : h3.IsListIter it l (i + 1) := (hit1.extBut s2.extBut (Ne.symm hne)).extBut s3.extBut (Ne.symm hne)
  have hel : e < hp.objs.size := Heap.lt_size he
  show wpAny _ _ (newTuple [.int c tk, x] >>= _) _ _ ⟨h3, g, d, tk + 1, os⟩
  refine wpAny_bind (wpAny_newTuple ?_)
  rw [z3]
  generalize hh4 : h3.push { cls := .type "tuple", data := .seq #[.int c tk, x] } = h4
  have e4 : IsEnum h4 e it (c + 1) old := by rw [← hh4]; exact Heap.get?_push_of_some _ e3
  have t4 : h4.get? hp.objs.size = some { cls := .type "tuple", data := .seq #[.int c tk, x] } := by rw [← hh4, ← z3]; exact Heap.get?_push_size _ rfl
  have z4 : h4.objs.size = hp.objs.size + 1 := by rw [← hh4, Heap.size_push, z3]
  have k4 : ∀ b o, b ≠ e → b ≠ it → hp.get? b = some o → h4.get? b = some o := fun b o n1 n2 q => by rw [← hh4]; exact Heap.get?_push_of_some _ (k3 b o n1 n2 q)
  have i4 : h4.IsListIter it l (i + 1) := by rw [← hh4]; exact i3.at fun o q => Heap.get?_push_of_some _ q
  clear hh4
  show wpAny _ _ (Builtin.SmallTypes.ownedTupleIsFree (.ref e) >>= _) _ _ ⟨h4, g, d, tk + 1, os⟩
  refine wpAny_bind ?_
  unfold Builtin.SmallTypes.ownedTupleIsFree
  refine wpAny_bind (wpAny_field e4 rfl (x := .none) rfl (wpAny_pure ?_))
  simp only [if_true]
  refine wpAny_bind (wpAny_rule (wpAny_bind (wpAny_field e4 rfl (x := old) rfl (wpAny_bind (wpAny_setField_rec e4 (by simp) fun h5 e5 s5 => ?_)))))
  replace e5 : IsEnum h5 e it (c + 1) x := e5
  show wpAny _ _ (Builtin.SmallTypes.ownedTupleHandOut (.ref e) (.ref hp.objs.size) >>= _) _ _ ⟨h5, g, d, tk + 1, os⟩
  refine wpAny_bind ?_
  unfold Builtin.SmallTypes.ownedTupleHandOut
  refine wpAny_bind (wpAny_setField_rec e5 (by simp) fun h6 e6 s6 => ?_)
  replace e6 : IsEnumOut h6 e it (c + 1) x hp.objs.size := e6
  refine wpAny_setField_rec e6 (by simp) fun h7 e7 s7 => ?_
  replace e7 : IsEnumOut h7 e it (c + 1) x hp.objs.size := e7
  have up : ∀ b o, b ≠ e → h4.get? b = some o → h7.get? b = some o := fun b o n q => s7.extBut b o n (s6.extBut b o n (s5.extBut b o n q))
  refine wpAny_bind (wpAny_letGo (wpAny_pure ⟨_, rfl, wpAny_pure (hQ h7 e7 (i4.at fun o q => up _ o (Ne.symm hne) q) (up _ _ (Nat.ne_of_gt hel) t4) ?_ fun b o n1 n2 q => up b o n1 (k4 b o n1 n2 q))⟩))
  rw [s7.1, s6.1, s5.1, z4]
theorem en_end {e it l : Addr} {i : Nat} {c : Int} {items : Array Value} {old : Value} {Q : Option Value → Shared → Prop} (hh : A.handled = none)
    (he : IsEnum s.heap e it c old) (hit : s.heap.IsListIter it l i) (hl : s.heap.IsList l items) (hx : items[i]? = none)
    (hQ : ∀ h', Heap.ExtBut it s.heap h' → Q none { s with heap := h' }) : wpAny (model prog w) A (pyNext (.ref e)) Q E s := by
  have hT : s.TypeIs (.ref e) "enumerate" := ⟨_, he, rfl⟩
  unfold pyNext
  refine wpAny_bind (wpAny_attempt (wpAny_callSpecial?_slot (name := Str.ofString "__next__") hT F.slot_enumerate_next (wpAny_call_entry F.slot_enumerate_next hT F.entry_enumerate_next ?_ (F.args_enumerate_next_1 _))))
  show wpAny _ _ (field (.ref e) 2 >>= _) _ _ _
  refine wpAny_bind (wpAny_field he rfl (x := .ref it) rfl (wpAny_bind (wpAny_nextOf_list_end hh hit hl hx fun h' x he' hx' => ?_)))
  obtain ⟨o, ho, hc⟩ := hx'
  exact wpAny_bind (wpAny_isInstance (T := "StopIteration") (b := true) ⟨o, ho, hc⟩ isSubtype_stop (wpAny_pure (hQ _ he')))
end
theorem callWith_type_kw {M : Model} {A : Around} {E : Value → Shared → Prop} {s : Shared} {env : Env} {pos : Pos} {T : String} {e : Expr} {rest : List Expr} {kws : List Keyword} {Q : Value → Shared → Prop}
    (h : wpAny M A (spliced (backTo pos (starEach (e :: rest) env))) (fun vs s1 => wpAny M A (evalAll ((backToKw pos (keywordEach kws env)).map (·.2)))
      (fun kvs s2 => wpAny M A (call (.type T) vs (((backToKw pos (keywordEach kws env)).filterMap (·.1)).zip kvs)) Q E s2) E s1) E s)
    (he : backTo pos (starEach (e :: rest) env) = (false, eval e env) :: backTo pos (starEach rest env) := by rfl) (hplain : (backTo pos (starEach (e :: rest) env)).any (·.1) = false := by rfl)
    (hall : (backToKw pos (keywordEach kws env)).all (·.1.isSome) = true := by rfl) (hkw : (backToKw pos (keywordEach kws env)).any (·.1.isNone) = false := by rfl) :
    wpAny M A (callWith pos (.type T) [] (backTo pos (starEach (e :: rest) env)) (backToKw pos (keywordEach kws env))) Q E s := by
  unfold callWith
  rw [he] at h hplain ⊢
  refine wpAny_bind (wpAny_holding (wpAny_mono (evalArgs_kwB (Q := fun a s1 => wpAny M A (call (.type T) a.pos a.kw) Q E s1) hall h) (fun a s1 h1 => wpAny_bind (wpAny_standAt ?_)) fun _ _ x => x))
  simp only [hplain, hkw, Bool.or_false]
  refine wpAny_bind (wpAny_pure ?_)
  exact wpAny_bind (wpAny_mono h1 (fun r s2 hr => wpAny_bind (wpAny_holding (wpAny_point (wpAny_pure hr)))) fun _ _ x => x)
section
variable {prog : Program} {w : World} {A : Around} {E : Value → Shared → Prop} {s : Shared}
theorem init_kw {T newId : String} {self : Value} {rest : List Value} {kw : List (Str × Value)} (hl : typeLookup (.type T) "__init__" = pure (some (.builtin "object.__init__")))
    (hm : Bind.madeBy (.type T) = pure (some newId)) (hne : (some newId != some "object.__new__") = true) :
    Meets (Builtin.«object.__init__» ⟨self :: rest, kw⟩) (fun _ R s => s.TypeIs self T ∧ R (.ok (.ret .none)) s) := by
  refine Meets.of_wp fun prog w A R s hs => ?_
  obtain ⟨hT, hq⟩ := hs
  cases rest with
  | nil =>
    cases kw with
    | nil => exact wpAny_pure ⟨_, rfl, hq⟩
    | cons a kw =>
      repeat (any_goals (first | assumption | wp_step))
      exact ⟨_, rfl, hq⟩
  | cons a rest =>
    repeat (any_goals (first | assumption | wp_step))
    exact ⟨_, rfl, hq⟩
theorem tcall_kw (a b : Value) : checkTypeCall "enumerate" ⟨[a], [("start", b)]⟩ = pure () := by kernel_rfl
theorem ncall_kw (a b : Value) : checkBuiltinCall "enumerate.__new__" ⟨[.type "enumerate", a], [("start", b)]⟩ = pure () := by kernel_rfl
theorem iargs_kw (a b c : Value) : argsOk "object.__init__" ⟨[a, b], [("start", c)]⟩ := by
  unfold argsOk; rw [signature?_of (id := "object.__init__") (n := ['_', '_', 't', 'i', 'n', 'i', '_', '_']) (o := ['t', 'c', 'e', 'j', 'b', 'o']) (by kernel_rfl) F.owner_object]; kernel_rfl
theorem new_kw (l : Addr) (items : Array Value) (t : Tok) :
    Meets (Builtin.«enumerate.__new__» ⟨[.type "enumerate", .ref l], [("start", .int 1 t)]⟩) (fun _ R s => s.heap.IsList l items ∧
      R (.ok (.ret (.ref (s.heap.push { cls := .type "list_iterator", data := .fields #[.ref l, .int 0 0] }).objs.size)))
        { s with heap := (s.heap.push { cls := .type "list_iterator", data := .fields #[.ref l, .int 0 0] }).push { cls := .type "enumerate", data := .fields #[.none, .bool false, .ref s.heap.objs.size, rawInt 1, .none, .none] } }) :=
  .of_wp fun prog w A R s h => by
    obtain ⟨hp, g, d, tk, os⟩ := s
    obtain ⟨hL, h⟩ := h
    replace hL : Heap.IsList (Shared.heap ⟨hp, g, d, tk, os⟩) l items := hL
    have hsub := sub_enumerate
    wp_walk
    refine wpAny_stack_any fun st => wpAny_pure ?_
    split
    · rename_i c _ _ _ _ _
      cases (c == Value.type "enumerate")
      · wp_walk using wpAny_pyIter_list hL
        exact ⟨_, rfl, h⟩
      · wp_walk using wpAny_pyIter_list hL
        exact ⟨_, rfl, h⟩
    · wp_walk using wpAny_pyIter_list hL
      exact ⟨_, rfl, h⟩
theorem enum_kw {l : Addr} {items : Array Value} {t : Tok} {Q : Value → Shared → Prop} (hL : s.heap.IsList l items)
    (h : ∀ h', IsEnum h' (s.heap.objs.size + 1) s.heap.objs.size 1 .none → h'.IsListIter s.heap.objs.size l 0 → h'.objs.size = s.heap.objs.size + 2 →
      (∀ b o, s.heap.get? b = some o → h'.get? b = some o) → Q (.ref (s.heap.objs.size + 1)) { s with heap := h' }) :
    wpAny (model prog w) A (call (.type "enumerate") [.ref l] [("start", .int 1 t)]) Q E s := by
  have ft := F.called_enumerate
  obtain ⟨c, tl, hmro⟩ := ft.mro
  have hmade := ft.made
  have hsub := ft.sub
  have hct := tcall_kw (.ref l) (.int 1 t)
  refine wpAny_call (codeAny_of_tree ?_)
  show wpAny _ _ (callAny (.type "enumerate") _) _ _ _
  refine wpAny_pure ⟨Code.quiet_builtin _ (by decide +kernel), codeAny_builtin F.entry_type_call ?_⟩
  rw [Around.under_plain (weight_type_call_type "enumerate" [.ref l] _) (units_type_call_type "enumerate" [.ref l] _)]
  have h1 := ft.notType
  have h2 := ft.canCreate
  repeat (any_goals (first | assumption | wp_step))
  have hz : (s.heap.push { cls := .type "list_iterator", data := .fields #[.ref l, .int 0 0] }).objs.size = s.heap.objs.size + 1 := Heap.size_push ..
  have he : IsEnum ((s.heap.push { cls := .type "list_iterator", data := .fields #[.ref l, .int 0 0] }).push
      { cls := .type "enumerate", data := .fields #[.none, .bool false, .ref s.heap.objs.size, rawInt 1, .none, .none] }) (s.heap.objs.size + 1) s.heap.objs.size 1 .none := by
    have := Heap.get?_push_size (s.heap.push { cls := .type "list_iterator", data := .fields #[.ref l, .int 0 0] })
      (o := { cls := .type "enumerate", data := .fields #[.none, .bool false, .ref s.heap.objs.size, rawInt 1, .none, .none] }) rfl
    rw [hz] at this; exact this
  have hq := h _ he ⟨_, Heap.get?_push_of_some _ (Heap.get?_push_size _ rfl), rfl, rfl⟩ (by rw [Heap.size_push, hz]) fun b o x => Heap.get?_push_of_some _ (Heap.get?_push_of_some _ x)
  refine codeAny_mono (codeAny_call_builtin (R := wants (fun obj s1 => s1.TypeIs obj "enumerate" ∧ Q obj s1) E) ft.plain F.entry_enumerate_new (wpAny_of_eq (ncall_kw _ _) (new_kw l items t prog w A.in1 _ s ⟨hL, ?_⟩))) fun r s1 hr => ?_
  · show _ ∧ _
    rw [hz]
    exact ⟨⟨_, he, rfl⟩, hq⟩
  cases r with
  | error e => exact hr
  | ok fl =>
    cases fl with
    | ret obj =>
      obtain ⟨hT, hok⟩ := hr
      have hli := ft.init.lookup
      have hbi := ft.init.bind obj
      repeat (any_goals (first | assumption | wp_step))
      refine codeAny_mono (codeAny_call_builtin (R := wants (fun r s2 => r = .none ∧ Q obj s2) E) ft.init.plain F.entry_object_init (ft.init.check _ _ _ _ _ _ _ _ hT (iargs_kw _ _ _) (init_kw ft.init.lookup ft.made (by decide) prog w A.in1 _ s1 ⟨hT, rfl, hok⟩))) fun r2 s2 hr2 => ?_
      cases r2 with
      | error e => exact hr2
      | ok fl2 =>
        cases fl2 with
        | ret r =>
          obtain ⟨rfl, hq⟩ := hr2
          repeat (any_goals (first | assumption | wp_step))
        | _ => exact hr2.elim
    | _ => exact hr.elim
end
end W1

set_option linter.all false
set_option Elab.async false
set_option maxRecDepth 100000
set_option maxHeartbeats 4000000
namespace W1
open PySem PySem.Spec PyProof.Rows L2
/-- the list at a as it stands at each turn, each item in a new pair, counted from 1 -/
def Itf (K : PySem.W.Frag) (a : Addr) : It :=
  ⟨fun i H => ∃ (xs : List V) (x : V), SqL K H a xs ∧ xs[i]? = some x, fun i H v H' => ∃ T x, v = .ref T ∧ H T = none ∧ H' = upd H T (.tup [.int ((i + 1 : Nat) : Int), x]) ∧ ∀ xs, SqL K H a xs → xs[i]? = some x, fun i H => ∃ xs : List V, SqL K H a xs ∧ xs.length ≤ i⟩
theorem two_of {b e it : Addr} (hb : b ∈ [e, it]) : b = e ∨ b = it := by simpa using hb
theorem turn_enum1 {P : Program} {w : World} {K : PySem.W.Frag} {elts : List Expr} {kk : Nat} {tpos : Pos} (a e it : Addr) :
    Turn P w K (.Tuple elts kk tpos) (Itf K a) [e, it] e (fun i h => (∃ old, IsEnum h e it ((i + 1 : Nat) : Int) old) ∧ h.IsListIter it a i ∧ e ≠ it) where
  mem := List.mem_cons_self
  obj := fun i h st b hb => by
    obtain ⟨⟨old, he⟩, ⟨o, ho, hc, hd⟩, _⟩ := st
    rcases two_of hb with rfl | rfl
    · exact ⟨_, he, fun v q => nomatch q⟩
    · exact ⟨o, ho, fun v q => by rw [hd] at q; cases q⟩
  keep := fun i h h' st k => let ⟨⟨old, he⟩, hi, hne⟩ := st; ⟨⟨old, k e (by simp) _ he⟩, hi.at fun o q => k it (by simp) o q, hne⟩
  item := by
    intro X hP hw hK hc i pins s σ H E I hf st hg
    subst hP hw hK
    obtain ⟨⟨old, he⟩, hit, hne⟩ := st
    obtain ⟨xs, x, hq, hx⟩ := hg
    obtain ⟨its, rv, p, hz⟩ := I.list hq
    obtain ⟨u, hu, ru⟩ := rv.get hx
    have hel : e < s.heap.objs.size := Heap.lt_size he
    have hil : it < s.heap.objs.size := by obtain ⟨_, q, _⟩ := hit; exact Heap.lt_size q
    refine en_item he hit p.isList (x := u) (by simpa using hu) hne fun h' ho hit' hT hsz hk => ?_
    refine ⟨_, rfl, wpAny_letOwnedTupleGo_enum (s := { s with heap := h', toks := s.toks + 1 }) ho fun h'' he' sb => ?_⟩
    have keep : ∀ b ob, b ∉ [e, it] → s.heap.get? b = some ob → h''.get? b = some ob := fun b ob hb q => (sb.2 b (fun z => hb (by simp [z]))).trans (hk b ob (fun z => hb (by simp [z])) (fun z => hb (by simp [z])) q)
    have new : ObjOk X.prog X.w (upd H s.heap.objs.size (.tup [.int ((i + 1 : Nat) : Int), x])) h'' s.heap.objs.size (.tup [.int ((i + 1 : Nat) : Int), x]) :=
      ⟨by show 2 ≤ sizeLine; decide, [.int ((i + 1 : Nat) : Int) s.toks, u], .cons ⟨_, rfl⟩ (.cons ru .nil), ⟨_, (sb.2 _ (Nat.ne_of_gt hel)).trans hT, rfl, _, rfl⟩⟩
    refine ⟨.ref s.heap.objs.size, _, I.turnedNew (ch := [e, it]) (t' := s.toks + 1) keep hf (Nat.le_refl _) new, rfl, ⟨_, x, rfl, I.hok.fresh (Nat.le_refl _), rfl, fun ys hy => by rw [I.list_inj hy hq]; exact hx⟩, ⟨⟨u, ?_⟩, hit'.at fun o q => (sb.2 it (Ne.symm hne)).trans q, hne⟩, fun b hb => ?_⟩
    · have e1 : ((i + 1 + 1 : Nat) : Int) = ((i + 1 : Nat) : Int) + 1 := by omega
      rw [e1]; exact he'
    · have hb' : b < s.heap.objs.size := by
        rcases two_of hb with rfl | rfl
        · exact hel
        · exact hil
      rw [upd_ne (Nat.ne_of_lt hb')]
      exact (hf b hb).1
  done := by
    intro X hP hw hK hc i pins s σ H E I hf st hg
    subst hP hw hK
    obtain ⟨⟨old, he⟩, hit, hne⟩ := st
    obtain ⟨xs, hq, hx⟩ := hg
    obtain ⟨its, rv, p, hz⟩ := I.list hq
    obtain ⟨f0, f1, f2, f3, f4, f5⟩ := hf it (by simp)
    have hl := rv.length
    exact en_end (I.ok.hd hc) he hit p.isList (by simp; omega) fun h' eb => ⟨rfl, I.turned (t' := s.toks) (fun b o hb q => eb b o hb q) f0 f1 f3 f4 f5⟩
  self := fun A i s Q E st h => let ⟨⟨_, he⟩, _⟩ := st; wpAny_pyIter_enum he h
def iEnum1 (K : PySem.W.Frag) (ta : TA) (te : TE) : TI := fun σ H R => ta σ H fun vs H1 => te σ H1 fun v H2 => ∃ a xs, vs = [.ref a] ∧ v = .int 1 ∧ SqL K H2 a xs ∧ R (Itf K a) H2
theorem pi_enum1 {X : Cx} {e e1 : Expr} {ta : TA} {te : TE} {p pos tpos kp : Pos} {elts : List Expr} {kk : Nat} (hg : Gl X "enumerate") (hm : X.mg "enumerate" = none) (ha : PA X [e] ta) (h1 : PE X e1 te)
    (hs : starEach [e] X.env = [(false, eval e X.env)] := by rfl) : PI X (.Tuple elts kk tpos) (.Call (.Name "enumerate" p) [e] [⟨some "start", e1, kp⟩] pos) (iEnum1 X.K ta te) := by
  intro pins s σ H R I h
  have hb : backTo pos (starEach [e] X.env) = [(false, eval e X.env)] := by rw [hs]; rfl
  have he : eval (.Call (.Name "enumerate" p) [e] [⟨some "start", e1, kp⟩] pos) X.env = (do callWith pos (← eval (.Name "enumerate" p) X.env) [] (backTo pos (starEach [e] X.env)) (backToKw pos (keywordEach [⟨some "start", e1, kp⟩] X.env))) := by rfl
  rw [he]
  refine wpAny_bind (ld_blt I hg hm boot_enumerate (callWith_type_kw (kws := [⟨some "start", e1, kp⟩]) (thn (ha pos pins s σ H _ I h) fun us s1 ⟨vs, H1, I1, r1, q1⟩ => ?_) hb (by rw [hb]; rfl)))
  refine kws_cons (thn (h1 pins s1 σ H1 _ I1 q1) fun w s2 ⟨v, H2, I2, r2, a, xs, ex, ev, hq, q⟩ => kws_nil ?_)
  subst ex ev
  obtain ⟨t, rfl⟩ := r2
  cases r1 with
  | cons r rr =>
    cases rr
    cases r
    obtain ⟨its, rv, p', hz⟩ := I2.list hq
    refine enum_kw p'.isList fun h' he hit hsz hk => wpAny_pyIter_enum he ?_
    refine ⟨s2.heap.objs.size + 1, [s2.heap.objs.size + 1, s2.heap.objs.size], _, _, H2, rfl, I2.kept (t' := s2.toks) hk, turn_enum1 a (s2.heap.objs.size + 1) s2.heap.objs.size, ⟨⟨.none, he⟩, hit, Nat.succ_ne_self _⟩, fun b hb => ?_, q⟩
    have hle : s2.heap.objs.size ≤ b := by
      rcases two_of hb with rfl | rfl
      · exact Nat.le_add_right _ _
      · exact Nat.le_refl _
    exact I2.fpOk hle (I2.hok.fresh hle)
theorem for_enum1 {K : PySem.W.Frag} {a : Addr} {xs : List V} {g : TG} {tb : TS} {D : Ends} {σ : L2.St} {H : Hp} (Pv : Nat → L2.St → Hp → Prop) (h0 : Pv 0 σ H) (hl : ∀ i σ H, i ≤ xs.length → Pv i σ H → SqL K H a xs)
    (hs : ∀ i x T σ H, xs[i]? = some x → Pv i σ H → H T = none → g (.ref T) σ (upd H T (.tup [.int ((i + 1 : Nat) : Int), x])) fun σ2 H2 => tb { D with nx := Pv (i + 1), ct := Pv (i + 1), bk := D.nx } σ2 H2) (hd : ∀ σ H, Pv xs.length σ H → D.nx σ H) :
    ∃ W : Nat → Nat → L2.St → Hp → Prop, (∃ m, W 0 m σ H) ∧ ∀ i m σ H, W i m σ H →
      ((Itf K a).stop i H ∧ D.nx σ H) ∨ ((Itf K a).go i H ∧ ∃ N : L2.St → Hp → Prop, (∀ σ' H', N σ' H' → ∃ m', m' < m ∧ W (i + 1) m' σ' H') ∧ ∀ x H', (Itf K a).yld i H x H' → g x σ H' fun σ2 H2 => tb { D with nx := N, ct := N, bk := D.nx } σ2 H2) := by
  refine ⟨fun i m σ H => m = xs.length - i ∧ i ≤ xs.length ∧ Pv i σ H, ⟨xs.length, by simp, Nat.zero_le _, h0⟩, ?_⟩
  rintro i m σ H ⟨rfl, hi, p⟩
  have q := hl i σ H hi p
  by_cases hlt : i < xs.length
  · refine .inr ⟨⟨xs, xs[i], q, by simp [hlt]⟩, Pv (i + 1), fun σ' H' p' => ⟨xs.length - (i + 1), by omega, rfl, hlt, p'⟩, fun v H' y => ?_⟩
    obtain ⟨T, x, rfl, hT, rfl, y⟩ := y
    exact hs i x T σ H (y xs q) p hT
  · have e : i = xs.length := by omega
    subst e
    exact .inl ⟨⟨xs, q, Nat.le_refl _⟩, hd σ H p⟩
theorem bo_any : bootBuiltins "any" = some (.builtin "any") := by decide +kernel
theorem call_len_seqK {X : Cx} {K : PySem.W.Frag} (hK : X.K = K) : CallR X (.builtin "len") (fun xs H Q => ∃ p ys, xs = [.ref p] ∧ (SqL K H p ys ∨ SqT K H p ys) ∧ Q (.int ys.length) H) := by
  subst hK
  exact call_len_seq
end W1

namespace Mi
open Rs
inductive Sy where
  | op | cp | ob | cb | cm | to | num | bool | list | pair | row | ty | bad | item | items
  deriving DecidableEq
def starts : Sy → Option (List Sy)
  | .num => some []
  | .bool => some []
  | .ty => some []
  | .list => some [.op, .item, .cp]
  | .pair => some [.op, .item, .cm, .item, .cp]
  | .ob => some [.row, .items, .to, .row, .items, .cb]
  | _ => none
def step (k : Sy) : List Sy → Option (List Sy)
  | [] => none
  | .items :: r => match starts k with
    | some p => some (p ++ .items :: r)
    | none => match r with
      | [] => none
      | v :: q => if v = k then some q else none
  | .item :: r => match starts k with
    | some p => some (p ++ r)
    | none => none
  | w :: r => if w = k then some r else none
def wt : Sy → Nat
  | .cp => 1
  | .cb => 1
  | _ => 0
def cnt : List Sy → Nat
  | [] => 0
  | a :: r => wt a + cnt r
def kd : ETok → Sy
  | .num => .num
  | .bool => .bool
  | .list => .list
  | .pair => .pair
  | .row _ => .row
  | .ty _ => .ty
  | .to => .to
  | .openP => .op
  | .closeP => .cp
  | .openB => .ob
  | .closeB => .cb
  | .comma => .cm
  | .bad => .bad
def runE (n : Nat) : List ET → List Sy → Option Nat
  | [], st => if st = [.items] then none else some n
  | (p, t) :: r, st => match step (kd t) st with
    | none => some p
    | some st' => if 40 < cnt st' then some p else runE n r st'
theorem runE_none {n p : Nat} {t : ETok} {r : List ET} {st : List Sy} (h : step (kd t) st = none) : runE n ((p, t) :: r) st = some p := by
  simp only [runE, h]
theorem runE_some {n p : Nat} {t : ETok} {r : List ET} {st st' : List Sy} (h : step (kd t) st = some st') (hc : cnt st' ≤ 40) : runE n ((p, t) :: r) st = runE n r st' := by
  simp only [runE, h]
  rw [if_neg (by omega)]
theorem runE_deep {n p : Nat} {t : ETok} {r : List ET} {st st' : List Sy} (h : step (kd t) st = some st') (hc : 40 < cnt st') : runE n ((p, t) :: r) st = some p := by
  simp only [runE, h]
  rw [if_pos hc]
theorem runE_nil {n : Nat} {st : List Sy} (h : st ≠ [.items]) : runE n [] st = some n := by
  simp only [runE]
  rw [if_neg h]
/-- what may stand below the items of a row -/
def Nx (st : List Sy) : Prop := st = [] ∨ (∃ q, st = .to :: q) ∨ ∃ q, st = .cb :: q
def Stop (d : Nat) (l : List ET) : Prop := l = [] ∨ (∃ p r, l = (p, .to) :: r) ∨ ∃ p r, l = (p, .closeB) :: r ∧ d ≠ 0
def TyOk (n f d : Nat) (l : List ET) (st : List Sy) : Prop := match tyIn n f d l with
  | .error p => runE n l (.item :: st) = some p
  | .ok x => x.2.length < l.length ∧ runE n l (.item :: st) = runE n x.2 st
def RowOk (n f d : Nat) (l : List ET) (st : List Sy) : Prop := match rowIn n f d l with
  | .error p => runE n l (.row :: .items :: st) = some p
  | .ok x => x.2.length < l.length ∧ Stop d x.2 ∧ runE n l (.row :: .items :: st) = runE n x.2 (.items :: st)
def MoreOk (n f d : Nat) (a : Row) (l : List ET) (st : List Sy) : Prop := match moreIn n f d a l with
  | .error p => runE n l (.items :: st) = some p
  | .ok x => x.2.length ≤ l.length ∧ Stop d x.2 ∧ runE n l (.items :: st) = runE n x.2 (.items :: st)
/-- a token that must stand here: w is awaited -/
def WantOk (n : Nat) (ok : List ET → Bool) (w : Sy) (l : List ET) (st : List Sy) : Prop := match want n ok l with
  | .error p => runE n l (w :: st) = some p
  | .ok r => r.length < l.length ∧ runE n l (w :: st) = runE n r st
theorem want_gen (n : Nat) (ok : List ET → Bool) (w : Sy) (hw : w ≠ .item ∧ w ≠ .items) (h0 : ok [] = false) (h1 : ∀ p t r, ok ((p, t) :: r) = true ↔ kd t = w) (l : List ET) (st : List Sy) (hc : cnt st ≤ 40) : WantOk n ok w l st := by
  unfold WantOk want
  have hs : ∀ k, step k (w :: st) = if w = k then some st else none := fun k => by
    cases w <;> first | rfl | exact absurd rfl hw.1 | exact absurd rfl hw.2
  match l with
  | [] =>
    rw [h0, if_neg (by decide)]
    exact runE_nil (by intro e; injection e with e _; exact hw.2 e)
  | (p, t) :: r =>
    by_cases e : ok ((p, t) :: r) = true
    · rw [if_pos e]
      refine ⟨by simp, runE_some (by rw [hs, if_pos ((h1 p t r).mp e).symm]) hc⟩
    · rw [if_neg e]
      exact runE_none (by rw [hs, if_neg fun q => e ((h1 p t r).mpr q.symm)])
theorem want_op (n : Nat) (l : List ET) (st : List Sy) (hc : cnt st ≤ 40) : WantOk n isOpenP .op l st :=
  want_gen n isOpenP .op (by decide) rfl (fun p t r => by cases t <;> simp [isOpenP, kd]) l st hc
theorem want_cp (n : Nat) (l : List ET) (st : List Sy) (hc : cnt st ≤ 40) : WantOk n isCloseP .cp l st :=
  want_gen n isCloseP .cp (by decide) rfl (fun p t r => by cases t <;> simp [isCloseP, kd]) l st hc
theorem want_cm (n : Nat) (l : List ET) (st : List Sy) (hc : cnt st ≤ 40) : WantOk n isComma .cm l st :=
  want_gen n isComma .cm (by decide) rfl (fun p t r => by cases t <;> simp [isComma, kd]) l st hc
/-- behind a row: to or ] is awaited below items -/
theorem want_after (n d : Nat) (ok : List ET → Bool) (w : Sy) (hw : w = .to ∨ w = .cb) (h0 : ok [] = false) (h1 : ∀ p t r, ok ((p, t) :: r) = true ↔ kd t = w) (l : List ET) (st : List Sy) (hS : Stop d l) (hc : cnt st ≤ 40) :
    match want n ok l with
    | .error p => runE n l (.items :: w :: st) = some p
    | .ok r => r.length < l.length ∧ runE n l (.items :: w :: st) = runE n r st := by
  unfold want
  have hs : ∀ k, starts k = none → step k (.items :: w :: st) = if w = k then some st else none := fun k hk => by
    simp only [step, hk]
  rcases hS with rfl | ⟨p, r, rfl⟩ | ⟨p, r, rfl, _⟩
  · rw [h0, if_neg (by decide)]
    exact runE_nil (by simp)
  · by_cases e : ok ((p, .to) :: r) = true
    · rw [if_pos e]
      exact ⟨by simp, runE_some (by rw [hs _ rfl, if_pos ((h1 p _ r).mp e).symm]) hc⟩
    · rw [if_neg e]
      exact runE_none (by rw [hs _ rfl, if_neg fun q => e ((h1 p _ r).mpr q.symm)])
  · by_cases e : ok ((p, .closeB) :: r) = true
    · rw [if_pos e]
      exact ⟨by simp, runE_some (by rw [hs _ rfl, if_pos ((h1 p _ r).mp e).symm]) hc⟩
    · rw [if_neg e]
      exact runE_none (by rw [hs _ rfl, if_neg fun q => e ((h1 p _ r).mpr q.symm)])
theorem isTo_iff (p : Nat) (t : ETok) (r : List ET) : isTo ((p, t) :: r) = true ↔ kd t = .to := by cases t <;> simp [isTo, kd]
theorem isCloseB_iff (p : Nat) (t : ETok) (r : List ET) : isCloseB ((p, t) :: r) = true ↔ kd t = .cb := by cases t <;> simp [isCloseB, kd]
theorem step_items {k : Sy} {st p : List Sy} (h : starts k = some p) : step k (.items :: st) = step k (.item :: .items :: st) := by
  simp only [step, h]
theorem runE_items {n p : Nat} {t : ETok} {r : List ET} {st q : List Sy} (h : starts (kd t) = some q) : runE n ((p, t) :: r) (.items :: st) = runE n ((p, t) :: r) (.item :: .items :: st) := by
  simp only [runE, step_items h]
/-- the parse by thenE -/
theorem thenE_ok {α β : Type} {x : Except Nat α} {f : α → Except Nat β} {y : α} (h : x = .ok y) : thenE x f = f y := by subst h; rfl
theorem thenE_err {α β : Type} {x : Except Nat α} {f : α → Except Nat β} {p : Nat} (h : x = .error p) : thenE x f = .error p := by subst h; rfl
theorem ty_step (n f : Nat) (ihT : ∀ l d st, 2 * l.length + 1 ≤ f → cnt st = d → d ≤ 40 → TyOk n f d l st)
    (ihR : ∀ l d st, 2 * l.length + 2 ≤ f → cnt st = d → d ≤ 40 → Nx st → RowOk n f d l st)
    (l : List ET) (d : Nat) (st : List Sy) (hf : 2 * l.length + 1 ≤ f + 1) (hd : cnt st = d) (h40 : d ≤ 40) : TyOk n (f + 1) d l st := by
  match l with
  | [] =>
    show runE n [] (.item :: st) = some n
    exact runE_nil (by simp)
  | (p, t) :: r =>
    have hlen : 2 * r.length + 2 ≤ f := by simp only [List.length_cons] at hf; omega
    have plain : ∀ s : List Sy, step (kd t) (.item :: st) = some s → s = st → runE n ((p, t) :: r) (.item :: st) = runE n r st := fun s h e => by
      subst e
      exact runE_some h (by omega)
    have bad : starts (kd t) = none → runE n ((p, t) :: r) (.item :: st) = some p := fun h => runE_none (by simp only [step, h])
    cases t with
    | num => exact ⟨by simp, plain _ rfl rfl⟩
    | bool => exact ⟨by simp, plain _ rfl rfl⟩
    | ty k => exact ⟨by simp, plain _ rfl rfl⟩
    | row k => exact bad rfl
    | to => exact bad rfl
    | openP => exact bad rfl
    | closeP => exact bad rfl
    | closeB => exact bad rfl
    | comma => exact bad rfl
    | bad => exact bad rfl
    | list =>
      unfold TyOk
      simp only [tyIn]
      by_cases hD : DEEP ≤ d
      · rw [if_pos hD]
        exact runE_deep (st' := .op :: .item :: .cp :: st) rfl (by simp only [cnt, wt]; unfold DEEP at hD; omega)
      · rw [if_neg hD]
        have hD' : d < 40 := by unfold DEEP at hD; omega
        have e1 : runE n ((p, .list) :: r) (.item :: st) = runE n r (.op :: .item :: .cp :: st) := runE_some rfl (by simp only [cnt, wt]; omega)
        rw [e1]
        have w1 := want_op n r (.item :: .cp :: st) (by simp only [cnt, wt]; omega)
        unfold WantOk at w1
        cases q1 : want n isOpenP r with
        | error p1 => rw [q1] at w1; rw [thenE_err rfl]; exact w1
        | ok r1 =>
          rw [q1] at w1
          rw [thenE_ok rfl]
          have t1 := ihT r1 (d + 1) (.cp :: st) (by have := w1.1; omega) (by simp only [cnt, wt]; omega) (by omega)
          unfold TyOk at t1
          cases q2 : tyIn n f (d + 1) r1 with
          | error p1 => rw [q2] at t1; rw [thenE_err rfl, w1.2]; exact t1
          | ok x =>
            rw [q2] at t1
            rw [thenE_ok rfl]
            have w2 := want_cp n x.2 st (by omega)
            unfold WantOk at w2
            cases q3 : want n isCloseP x.2 with
            | error p1 => rw [q3] at w2; rw [thenE_err rfl, w1.2, t1.2]; exact w2
            | ok r2 =>
              rw [q3] at w2
              rw [thenE_ok rfl]
              refine ⟨?_, by rw [w1.2, t1.2, w2.2]⟩
              have a := w1.1; have b := t1.1; have c := w2.1
              simp only [List.length_cons]; omega
    | pair =>
      unfold TyOk
      simp only [tyIn]
      by_cases hD : DEEP ≤ d
      · rw [if_pos hD]
        exact runE_deep (st' := .op :: .item :: .cm :: .item :: .cp :: st) rfl (by simp only [cnt, wt]; unfold DEEP at hD; omega)
      · rw [if_neg hD]
        have hD' : d < 40 := by unfold DEEP at hD; omega
        have e1 : runE n ((p, .pair) :: r) (.item :: st) = runE n r (.op :: .item :: .cm :: .item :: .cp :: st) := runE_some rfl (by simp only [cnt, wt]; omega)
        rw [e1]
        have w1 := want_op n r (.item :: .cm :: .item :: .cp :: st) (by simp only [cnt, wt]; omega)
        unfold WantOk at w1
        cases q1 : want n isOpenP r with
        | error p1 => rw [q1] at w1; rw [thenE_err rfl]; exact w1
        | ok r1 =>
          rw [q1] at w1
          rw [thenE_ok rfl]
          have t1 := ihT r1 (d + 1) (.cm :: .item :: .cp :: st) (by have := w1.1; omega) (by simp only [cnt, wt]; omega) (by omega)
          unfold TyOk at t1
          cases q2 : tyIn n f (d + 1) r1 with
          | error p1 => rw [q2] at t1; rw [thenE_err rfl, w1.2]; exact t1
          | ok x =>
            rw [q2] at t1
            rw [thenE_ok rfl]
            have w2 := want_cm n x.2 (.item :: .cp :: st) (by simp only [cnt, wt]; omega)
            unfold WantOk at w2
            cases q3 : want n isComma x.2 with
            | error p1 => rw [q3] at w2; rw [thenE_err rfl, w1.2, t1.2]; exact w2
            | ok r2 =>
              rw [q3] at w2
              rw [thenE_ok rfl]
              have t2 := ihT r2 (d + 1) (.cp :: st) (by have := w1.1; have := t1.1; have := w2.1; omega) (by simp only [cnt, wt]; omega) (by omega)
              unfold TyOk at t2
              cases q4 : tyIn n f (d + 1) r2 with
              | error p1 => rw [q4] at t2; rw [thenE_err rfl, w1.2, t1.2, w2.2]; exact t2
              | ok y =>
                rw [q4] at t2
                rw [thenE_ok rfl]
                have w3 := want_cp n y.2 st (by omega)
                unfold WantOk at w3
                cases q5 : want n isCloseP y.2 with
                | error p1 => rw [q5] at w3; rw [thenE_err rfl, w1.2, t1.2, w2.2, t2.2]; exact w3
                | ok r3 =>
                  rw [q5] at w3
                  rw [thenE_ok rfl]
                  refine ⟨?_, by rw [w1.2, t1.2, w2.2, t2.2, w3.2]⟩
                  have a := w1.1; have b := t1.1; have c := w2.1; have d' := t2.1; have e := w3.1
                  simp only [List.length_cons]; omega
    | openB =>
      unfold TyOk
      simp only [tyIn]
      by_cases hD : DEEP ≤ d
      · rw [if_pos hD]
        exact runE_deep (st' := .row :: .items :: .to :: .row :: .items :: .cb :: st) rfl (by simp only [cnt, wt]; unfold DEEP at hD; omega)
      · rw [if_neg hD]
        have hD' : d < 40 := by unfold DEEP at hD; omega
        have e1 : runE n ((p, .openB) :: r) (.item :: st) = runE n r (.row :: .items :: .to :: .row :: .items :: .cb :: st) := runE_some rfl (by simp only [cnt, wt]; omega)
        rw [e1]
        have t1 := ihR r (d + 1) (.to :: .row :: .items :: .cb :: st) hlen (by simp only [cnt, wt]; omega) (by omega) (.inr (.inl ⟨_, rfl⟩))
        unfold RowOk at t1
        cases q1 : rowIn n f (d + 1) r with
        | error p1 => rw [q1] at t1; rw [thenE_err rfl]; exact t1
        | ok x =>
          rw [q1] at t1
          rw [thenE_ok rfl]
          have w1 := want_after n (d + 1) isTo .to (.inl rfl) rfl isTo_iff x.2 (.row :: .items :: .cb :: st) t1.2.1 (by simp only [cnt, wt]; omega)
          cases q2 : want n isTo x.2 with
          | error p1 => rw [q2] at w1; rw [thenE_err rfl, t1.2.2]; exact w1
          | ok r1 =>
            rw [q2] at w1
            rw [thenE_ok rfl]
            have t2 := ihR r1 (d + 1) (.cb :: st) (by have := t1.1; have := w1.1; omega) (by simp only [cnt, wt]; omega) (by omega) (.inr (.inr ⟨_, rfl⟩))
            unfold RowOk at t2
            cases q3 : rowIn n f (d + 1) r1 with
            | error p1 => rw [q3] at t2; rw [thenE_err rfl, t1.2.2, w1.2]; exact t2
            | ok y =>
              rw [q3] at t2
              rw [thenE_ok rfl]
              have w2 := want_after n (d + 1) isCloseB .cb (.inr rfl) rfl isCloseB_iff y.2 st t2.2.1 (by omega)
              cases q4 : want n isCloseB y.2 with
              | error p1 => rw [q4] at w2; rw [thenE_err rfl, t1.2.2, w1.2, t2.2.2]; exact w2
              | ok r2 =>
                rw [q4] at w2
                rw [thenE_ok rfl]
                refine ⟨?_, by rw [t1.2.2, w1.2, t2.2.2, w2.2]⟩
                have a := t1.1; have b := w1.1; have c := t2.1; have e := w2.1
                simp only [List.length_cons]; omega
theorem row_step (n f : Nat) (ihM : ∀ a l d st, 2 * l.length + 2 ≤ f → cnt st = d → d ≤ 40 → Nx st → MoreOk n f d a l st)
    (l : List ET) (d : Nat) (st : List Sy) (hf : 2 * l.length + 2 ≤ f + 1) (hd : cnt st = d) (h40 : d ≤ 40) (hN : Nx st) : RowOk n (f + 1) d l st := by
  match l with
  | [] =>
    show runE n [] (.row :: .items :: st) = some n
    exact runE_nil (by simp)
  | (p, t) :: r =>
    have bad : kd t ≠ .row → runE n ((p, t) :: r) (.row :: .items :: st) = some p := fun h => runE_none (by
      show (if Sy.row = kd t then some _ else none) = none
      rw [if_neg fun e => h e.symm])
    cases t with
    | row k =>
      unfold RowOk
      simp only [rowIn]
      have m := ihM (.var k) r d st (by simp only [List.length_cons] at hf; omega) hd h40 hN
      have e1 : runE n ((p, .row k) :: r) (.row :: .items :: st) = runE n r (.items :: st) := runE_some rfl (by simp only [cnt, wt]; omega)
      rw [e1]
      unfold MoreOk at m
      cases q : moreIn n f d (.var k) r with
      | error p1 => rw [q] at m; exact m
      | ok x => rw [q] at m; exact ⟨by have := m.1; simp only [List.length_cons]; omega, m.2⟩
    | num => exact bad (by decide)
    | bool => exact bad (by decide)
    | list => exact bad (by decide)
    | pair => exact bad (by decide)
    | ty k => exact bad (by simp [kd])
    | to => exact bad (by decide)
    | openP => exact bad (by decide)
    | closeP => exact bad (by decide)
    | openB => exact bad (by decide)
    | closeB => exact bad (by decide)
    | comma => exact bad (by decide)
    | bad => exact bad (by decide)
theorem more_step (n f : Nat) (ihT : ∀ l d st, 2 * l.length + 1 ≤ f → cnt st = d → d ≤ 40 → TyOk n f d l st)
    (ihM : ∀ a l d st, 2 * l.length + 2 ≤ f → cnt st = d → d ≤ 40 → Nx st → MoreOk n f d a l st)
    (a : Row) (l : List ET) (d : Nat) (st : List Sy) (hf : 2 * l.length + 2 ≤ f + 1) (hd : cnt st = d) (h40 : d ≤ 40) (hN : Nx st) : MoreOk n (f + 1) d a l st := by
  match l with
  | [] => exact ⟨Nat.le_refl _, .inl rfl, rfl⟩
  | (p, t) :: r =>
    -- a token that begins no item, and neither to nor ]
    have go : moreIn n (f + 1) d a ((p, t) :: r) = thenE (tyIn n f d ((p, t) :: r)) (fun (y : Ty × List ET) => moreIn n f d (.snoc a y.1) y.2) → (starts (kd t) = none → kd t ≠ .to ∧ kd t ≠ .cb) → MoreOk n (f + 1) d a ((p, t) :: r) st := fun e hk => by
      unfold MoreOk
      rw [e]
      have t1 := ihT ((p, t) :: r) d (.items :: st) (by omega) (by simp only [cnt, wt]; omega) h40
      unfold TyOk at t1
      cases hs : starts (kd t) with
      | some q0 =>
        have e2 : runE n ((p, t) :: r) (.items :: st) = runE n ((p, t) :: r) (.item :: .items :: st) := runE_items hs
        rw [e2]
        cases q : tyIn n f d ((p, t) :: r) with
        | error p1 => rw [q] at t1; rw [thenE_err rfl]; exact t1
        | ok x =>
          rw [q] at t1
          rw [thenE_ok rfl]
          have m := ihM (.snoc a x.1) x.2 d st (by have := t1.1; omega) hd h40 hN
          unfold MoreOk at m
          cases q2 : moreIn n f d (.snoc a x.1) x.2 with
          | error p1 => rw [q2] at m; rw [t1.2]; exact m
          | ok y => rw [q2] at m; rw [t1.2]; exact ⟨by have := t1.1; have := m.1; omega, m.2⟩
      | none =>
        obtain ⟨n1, n2⟩ := hk hs
        have e3 : runE n ((p, t) :: r) (.items :: st) = some p := runE_none (by
          simp only [step, hs]
          rcases hN with rfl | ⟨q, rfl⟩ | ⟨q, rfl⟩
          · rfl
          · show (if Sy.to = kd t then some q else none) = none
            rw [if_neg fun e => n1 e.symm]
          · show (if Sy.cb = kd t then some q else none) = none
            rw [if_neg fun e => n2 e.symm])
        have e4 : runE n ((p, t) :: r) (.item :: .items :: st) = some p := runE_none (by simp only [step, hs])
        have e5 : tyIn n f d ((p, t) :: r) = .error p := by
          obtain ⟨g, rfl⟩ : ∃ g, f = g + 1 := ⟨f - 1, by simp only [List.length_cons] at hf; omega⟩
          cases t <;> first | rfl | (exact absurd hs (by simp [kd, starts]))
        rw [e5, thenE_err rfl]
        exact e3
    cases t with
    | to => exact ⟨Nat.le_refl _, .inr (.inl ⟨_, _, rfl⟩), rfl⟩
    | closeB =>
      unfold MoreOk
      simp only [moreIn]
      by_cases h0 : d = 0
      · rw [if_pos h0]
        refine runE_none ?_
        rcases hN with rfl | ⟨q, rfl⟩ | ⟨q, rfl⟩
        · rfl
        · rfl
        · simp only [cnt, wt] at hd; omega
      · rw [if_neg h0]
        exact ⟨Nat.le_refl _, .inr (.inr ⟨_, _, rfl, h0⟩), rfl⟩
    | num => exact go rfl (fun h => by simp [kd, starts] at h)
    | bool => exact go rfl (fun h => by simp [kd, starts] at h)
    | list => exact go rfl (fun h => by simp [kd, starts] at h)
    | pair => exact go rfl (fun h => by simp [kd, starts] at h)
    | ty k => exact go rfl (fun h => by simp [kd, starts] at h)
    | row k => exact go rfl (fun _ => by simp [kd])
    | openP => exact go rfl (fun _ => by simp [kd])
    | closeP => exact go rfl (fun _ => by simp [kd])
    | openB => exact go rfl (fun h => by simp [kd, starts] at h)
    | comma => exact go rfl (fun _ => by simp [kd])
    | bad => exact go rfl (fun _ => by simp [kd])
theorem all_run (n : Nat) : ∀ f : Nat, (∀ l d st, 2 * l.length + 1 ≤ f → cnt st = d → d ≤ 40 → TyOk n f d l st) ∧
    (∀ l d st, 2 * l.length + 2 ≤ f → cnt st = d → d ≤ 40 → Nx st → RowOk n f d l st) ∧
    (∀ a l d st, 2 * l.length + 2 ≤ f → cnt st = d → d ≤ 40 → Nx st → MoreOk n f d a l st)
  | 0 => ⟨fun _ _ _ h => by omega, fun _ _ _ h => by omega, fun _ _ _ _ h => by omega⟩
  | f + 1 =>
    let ⟨h1, h2, h3⟩ := all_run n f
    ⟨fun l d st a b c => ty_step n f h1 h2 l d st a b c, fun l d st a b c e => row_step n f h3 l d st a b c e, fun x l d st a b c e => more_step n f h1 h3 x l d st a b c e⟩
/-- the whole text: what effectIn tells is what the run tells -/
theorem effect_run (t : Bytes) : match effectIn t with
    | .error p => runE t.length (eTokens t) [.row, .items, .to, .row, .items] = some p
    | .ok _ => runE t.length (eTokens t) [.row, .items, .to, .row, .items] = none := by
  unfold effectIn
  simp only []
  obtain ⟨_, hR, _⟩ := all_run t.length (2 * (eTokens t).length + 4)
  have r1 := hR (eTokens t) 0 [.to, .row, .items] (by omega) rfl (by omega) (.inr (.inl ⟨_, rfl⟩))
  unfold RowOk at r1
  cases q1 : rowIn t.length (2 * (eTokens t).length + 4) 0 (eTokens t) with
  | error p => rw [q1] at r1; exact r1
  | ok x =>
    rw [q1] at r1
    obtain ⟨a, r⟩ := x
    simp only [] at r1 ⊢
    have w1 := want_after t.length 0 isTo .to (.inl rfl) rfl isTo_iff r [.row, .items] r1.2.1 (by decide)
    cases q2 : want t.length isTo r with
    | error p => rw [q2] at w1; simp only [] at w1 ⊢; rw [r1.2.2]; exact w1
    | ok r1' =>
      rw [q2] at w1
      simp only [] at w1 ⊢
      have r2 := hR r1' 0 [] (by have := r1.1; have := w1.1; omega) rfl (by omega) (.inl rfl)
      unfold RowOk at r2
      cases q3 : rowIn t.length (2 * (eTokens t).length + 4) 0 r1' with
      | error p => rw [q3] at r2; simp only [] at r2 ⊢; rw [r1.2.2, w1.2]; exact r2
      | ok y =>
        rw [q3] at r2
        obtain ⟨b, r3⟩ := y
        simp only [] at r2 ⊢
        rw [r1.2.2, w1.2, r2.2.2]
        match r3, r2.2.1 with
        | [], _ => rfl
        | (p, t') :: r4, hS =>
          simp only []
          rcases hS with h | ⟨p', r', h⟩ | ⟨p', r', h, h0⟩
          · exact absurd h (by simp)
          · injection h with h1 h2
            injection h1 with h3 h4
            subst h4
            exact runE_none rfl
          · exact absurd rfl h0
end Mi

namespace Mi
open Rs
def isCap (c : Int) : Bool := decide (65 ≤ c) && decide (c ≤ 90)
def isSmall (c : Int) : Bool := decide (97 ≤ c) && decide (c ≤ 122)
def isDig (c : Int) : Bool := decide (48 ≤ c) && decide (c ≤ 57)
def isLet (c : Int) : Bool := isCap c || isSmall c
def inRun (c : Int) : Bool := isLet c || isDig c
def blanks : List Int := [32, 9, 10, 13]
def isBlk (c : Int) : Bool := decide (c ∈ blanks)
def fixed : List Sy := [.op, .cp, .ob, .cb, .cm, .to, .num, .bool, .list, .pair]
def symBytes : Sy → List Int
  | .op => [40]
  | .cp => [41]
  | .ob => [91]
  | .cb => [93]
  | .cm => [44]
  | .to => [45, 45]
  | .num => [110, 117, 109]
  | .bool => [98, 111, 111, 108]
  | .list => [108, 105, 115, 116]
  | .pair => [112, 97, 105, 114]
  | _ => []
def tailOk (d : List Int) : Bool := decide (d.length ≤ 3) && (d.all isDig && (d.isEmpty || decide (d.headD 0 ≠ 48)))
def isVar : List Int → Bool
  | [] => false
  | c :: d => isLet c && tailOk d
theorem isVar_cons (c : Int) (d : List Int) : isVar (c :: d) = (isLet c && tailOk d) := rfl
def kindOf (part : List Int) : Sy := match fixed.find? (fun k => decide (part = symBytes k)) with
  | some k => k
  | none => if isVar part = true then (if isCap (part.headD 0) = true then .row else .ty) else .bad
def rounds (d : List Int) : Int := d.foldl (fun a b => a * 10 + b - 48) 0
def first (k : Sy) : Int := if k = .row then 65 else 97
def numOf (k : Sy) (part : List Int) : Int := if k = .row ∨ k = .ty then rounds part.tail * 26 + part.headD 0 - first k else 0
def tokEnd (l : List Int) : Nat := if l.take 2 = [45, 45] then 2 else max (l.takeWhile inRun).length 1
theorem tokEnd_pos (l : List Int) : 1 ≤ tokEnd l := by unfold tokEnd; split <;> omega
abbrev Tk := Sy × Int × Nat
def tok1 (at_ : Nat) (l : List Int) : Tk := (kindOf (l.take (tokEnd l)), numOf (kindOf (l.take (tokEnd l))) (l.take (tokEnd l)), at_)
def toksF : Nat → Nat → List Int → List Tk
  | 0, _, _ => []
  | _ + 1, _, [] => []
  | f + 1, a, c :: r => (if isBlk c = true then [] else [tok1 a (c :: r)]) ++ toksF f (a + tokEnd (c :: r)) ((c :: r).drop (tokEnd (c :: r)))
theorem toksF_nil (f a : Nat) : toksF f a [] = [] := by cases f <;> rfl
theorem toksF_fuel : ∀ (f g a : Nat) (l : List Int), l.length ≤ f → l.length ≤ g → toksF f a l = toksF g a l
  | f, g, a, [], _, _ => by rw [toksF_nil, toksF_nil]
  | 0, _, _, c :: r, h, _ => by simp at h
  | _, 0, _, c :: r, _, h => by simp at h
  | f + 1, g + 1, a, c :: r, h1, h2 => by
    have hp := tokEnd_pos (c :: r)
    have hl : ((c :: r).drop (tokEnd (c :: r))).length ≤ r.length := by rw [List.length_drop]; simp only [List.length_cons]; omega
    simp only [List.length_cons] at h1 h2
    simp only [toksF]
    rw [toksF_fuel f g _ _ (by omega) (by omega)]
def toks (a : Nat) (l : List Int) : List Tk := toksF l.length a l
theorem toks_nil (a : Nat) : toks a [] = [] := rfl
theorem toks_cons (a : Nat) (c : Int) (r : List Int) : toks a (c :: r) = (if isBlk c = true then [] else [tok1 a (c :: r)]) ++ toks (a + tokEnd (c :: r)) ((c :: r).drop (tokEnd (c :: r))) := by
  have hp := tokEnd_pos (c :: r)
  have hl : ((c :: r).drop (tokEnd (c :: r))).length ≤ r.length := by rw [List.length_drop]; simp only [List.length_cons]; omega
  show toksF (r.length + 1) a (c :: r) = _
  simp only [toksF]
  rw [toksF_fuel r.length _ _ _ hl (Nat.le_refl _)]
  rfl
def bt (z : Int) : UInt8 := UInt8.ofNat z.toNat
def InB (l : List Int) : Prop := ∀ z ∈ l, 0 ≤ z ∧ z ≤ 255
theorem bt_nat {z : Int} (h : 0 ≤ z ∧ z ≤ 255) : (bt z).toNat = z.toNat := by
  unfold bt
  rw [UInt8.toNat_ofNat_of_lt' (by show z.toNat < 256; omega)]
theorem bt_eq {z : Int} (h : 0 ≤ z ∧ z ≤ 255) (n : Nat) (hn : n < 256) : bt z = UInt8.ofNat n ↔ z = n := by
  rw [← UInt8.toNat_inj, bt_nat h, UInt8.toNat_ofNat_of_lt' hn]
  omega
theorem InB.cons {c : Int} {r : List Int} (h : InB (c :: r)) : (0 ≤ c ∧ c ≤ 255) ∧ InB r := ⟨h c (by simp), fun z hz => h z (by simp [hz])⟩
theorem InB.drop {l : List Int} (h : InB l) (n : Nat) : InB (l.drop n) := fun z hz => h z (List.mem_of_mem_drop hz)
theorem InB.takeWhile {l : List Int} (h : InB l) (p : Int → Bool) : InB (l.takeWhile p) := fun z hz => h z ((List.takeWhile_sublist p).subset hz)
theorem bt_dig {z : Int} (h : 0 ≤ z ∧ z ≤ 255) : isDigit (bt z) = isDig z := by
  unfold isDigit isDig; rw [bt_nat h, Bool.eq_iff_iff]; simp only [Bool.and_eq_true, decide_eq_true_eq]; omega
theorem bt_alnum {z : Int} (h : 0 ≤ z ∧ z ≤ 255) : alnum (bt z) = inRun z := by
  unfold alnum inRun isLet isCap isSmall; rw [bt_nat h, bt_dig h, Bool.eq_iff_iff]; simp only [isDig, Bool.or_eq_true, Bool.and_eq_true, decide_eq_true_eq]; omega
theorem bt_blank {z : Int} (h : 0 ≤ z ∧ z ≤ 255) : isBlank (bt z) = isBlk z := by
  have e1 := bt_eq h 32 (by decide)
  have e2 := bt_eq h 9 (by decide)
  have e3 := bt_eq h 10 (by decide)
  have e4 := bt_eq h 13 (by decide)
  unfold isBlank isBlk blanks
  rw [Bool.eq_iff_iff]
  simp only [Bool.or_eq_true, beq_iff_eq, decide_eq_true_eq, List.mem_cons, List.not_mem_nil, or_false]
  constructor
  · rintro (h | h | h | h)
    · exact .inl (e1.mp h)
    · exact .inr (.inl (e2.mp h))
    · exact .inr (.inr (.inl (e3.mp h)))
    · exact .inr (.inr (.inr (e4.mp h)))
  · rintro (h | h | h | h)
    · exact .inl (e1.mpr h)
    · exact .inr (.inl (e2.mpr h))
    · exact .inr (.inr (.inl (e3.mpr h)))
    · exact .inr (.inr (.inr (e4.mpr h)))
theorem tw_map : ∀ (l : List Int), InB l → (l.map bt).takeWhile alnum = (l.takeWhile inRun).map bt
  | [], _ => rfl
  | c :: r, h => by
    obtain ⟨hc, hr⟩ := h.cons
    simp only [List.map_cons, List.takeWhile_cons, bt_alnum hc]
    split
    · rw [List.map_cons, tw_map r hr]
    · rfl
theorem dw_map : ∀ (l : List Int), InB l → (l.map bt).dropWhile alnum = (l.dropWhile inRun).map bt
  | [], _ => rfl
  | c :: r, h => by
    obtain ⟨hc, hr⟩ := h.cons
    simp only [List.map_cons, List.dropWhile_cons, bt_alnum hc]
    split
    · rw [dw_map r hr]
    · rw [List.map_cons]
theorem take_tw (p : Int → Bool) : ∀ l : List Int, l.take (l.takeWhile p).length = l.takeWhile p
  | [] => rfl
  | c :: r => by
    rw [List.takeWhile_cons]
    split
    · simp only [List.length_cons, List.take_succ_cons, take_tw p r]
    · rfl
theorem drop_tw (p : Int → Bool) : ∀ l : List Int, l.drop (l.takeWhile p).length = l.dropWhile p
  | [] => rfl
  | c :: r => by
    rw [List.takeWhile_cons, List.dropWhile_cons]
    split
    · simp only [List.length_cons, List.drop_succ_cons, drop_tw p r]
    · rfl
/-- a token of the program as one of the specification's -/
def et : Sy → Int → ETok
  | .num, _ => .num
  | .bool, _ => .bool
  | .list, _ => .list
  | .pair, _ => .pair
  | .row, z => .row z.toNat
  | .ty, z => .ty z.toNat
  | .to, _ => .to
  | .op, _ => .openP
  | .cp, _ => .closeP
  | .ob, _ => .openB
  | .cb, _ => .closeB
  | .cm, _ => .comma
  | _, _ => .bad
def etk (x : Tk) : ET := (x.2.2, et x.1 x.2.1)
theorem map_bt_inj : ∀ {l m : List Int}, InB l → InB m → l.map bt = m.map bt → l = m
  | [], [], _, _, _ => rfl
  | [], _ :: _, _, _, h => by simp at h
  | _ :: _, [], _, _, h => by simp at h
  | a :: l, b :: m, h1, h2, h => by
    obtain ⟨ha, hl⟩ := h1.cons
    obtain ⟨hb, hm⟩ := h2.cons
    simp only [List.map_cons, List.cons.injEq] at h
    have e : a = b := by
      have e1 := congrArg UInt8.toNat h.1
      rw [bt_nat ha, bt_nat hb] at e1
      omega
    rw [e, map_bt_inj hl hm h.2]
theorem eq_sym {l : List Int} (h : InB l) (m : List Int) (hm : InB m) (b : Bytes) (hb : m.map bt = b) : l.map bt = b ↔ l = m := by
  subst hb
  exact ⟨map_bt_inj h hm, fun e => by rw [e]⟩
theorem rounds_gen : ∀ (d : List Int) (a : Nat), InB d → d.all isDig = true → d.foldl (fun a b => a * 10 + b - 48) (a : Int) = (((d.map bt).foldl (fun (n : Nat) (c : UInt8) => 10 * n + (c.toNat - 48)) a : Nat) : Int)
  | [], a, _, _ => rfl
  | c :: r, a, h, hd => by
    obtain ⟨hc, hr⟩ := h.cons
    simp only [List.all_cons, Bool.and_eq_true] at hd
    have hc' : 48 ≤ c ∧ c ≤ 57 := by have := hd.1; simp only [isDig, Bool.and_eq_true, decide_eq_true_eq] at this; exact this
    simp only [List.foldl_cons, List.map_cons]
    rw [bt_nat hc, ← rounds_gen r (10 * a + (c.toNat - 48)) hr hd.2]
    congr 1
    omega
theorem rounds_eq {d : List Int} (h : InB d) (hd : d.all isDig = true) : rounds d = (number (d.map bt) : Int) := rounds_gen d 0 h hd
theorem all_dig : ∀ {d : List Int}, InB d → (d.map bt).all isDigit = d.all isDig
  | [], _ => rfl
  | c :: r, h => by
    obtain ⟨hc, hr⟩ := h.cons
    simp only [List.map_cons, List.all_cons, bt_dig hc, all_dig hr]
theorem varNo_eq {d : List Int} (h : InB d) (n : Nat) : varNo n (d.map bt) = if tailOk d = true then some (n + 26 * (rounds d).toNat) else none := by
  unfold varNo tailOk
  match d, h with
  | [], _ => rfl
  | c :: r, h =>
    rw [if_neg (by simp), all_dig h, List.length_map]
    have e48 : (List.map bt (c :: r)).head? ≠ some 48 ↔ c ≠ 48 := by
      simp only [List.map_cons, List.head?_cons, ne_eq, Option.some.injEq]
      rw [show (48 : UInt8) = UInt8.ofNat 48 from rfl, bt_eq h.cons.1 48 (by decide)]
      rfl
    by_cases hd : (c :: r).all isDig = true
    · rw [rounds_eq h hd]
      by_cases hl : (c :: r).length ≤ 3
      · by_cases h48 : c = 48
        · rw [if_neg (by intro q; exact e48.mp q.2.2 h48), if_neg (by simp [h48])]
        · rw [if_pos ⟨hd, hl, e48.mpr h48⟩, if_pos (by simp only [hd, hl, List.headD_cons, ne_eq, h48, not_false_eq_true, decide_true, Bool.or_true, Bool.and_self])]
          rfl
      · rw [if_neg (fun q => hl q.2.1), if_neg (by simp only [hl, decide_false, Bool.false_and, Bool.false_eq_true, not_false_eq_true])]
    · rw [if_neg (fun q => hd q.1), if_neg (by simp only [Bool.not_eq_true] at hd; simp [hd])]
theorem run_kind {l : List Int} (hB : InB l) (hR : ∀ z ∈ l, inRun z = true) (hne : l ≠ []) : et (kindOf l) (numOf (kindOf l) l) = eRun (l.map bt) := by
  have e1 := eq_sym hB [110, 117, 109] (by intro z hz; simp at hz; omega) (ascii "num") (by decide)
  have e2 := eq_sym hB [98, 111, 111, 108] (by intro z hz; simp at hz; omega) (ascii "bool") (by decide)
  have e3 := eq_sym hB [108, 105, 115, 116] (by intro z hz; simp at hz; omega) (ascii "list") (by decide)
  have e4 := eq_sym hB [112, 97, 105, 114] (by intro z hz; simp at hz; omega) (ascii "pair") (by decide)
  have no : ∀ m : List Int, (m.headD 0 = 40 ∨ m.headD 0 = 41 ∨ m.headD 0 = 91 ∨ m.headD 0 = 93 ∨ m.headD 0 = 44 ∨ m.headD 0 = 45) → l ≠ m := fun m hm e => by
    subst e
    match l, hne with
    | c :: r, _ =>
      have := hR c (by simp)
      simp only [List.headD_cons] at hm
      simp only [inRun, isLet, isCap, isSmall, isDig, Bool.or_eq_true, Bool.and_eq_true, decide_eq_true_eq] at this
      omega
  have n1 := no [40] (by simp)
  have n2 := no [41] (by simp)
  have n3 := no [91] (by simp)
  have n4 := no [93] (by simp)
  have n5 := no [44] (by simp)
  have n6 := no [45, 45] (by simp)
  unfold eRun kindOf fixed
  simp only [List.find?_cons, symBytes, n1, n2, n3, n4, n5, n6, decide_false, e1, e2, e3, e4]
  by_cases h1 : l = [110, 117, 109]
  · simp only [h1, decide_true, if_true]; rfl
  by_cases h2 : l = [98, 111, 111, 108]
  · simp only [h2, decide_true, if_true]; rfl
  by_cases h3 : l = [108, 105, 115, 116]
  · simp only [h3, decide_true, if_true]; rfl
  by_cases h4 : l = [112, 97, 105, 114]
  · simp only [h4, decide_true, if_true]; rfl
  simp only [h1, h2, h3, h4, decide_false, if_false, List.find?_nil]
  match l, hne with
  | c :: d, _ =>
    obtain ⟨hc, hd⟩ := hB.cons
    simp only [List.map_cons, bt_nat hc, varNo_eq hd, isVar_cons, List.headD_cons]
    rcases Bool.eq_false_or_eq_true (tailOk d) with hv | hv
    · simp only [hv]
      have hdig : d.all isDig = true := by simp only [tailOk, Bool.and_eq_true] at hv; exact hv.2.1
      have hr := rounds_eq hd hdig
      by_cases hcap : 65 ≤ c ∧ c ≤ 90
      · have c1 : isCap c = true := by simp only [isCap, Bool.and_eq_true, decide_eq_true_eq]; exact hcap
        have c2 : isLet c = true := by simp only [isLet, c1, Bool.true_or]
        rw [if_pos (show 65 ≤ c.toNat ∧ c.toNat ≤ 90 by omega)]
        simp only [c1, c2, Bool.and_self, if_true, numOf, first, true_or, List.tail_cons, List.headD_cons, et]
        congr 1
        omega
      · have c1 : isCap c = false := by
          rw [← Bool.not_eq_true]; intro q; simp only [isCap, Bool.and_eq_true, decide_eq_true_eq] at q; exact hcap q
        rw [if_neg (show ¬ (65 ≤ c.toNat ∧ c.toNat ≤ 90) by omega)]
        by_cases hsm : 97 ≤ c ∧ c ≤ 122
        · have c2 : isSmall c = true := by simp only [isSmall, Bool.and_eq_true, decide_eq_true_eq]; exact hsm
          have c3 : isLet c = true := by simp only [isLet, c2, Bool.or_true]
          rw [if_pos (show 97 ≤ c.toNat ∧ c.toNat ≤ 122 by omega)]
          simp only [c1, c3, Bool.and_self, if_true, numOf, first, or_true, List.tail_cons, List.headD_cons, et, Bool.false_eq_true, if_false, reduceCtorEq]
          congr 1
          omega
        · have c2 : isSmall c = false := by
            rw [← Bool.not_eq_true]; intro q; simp only [isSmall, Bool.and_eq_true, decide_eq_true_eq] at q; exact hsm q
          have c3 : isLet c = false := by simp only [isLet, c1, c2, Bool.or_self]
          rw [if_neg (show ¬ (97 ≤ c.toNat ∧ c.toNat ≤ 122) by omega)]
          simp only [c3, Bool.false_and, Bool.false_eq_true, if_false]
          rfl
    · simp only [hv, Bool.and_false, Bool.false_eq_true, if_false]
      split
      · rfl
      · split <;> rfl
theorem toks_spec : ∀ (f a : Nat) (l : List Int), InB l → eTokensIn f a (l.map bt) = (toksF f a l).map etk
  | 0, _, _, _ => rfl
  | _ + 1, _, [], _ => rfl
  | f + 1, a, c :: r, h => by
    obtain ⟨hc, hr⟩ := h.cons
    have e45 : bt c = 45 ↔ c = 45 := bt_eq hc 45 (by decide)
    have hd45 : (r.map bt).head? = some 45 ↔ r.head? = some 45 := by
      match r, hr with
      | [], _ => simp
      | x :: r', hr =>
        simp only [List.map_cons, List.head?_cons, Option.some.injEq]
        exact bt_eq hr.cons.1 45 (by decide)
    have t2 : (c :: r).take 2 = [45, 45] ↔ (c = 45 ∧ r.head? = some 45) := by
      match r with
      | [] => simp
      | x :: r' => simp
    simp only [List.map_cons, eTokensIn, toksF, bt_blank hc, bt_alnum hc]
    by_cases hb : isBlk c = true
    · have hm : c = 32 ∨ c = 9 ∨ c = 10 ∨ c = 13 := by simpa [isBlk, blanks] using hb
      have hn : inRun c = false := by
        rw [← Bool.not_eq_true]; intro q; simp only [inRun, isLet, isCap, isSmall, isDig, Bool.or_eq_true, Bool.and_eq_true, decide_eq_true_eq] at q; omega
      have he : tokEnd (c :: r) = 1 := by
        unfold tokEnd
        rw [if_neg (by rw [t2]; omega), List.takeWhile_cons, hn]
        simp
      rw [if_pos hb, if_pos hb, he, List.nil_append, List.drop_one, List.tail_cons, toks_spec f (a + 1) r hr]
    · rw [if_neg hb, if_neg hb]
      by_cases hR : inRun c = true
      · have h45 : c ≠ 45 := by
          intro q; subst q; exact absurd hR (by decide)
        have he : tokEnd (c :: r) = ((c :: r).takeWhile inRun).length := by
          unfold tokEnd
          rw [if_neg (by rw [t2]; exact fun q => h45 q.1)]
          have : 1 ≤ ((c :: r).takeWhile inRun).length := by rw [List.takeWhile_cons, if_pos hR]; simp
          omega
        rw [if_pos hR, ← List.map_cons, tw_map _ h, dw_map _ h, List.length_map, toks_spec f _ _ (by rw [← drop_tw]; exact h.drop _)]
        rw [List.map_append, List.map_cons, List.map_nil, List.singleton_append]
        congr 1
        · unfold etk tok1
          simp only [he, take_tw]
          have hall : ∀ z ∈ (c :: r).takeWhile inRun, inRun z = true := fun z hz => by
            have := List.all_takeWhile (l := c :: r) (p := inRun)
            rw [List.all_eq_true] at this
            exact this z hz
          rw [run_kind (h.takeWhile _) hall (by rw [List.takeWhile_cons, if_pos hR]; simp)]
        · rw [he, drop_tw]
      · rw [if_neg hR]
        have hR' : inRun c = false := by simpa using hR
        by_cases h2 : c = 45 ∧ r.head? = some 45
        · have he : tokEnd (c :: r) = 2 := by unfold tokEnd; rw [if_pos (t2.mpr h2)]
          rw [if_pos ⟨e45.mpr h2.1, hd45.mpr h2.2⟩, ← List.map_drop, toks_spec f _ _ (hr.drop 1)]
          rw [List.map_append, List.map_cons, List.map_nil, List.singleton_append]
          congr 1
          · unfold etk tok1
            rw [he, t2.mpr h2]
            rfl
          · rw [he]
            rfl
        · have he : tokEnd (c :: r) = 1 := by
            unfold tokEnd
            rw [if_neg (fun q => h2 (t2.mp q)), List.takeWhile_cons, hR']
            simp
          rw [if_neg (fun q => h2 ⟨e45.mp q.1, hd45.mp q.2⟩), toks_spec f _ _ hr]
          rw [List.map_append, List.map_cons, List.map_nil, List.singleton_append]
          congr 1
          · unfold etk tok1
            rw [he]
            simp only [List.take_succ_cons, List.take_zero]
            have q1 : bt c = 40 ↔ c = 40 := bt_eq hc 40 (by decide)
            have q2 : bt c = 41 ↔ c = 41 := bt_eq hc 41 (by decide)
            have q3 : bt c = 91 ↔ c = 91 := bt_eq hc 91 (by decide)
            have q4 : bt c = 93 ↔ c = 93 := bt_eq hc 93 (by decide)
            have q5 : bt c = 44 ↔ c = 44 := bt_eq hc 44 (by decide)
            simp only [q1, q2, q3, q4, q5]
            have hL : isLet c = false := by
              rw [← Bool.not_eq_true]; intro q; exact hR (by simp only [inRun, q, Bool.true_or])
            unfold kindOf fixed
            simp only [List.find?_cons, symBytes, List.cons.injEq, and_true, reduceCtorEq, and_false, decide_false, List.find?_nil, isVar, hL, Bool.false_and, Bool.false_eq_true, if_false]
            congr 1
            by_cases p1 : c = 40
            · simp only [p1, decide_true, if_true]; rfl
            by_cases p2 : c = 41
            · simp only [p2]; rfl
            by_cases p3 : c = 91
            · simp only [p3]; rfl
            by_cases p4 : c = 93
            · simp only [p4]; rfl
            by_cases p5 : c = 44
            · simp only [p5]; rfl
            simp only [p1, p2, p3, p4, p5, decide_false, if_false]
            rfl
          · rw [he]
            rfl
theorem tokens_eq {l : List Int} (h : InB l) : eTokens (l.map bt) = (toks 0 l).map etk := by
  unfold eTokens toks
  rw [List.length_map]
  exact toks_spec _ _ _ h
end Mi

namespace Mi
open Rs
def runT (n : Nat) : List Tk → List Sy → Option Nat
  | [], st => if st = [.items] then none else some n
  | x :: r, st => match step x.1 st with
    | none => some x.2.2
    | some st' => if 40 < cnt st' then some x.2.2 else runT n r st'
def goodK (k : Sy) : Bool := match k with
  | .item => false
  | .items => false
  | _ => true
theorem kd_et : ∀ {k : Sy} (z : Int), goodK k = true → kd (et k z) = k
  | .item, _, h => by simp [goodK] at h
  | .items, _, h => by simp [goodK] at h
  | .num, _, _ => rfl
  | .bool, _, _ => rfl
  | .list, _, _ => rfl
  | .pair, _, _ => rfl
  | .row, _, _ => rfl
  | .ty, _, _ => rfl
  | .to, _, _ => rfl
  | .op, _, _ => rfl
  | .cp, _, _ => rfl
  | .ob, _, _ => rfl
  | .cb, _, _ => rfl
  | .cm, _, _ => rfl
  | .bad, _, _ => rfl
theorem kindOf_good (p : List Int) : goodK (kindOf p) = true := by
  unfold kindOf
  split
  · rename_i k e
    have hm := List.mem_of_find?_eq_some e
    simp [fixed] at hm
    rcases hm with rfl | rfl | rfl | rfl | rfl | rfl | rfl | rfl | rfl | rfl <;> rfl
  · split
    · split <;> rfl
    · rfl
theorem toksF_good : ∀ (f a : Nat) (l : List Int), ∀ x ∈ toksF f a l, goodK x.1 = true
  | 0, _, _, x, h => by simp [toksF] at h
  | _ + 1, _, [], x, h => by simp [toksF] at h
  | f + 1, a, c :: r, x, h => by
    simp only [toksF, List.mem_append] at h
    rcases h with h | h
    · split at h
      · simp at h
      · simp only [List.mem_singleton] at h
        subst h
        exact kindOf_good _
    · exact toksF_good f _ _ x h
theorem toks_good (a : Nat) (l : List Int) : ∀ x ∈ toks a l, goodK x.1 = true := toksF_good _ _ _
theorem runT_eq (n : Nat) : ∀ (l : List Tk) (st : List Sy), (∀ x ∈ l, goodK x.1 = true) → runE n (l.map etk) st = runT n l st
  | [], st, _ => rfl
  | x :: r, st, h => by
    simp only [List.map_cons, etk, runE, runT, kd_et x.2.1 (h x (by simp))]
    cases step x.1 st with
    | none => rfl
    | some st' =>
      simp only []
      split
      · rfl
      · exact runT_eq n r st' fun y hy => h y (by simp [hy])
def start0 : List Sy := [.row, .items, .to, .row, .items]
def fault (l : List Int) : Option Nat := runT l.length (toks 0 l) start0
def refusal (l : List Int) : Option (List Int) := if 1024 < l.length then some [-6] else match fault l with
  | some p => some [-1, 1, (p : Int)]
  | none => none
theorem effect_fault {l : List Int} (h : InB l) : match effectIn (l.map bt) with
    | .error p => fault l = some p
    | .ok _ => fault l = none := by
  have e := effect_run (l.map bt)
  rw [tokens_eq h, List.length_map, runT_eq _ _ _ (toks_good 0 l)] at e
  exact e
theorem text_of {l : List Int} (h : InB l) : text? l = some (l.map bt) := by
  unfold text?
  rw [if_pos]
  · rfl
  · unfold NeutralIO.bytes
    rw [List.all_eq_true]
    intro z hz
    have := h z hz
    simp only [Bool.and_eq_true, decide_eq_true_eq]
    exact this
end Mi

set_option linter.all false
namespace Mi
def runL (l : List Int) (e : Nat) : Nat := ((l.drop e).takeWhile inRun).length
theorem drop_at {α : Type} {l : List α} {e : Nat} {c : α} (h : l[e]? = some c) : l.drop e = c :: l.drop (e + 1) := by
  obtain ⟨h1, h2⟩ := List.getElem?_eq_some_iff.mp h
  rw [List.drop_eq_getElem_cons h1, h2]
theorem runL_in {l : List Int} {e : Nat} {c : Int} (h : l[e]? = some c) (hr : inRun c = true) : runL l e = runL l (e + 1) + 1 := by
  unfold runL
  rw [drop_at h, List.takeWhile_cons, if_pos hr, List.length_cons]
theorem runL_out {l : List Int} {e : Nat} {c : Int} (h : l[e]? = some c) (hr : inRun c = false) : runL l e = 0 := by
  unfold runL
  rw [drop_at h, List.takeWhile_cons, if_neg (by rw [hr]; simp)]
  rfl
theorem runL_end {l : List Int} {e : Nat} (h : l.length ≤ e) : runL l e = 0 := by
  unfold runL
  rw [List.drop_eq_nil_of_le h]
  rfl
theorem tokEnd_run {l : List Int} {j : Nat} (h : (l.drop j).take 2 ≠ [45, 45]) : tokEnd (l.drop j) = max (runL l j) 1 := by
  unfold tokEnd runL
  rw [if_neg h]
theorem tokEnd_to {l : List Int} {j : Nat} (h : (l.drop j).take 2 = [45, 45]) : tokEnd (l.drop j) = 2 := by
  unfold tokEnd
  rw [if_pos h]
theorem tokEnd_le {l : List Int} (h : l ≠ []) : tokEnd l ≤ l.length := by
  unfold tokEnd
  have h1 : 1 ≤ l.length := by
    match l, h with
    | c :: r, _ => simp
  split
  · rename_i e
    have := congrArg List.length e
    rw [List.length_take] at this
    simp only [List.length_cons, List.length_nil] at this
    omega
  · have := (List.takeWhile_sublist inRun (l := l)).length_le
    omega
/-- the tokens so far, and those of the rest -/
theorem toks_step {l : List Int} {j : Nat} {c : Int} (h : l[j]? = some c) : toks j (l.drop j) = (if isBlk c = true then [] else [tok1 j (l.drop j)]) ++ toks (j + tokEnd (l.drop j)) (l.drop (j + tokEnd (l.drop j))) := by
  have e := drop_at h
  have q := toks_cons j c (l.drop (j + 1))
  rw [← e, List.drop_drop] at q
  exact q
theorem toks_len : ∀ (f a : Nat) (l : List Int), (toksF f a l).length ≤ l.length
  | 0, _, _ => by simp [toksF]
  | _ + 1, _, [] => by simp [toksF]
  | f + 1, a, c :: r => by
    have hp := tokEnd_pos (c :: r)
    have ih := toks_len f (a + tokEnd (c :: r)) ((c :: r).drop (tokEnd (c :: r)))
    simp only [toksF, List.length_append]
    rw [List.length_drop] at ih
    simp only [List.length_cons] at ih ⊢
    split
    · simp only [List.length_nil]; omega
    · simp only [List.length_cons, List.length_nil]; omega
theorem cnt_count : ∀ l : List Sy, l.count .cp + l.count .cb = cnt l
  | [] => rfl
  | a :: r => by
    have ih := cnt_count r
    simp only [List.count_cons, cnt]
    cases a <;> simp only [wt, beq_self_eq_true, if_true, show (Sy.op == Sy.cp) = false from rfl] <;> simp (decide := true) only [if_true, if_false] <;> omega
def Bot (st : List Sy) : Prop := ∃ q, st = q ++ [.items]
theorem Bot.ne {st : List Sy} (h : Bot st) : st ≠ [] := by
  obtain ⟨q, rfl⟩ := h
  simp
theorem Bot.cons {a : Sy} {r : List Sy} (h : Bot (a :: r)) : (a = .items ∧ r = []) ∨ Bot r := by
  obtain ⟨q, h⟩ := h
  match q, h with
  | [], h => simp at h; exact .inl h
  | b :: q, h =>
    simp only [List.cons_append, List.cons.injEq] at h
    exact .inr ⟨q, h.2⟩
theorem Bot.app {r : List Sy} (p : List Sy) (h : Bot r) : Bot (p ++ r) := by
  obtain ⟨q, rfl⟩ := h
  exact ⟨p ++ q, by simp⟩
theorem starts_len (k : Sy) {p : List Sy} (h : starts k = some p) : p.length ≤ 6 := by
  cases k <;> simp [starts] at h <;> subst h <;> simp
theorem step_bot {k : Sy} {st st' : List Sy} (hk : goodK k = true) (hb : Bot st) (h : step k st = some st') : Bot st' ∧ st'.length ≤ st.length + 6 := by
  match st, h, hb with
  | [], h, _ => simp [step] at h
  | w :: r, h, hb =>
    cases w with
    | items =>
      simp only [step] at h
      cases e : starts k with
      | some p =>
        rw [e] at h
        simp only [Option.some.injEq] at h
        subst h
        have := starts_len k e
        exact ⟨hb.app p, by simp; omega⟩
      | none =>
        rw [e] at h
        match r, h, hb with
        | [], h, _ => simp at h
        | v :: q, h, hb =>
          simp only [] at h
          split at h
          · rename_i ev
            simp only [Option.some.injEq] at h
            subst h
            rcases hb.cons with ⟨_, z⟩ | hb
            · simp at z
            · rcases hb.cons with ⟨z, _⟩ | hb
              · rw [z] at ev
                subst ev
                simp [goodK] at hk
              · exact ⟨hb, by simp; omega⟩
          · cases h
    | item =>
      simp only [step] at h
      cases e : starts k with
      | some p =>
        rw [e] at h
        simp only [Option.some.injEq] at h
        subst h
        have := starts_len k e
        rcases hb.cons with ⟨z, _⟩ | hb
        · cases z
        · exact ⟨hb.app p, by simp; omega⟩
      | none => rw [e] at h; cases h
    | _ =>
      all_goals
        simp only [step] at h
        split at h
        · simp only [Option.some.injEq] at h
          subst h
          rcases hb.cons with ⟨z, _⟩ | hb
          · cases z
          · exact ⟨hb, by simp only [List.length_cons]; omega⟩
        · cases h
theorem start_bot : Bot start0 := ⟨[.row, .items, .to, .row], rfl⟩
end Mi
namespace Mi
/-- no two rows' items stand right above one another -/
def NoII : List Sy → Prop
  | a :: b :: r => ¬ (a = .items ∧ b = .items) ∧ NoII (b :: r)
  | _ => True
theorem NoII.tail {a : Sy} {r : List Sy} (h : NoII (a :: r)) : NoII r := by
  match r, h with
  | [], _ => trivial
  | b :: r, h => exact h.2
theorem NoII.app : ∀ {p : List Sy} {x : Sy} {r : List Sy}, x ≠ .items → NoII (p ++ [x]) → NoII r → NoII (p ++ x :: r)
  | [], x, [], hx, _, _ => trivial
  | [], x, b :: r, hx, _, hr => ⟨fun q => hx q.1, hr⟩
  | [a], x, r, hx, hp, hr => ⟨hp.1, NoII.app (p := []) hx trivial hr⟩
  | a :: b :: p, x, r, hx, hp, hr => ⟨hp.1, NoII.app (p := b :: p) hx hp.2 hr⟩
theorem starts_ii {k : Sy} {p r : List Sy} (h : starts k = some p) (hr : NoII r) : NoII (p ++ r) := by
  have c : ∀ (q : List Sy) (x : Sy), x ≠ .items → NoII (q ++ [x]) → NoII ((q ++ [x]) ++ r) := fun q x hx hq => by
    rw [List.append_assoc]
    exact NoII.app hx hq hr
  cases k <;> simp only [starts, Option.some.injEq, reduceCtorEq] at h <;> subst h
  · exact c [.row, .items, .to, .row, .items] .cb (by simp) (by simp [NoII])
  · exact hr
  · exact hr
  · exact c [.op, .item] .cp (by simp) (by simp [NoII])
  · exact c [.op, .item, .cm, .item] .cp (by simp) (by simp [NoII])
  · exact hr
theorem step_ii {k : Sy} {st st' : List Sy} (hb : NoII st) (h : step k st = some st') : NoII st' := by
  match st, h, hb with
  | [], h, _ => simp [step] at h
  | w :: r, h, hb =>
    cases w with
    | items =>
      simp only [step] at h
      cases e : starts k with
      | some p =>
        rw [e] at h
        simp only [Option.some.injEq] at h
        subst h
        exact starts_ii e hb
      | none =>
        rw [e] at h
        match r, h, hb with
        | [], h, _ => simp at h
        | v :: q, h, hb =>
          simp only [] at h
          split at h
          · simp only [Option.some.injEq] at h
            subst h
            exact hb.tail.tail
          · cases h
    | item =>
      simp only [step] at h
      cases e : starts k with
      | some p =>
        rw [e] at h
        simp only [Option.some.injEq] at h
        subst h
        exact starts_ii e hb.tail
      | none => rw [e] at h; cases h
    | _ =>
      all_goals
        simp only [step] at h
        split at h
        · simp only [Option.some.injEq] at h
          subst h
          exact hb.tail
        · cases h
theorem start_ii : NoII start0 := by simp [NoII, start0]
theorem step_other {k w : Sy} {r : List Sy} (h1 : w ≠ .items) (h2 : w ≠ .item) : step k (w :: r) = if w = k then some r else none := by
  cases w <;> first | exact absurd rfl h1 | exact absurd rfl h2 | rfl
end Mi

set_option linter.all false
namespace Mi
open Rs
mutual
def tTy : Ty → List ETok
  | .num => [.num]
  | .bool => [.bool]
  | .list t => .list :: .openP :: (tTy t ++ [.closeP])
  | .pair a b => .pair :: .openP :: (tTy a ++ (.comma :: (tTy b ++ [.closeP])))
  | .fn r s => .openB :: (tRow r ++ (.to :: (tRow s ++ [.closeB])))
  | .var n => [.ty n]
def tRow : Row → List ETok
  | .var n => [.row n]
  | .snoc r t => tRow r ++ tTy t
end
def tEff (e : Effect) : List ETok := tRow e.before ++ (.to :: tRow e.behind)
def sn (l : List ET) : List ETok := l.map (·.2)
theorem sn_cons (x : ET) (l : List ET) : sn (x :: l) = x.2 :: sn l := rfl
theorem thenE_inv {α β : Type} {x : Except Nat α} {f : α → Except Nat β} {z : β} (h : thenE x f = .ok z) : ∃ y, x = .ok y ∧ f y = .ok z := by
  cases x with
  | error e => simp [thenE] at h
  | ok y => exact ⟨y, rfl, h⟩
theorem want_inv {n : Nat} {ok : List ET → Bool} {l r : List ET} (h : want n ok l = .ok r) : ok l = true ∧ l.drop 1 = r := by
  unfold want at h
  by_cases e : ok l = true
  · rw [if_pos e] at h
    exact ⟨e, by injection h⟩
  · rw [if_neg e] at h
    unfold eFault at h
    cases h
theorem want_tok {n : Nat} {ok : List ET → Bool} {w : ETok} (hok : ∀ l, ok l = true → ∃ p r, l = (p, w) :: r) {l r : List ET} (h : want n ok l = .ok r) : sn l = w :: sn r := by
  obtain ⟨h1, h2⟩ := want_inv h
  obtain ⟨p, r', rfl⟩ := hok l h1
  simp only [List.drop_succ_cons, List.drop_zero] at h2
  subst h2
  rfl
theorem openP_is (l : List ET) (h : isOpenP l = true) : ∃ p r, l = (p, .openP) :: r := by
  match l, h with
  | [], h => simp [isOpenP] at h
  | (p, t) :: r, h => cases t <;> first | exact ⟨p, r, rfl⟩ | simp [isOpenP] at h
theorem closeP_is (l : List ET) (h : isCloseP l = true) : ∃ p r, l = (p, .closeP) :: r := by
  match l, h with
  | [], h => simp [isCloseP] at h
  | (p, t) :: r, h => cases t <;> first | exact ⟨p, r, rfl⟩ | simp [isCloseP] at h
theorem comma_is (l : List ET) (h : isComma l = true) : ∃ p r, l = (p, .comma) :: r := by
  match l, h with
  | [], h => simp [isComma] at h
  | (p, t) :: r, h => cases t <;> first | exact ⟨p, r, rfl⟩ | simp [isComma] at h
theorem to_is (l : List ET) (h : isTo l = true) : ∃ p r, l = (p, .to) :: r := by
  match l, h with
  | [], h => simp [isTo] at h
  | (p, t) :: r, h => cases t <;> first | exact ⟨p, r, rfl⟩ | simp [isTo] at h
theorem closeB_is (l : List ET) (h : isCloseB l = true) : ∃ p r, l = (p, .closeB) :: r := by
  match l, h with
  | [], h => simp [isCloseB] at h
  | (p, t) :: r, h => cases t <;> first | exact ⟨p, r, rfl⟩ | simp [isCloseB] at h
theorem eFault_ne {α : Type} {n : Nat} {l : List ET} {x : α} : (eFault n l : Except Nat α) ≠ .ok x := by
  unfold eFault
  intro h
  cases h
theorem parse_toks (n : Nat) : ∀ f : Nat, (∀ d l x, tyIn n f d l = .ok x → sn l = tTy x.1 ++ sn x.2) ∧ (∀ d l x, rowIn n f d l = .ok x → sn l = tRow x.1 ++ sn x.2) ∧ (∀ d a l x, moreIn n f d a l = .ok x → tRow a ++ sn l = tRow x.1 ++ sn x.2)
  | 0 => ⟨fun d l x h => absurd h eFault_ne, fun d l x h => absurd h eFault_ne, fun d a l x h => absurd h eFault_ne⟩
  | f + 1 => by
    obtain ⟨hT, hR, hM⟩ := parse_toks n f
    refine ⟨fun d l x h => ?_, fun d l x h => ?_, fun d a l x h => ?_⟩
    · match l with
      | [] => simp [tyIn, rowIn, moreIn, eFault] at h
      | (p, t) :: r =>
        cases t with
        | num => simp only [tyIn, Except.ok.injEq] at h; subst h; rfl
        | bool => simp only [tyIn, Except.ok.injEq] at h; subst h; rfl
        | ty k => simp only [tyIn, Except.ok.injEq] at h; subst h; rfl
        | row k => simp [tyIn, rowIn, moreIn, eFault] at h
        | to => simp [tyIn, rowIn, moreIn, eFault] at h
        | openP => simp [tyIn, rowIn, moreIn, eFault] at h
        | closeP => simp [tyIn, rowIn, moreIn, eFault] at h
        | closeB => simp [tyIn, rowIn, moreIn, eFault] at h
        | comma => simp [tyIn, rowIn, moreIn, eFault] at h
        | bad => simp [tyIn, rowIn, moreIn, eFault] at h
        | list =>
          simp only [tyIn] at h
          split at h
          · simp [tyIn, rowIn, moreIn, eFault] at h
          · obtain ⟨r1, e1, h⟩ := thenE_inv h
            obtain ⟨y, e2, h⟩ := thenE_inv h
            obtain ⟨r2, e3, h⟩ := thenE_inv h
            simp only [Except.ok.injEq] at h
            subst h
            rw [sn_cons, want_tok openP_is e1, hT _ _ _ e2, want_tok closeP_is e3]
            simp [tTy]
        | pair =>
          simp only [tyIn] at h
          split at h
          · simp [tyIn, rowIn, moreIn, eFault] at h
          · obtain ⟨r1, e1, h⟩ := thenE_inv h
            obtain ⟨y, e2, h⟩ := thenE_inv h
            obtain ⟨r2, e3, h⟩ := thenE_inv h
            obtain ⟨z, e4, h⟩ := thenE_inv h
            obtain ⟨r3, e5, h⟩ := thenE_inv h
            simp only [Except.ok.injEq] at h
            subst h
            rw [sn_cons, want_tok openP_is e1, hT _ _ _ e2, want_tok comma_is e3, hT _ _ _ e4, want_tok closeP_is e5]
            simp [tTy]
        | openB =>
          simp only [tyIn] at h
          split at h
          · simp [tyIn, rowIn, moreIn, eFault] at h
          · obtain ⟨y, e1, h⟩ := thenE_inv h
            obtain ⟨r1, e2, h⟩ := thenE_inv h
            obtain ⟨z, e3, h⟩ := thenE_inv h
            obtain ⟨r2, e4, h⟩ := thenE_inv h
            simp only [Except.ok.injEq] at h
            subst h
            rw [sn_cons, hR _ _ _ e1, want_tok to_is e2, hR _ _ _ e3, want_tok closeB_is e4]
            simp [tTy]
    · match l with
      | [] => simp [tyIn, rowIn, moreIn, eFault] at h
      | (p, t) :: r =>
        cases t with
        | row k =>
          simp only [rowIn] at h
          have e := hM _ _ _ _ h
          rw [sn_cons, ← e]
          rfl
        | num => simp [tyIn, rowIn, moreIn, eFault] at h
        | bool => simp [tyIn, rowIn, moreIn, eFault] at h
        | list => simp [tyIn, rowIn, moreIn, eFault] at h
        | pair => simp [tyIn, rowIn, moreIn, eFault] at h
        | ty k => simp [tyIn, rowIn, moreIn, eFault] at h
        | to => simp [tyIn, rowIn, moreIn, eFault] at h
        | openP => simp [tyIn, rowIn, moreIn, eFault] at h
        | closeP => simp [tyIn, rowIn, moreIn, eFault] at h
        | openB => simp [tyIn, rowIn, moreIn, eFault] at h
        | closeB => simp [tyIn, rowIn, moreIn, eFault] at h
        | comma => simp [tyIn, rowIn, moreIn, eFault] at h
        | bad => simp [tyIn, rowIn, moreIn, eFault] at h
    · match l with
      | [] => simp only [moreIn, Except.ok.injEq] at h; subst h; rfl
      | (p, t) :: r =>
        have go : thenE (tyIn n f d ((p, t) :: r)) (fun (y : Ty × List ET) => moreIn n f d (.snoc a y.1) y.2) = .ok x → tRow a ++ sn ((p, t) :: r) = tRow x.1 ++ sn x.2 := fun q => by
          obtain ⟨y, e1, q⟩ := thenE_inv q
          rw [hT _ _ _ e1, ← hM _ _ _ _ q]
          simp [tRow]
        cases t with
        | to => simp only [moreIn, Except.ok.injEq] at h; subst h; rfl
        | closeB =>
          simp only [moreIn] at h
          split at h
          · simp [tyIn, rowIn, moreIn, eFault] at h
          · simp only [Except.ok.injEq] at h; subst h; rfl
        | num => exact go h
        | bool => exact go h
        | list => exact go h
        | pair => exact go h
        | ty k => exact go h
        | row k => exact go h
        | openP => exact go h
        | closeP => exact go h
        | openB => exact go h
        | comma => exact go h
        | bad => exact go h
theorem effect_toks {t : Bytes} {e : Effect} (h : effectIn t = .ok e) : sn (eTokens t) = tEff e := by
  unfold effectIn at h
  simp only [] at h
  obtain ⟨_, hR, _⟩ := parse_toks t.length (2 * (eTokens t).length + 4)
  cases q1 : rowIn t.length (2 * (eTokens t).length + 4) 0 (eTokens t) with
  | error p => rw [q1] at h; cases h
  | ok x =>
    obtain ⟨a, r⟩ := x
    rw [q1] at h
    simp only [] at h
    cases q2 : want t.length isTo r with
    | error p => rw [q2] at h; cases h
    | ok r1 =>
      rw [q2] at h
      simp only [] at h
      cases q3 : rowIn t.length (2 * (eTokens t).length + 4) 0 r1 with
      | error p => rw [q3] at h; cases h
      | ok y =>
        obtain ⟨b, r2⟩ := y
        rw [q3] at h
        simp only [] at h
        match r2, h, q3 with
        | [], h, q3 =>
          simp only [Except.ok.injEq] at h
          subst h
          rw [hR _ _ _ q1, want_tok to_is q2, hR _ _ _ q3]
          simp [tEff, sn]
        | x :: r3, h, q3 => cases h
def wTok : ETok → Nat
  | .num => 1
  | .bool => 1
  | .list => 1
  | .pair => 1
  | .row _ => 1
  | .ty _ => 1
  | .openB => 1
  | _ => 0
def wToks (l : List ETok) : Nat := (l.map wTok).sum
theorem wToks_append (a b : List ETok) : wToks (a ++ b) = wToks a + wToks b := by simp [wToks]
theorem wToks_cons (a : ETok) (b : List ETok) : wToks (a :: b) = wTok a + wToks b := by simp [wToks]
mutual
theorem w_ty : ∀ t : Ty, wToks (tTy t) = t.weight
  | .num => rfl
  | .bool => rfl
  | .list t => by simp only [tTy, Ty.weight, wToks_cons, wToks_append, w_ty t, wTok]; simp [wToks]
  | .pair a b => by simp only [tTy, Ty.weight, wToks_cons, wToks_append, w_ty a, w_ty b, wTok]; simp [wToks]; omega
  | .fn r s => by simp only [tTy, Ty.weight, wToks_cons, wToks_append, w_row r, w_row s, wTok]; simp [wToks, wTok]; omega
  | .var _ => rfl
theorem w_row : ∀ t : Row, wToks (tRow t) = t.weight
  | .var _ => rfl
  | .snoc r t => by simp only [tRow, Row.weight, wToks_append, w_ty t, w_row r]
end
theorem w_eff (e : Effect) : wToks (tEff e) = e.weight := by
  simp only [tEff, Effect.weight, wToks_append, wToks_cons, w_row, wTok]; omega
end Mi

set_option linter.all false
namespace Mi
open Rs
structure FlatS (s : Store) : Prop where
  size : s.put.size = s.nodes.size
  put : ∀ i, s.put.getD i i = i
theorem FlatS.root {s : Store} (h : FlatS s) (i : Nat) : s.root i = i := by
  unfold Store.root
  simp only [Store.rootIn, h.put i, if_true]
theorem FlatS.at_ {s : Store} (h : FlatS s) {i : Nat} {x : Nd} (e : s.nodes[i]? = some x) : s.at_ i = x := by
  unfold Store.at_
  rw [h.root, Array.getD_eq_getD_getElem?, e]
  rfl
def Ext (s s' : Store) : Prop := ∀ (i : Nat) (x : Nd), s.nodes[i]? = some x → s'.nodes[i]? = some x
theorem Ext.refl (s : Store) : Ext s s := fun _ _ h => h
theorem Ext.trans {a b c : Store} (h : Ext a b) (k : Ext b c) : Ext a c := fun i x e => k i x (h i x e)
mutual
def DT (s : Store) (M : Names) : Ty → Nat → Prop
  | .num, i => s.nodes[i]? = some .num
  | .bool, i => s.nodes[i]? = some .bool
  | .list t, i => ∃ a, a < i ∧ s.nodes[i]? = some (.list a) ∧ DT s M t a
  | .pair a b, i => ∃ x y, x < i ∧ y < i ∧ s.nodes[i]? = some (.pair x y) ∧ DT s M a x ∧ DT s M b y
  | .fn a b, i => ∃ x y, x < i ∧ y < i ∧ s.nodes[i]? = some (.fn x y) ∧ DR s M a x ∧ DR s M b y
  | .var n, i => s.nodes[i]? = some .var ∧ ((false, n), i) ∈ M
def DR (s : Store) (M : Names) : Row → Nat → Prop
  | .var n, i => s.nodes[i]? = some .var ∧ ((true, n), i) ∈ M
  | .snoc a b, i => ∃ x y, x < i ∧ y < i ∧ s.nodes[i]? = some (.snoc x y) ∧ DR s M a x ∧ DT s M b y
end
mutual
theorem DT.mono {s s' : Store} {M M' : Names} (he : Ext s s') (hm : ∀ x ∈ M, x ∈ M') : ∀ (t : Ty) (i : Nat), DT s M t i → DT s' M' t i
  | .num, i, h => he _ _ h
  | .bool, i, h => he _ _ h
  | .list t, i, ⟨a, h1, h2, h3⟩ => ⟨a, h1, he _ _ h2, DT.mono he hm t a h3⟩
  | .pair a b, i, ⟨x, y, h1, h2, h3, h4, h5⟩ => ⟨x, y, h1, h2, he _ _ h3, DT.mono he hm a x h4, DT.mono he hm b y h5⟩
  | .fn a b, i, ⟨x, y, h1, h2, h3, h4, h5⟩ => ⟨x, y, h1, h2, he _ _ h3, DR.mono he hm a x h4, DR.mono he hm b y h5⟩
  | .var n, i, h => ⟨he _ _ h.1, hm _ h.2⟩
theorem DR.mono {s s' : Store} {M M' : Names} (he : Ext s s') (hm : ∀ x ∈ M, x ∈ M') : ∀ (t : Row) (i : Nat), DR s M t i → DR s' M' t i
  | .var n, i, h => ⟨he _ _ h.1, hm _ h.2⟩
  | .snoc a b, i, ⟨x, y, h1, h2, h3, h4, h5⟩ => ⟨x, y, h1, h2, he _ _ h3, DR.mono he hm a x h4, DT.mono he hm b y h5⟩
end
structure NOk (s : Store) (M : Names) : Prop where
  at_ : ∀ k i, (k, i) ∈ M → i < s.nodes.size ∧ s.nodes[i]? = some .var
  key : ∀ k i j, (k, i) ∈ M → (k, j) ∈ M → i = j
  adr : ∀ k k' i, (k, i) ∈ M → (k', i) ∈ M → k = k'
theorem ext_size {s s' : Store} (h : Ext s s') : s.nodes.size ≤ s'.nodes.size := by
  by_cases h0 : s.nodes.size = 0
  · omega
  · have e := h (s.nodes.size - 1) (s.nodes[s.nodes.size - 1]'(by omega)) (by rw [Array.getElem?_eq_getElem])
    rw [Array.getElem?_eq_some_iff] at e
    have := e.1
    omega
theorem NOk.mono {s s' : Store} {M : Names} (h : NOk s M) (e : Ext s s') : NOk s' M :=
  ⟨fun k i m => ⟨Nat.lt_of_lt_of_le (h.at_ k i m).1 (ext_size e), e _ _ (h.at_ k i m).2⟩, h.key, h.adr⟩
mutual
def hT : Ty → Nat
  | .num => 1
  | .bool => 1
  | .list t => hT t + 1
  | .pair a b => max (hT a) (hT b) + 1
  | .fn a b => max (hR a) (hR b) + 1
  | .var _ => 1
def hR : Row → Nat
  | .var _ => 1
  | .snoc a b => max (hR a) (hT b) + 1
end
def AL (M : Names) (b : Bool) : List Nat → List Nat → Prop
  | [], [] => True
  | a :: l, n :: k => ((b, n), a) ∈ M ∧ AL M b l k
  | _, _ => False
theorem AL.len {M : Names} {b : Bool} : ∀ {l k : List Nat}, AL M b l k → l.length = k.length
  | [], [], _ => rfl
  | a :: l, n :: k, h => by simp only [List.length_cons, AL.len h.2]
theorem AL.snoc {M : Names} {b : Bool} {a n : Nat} (h0 : ((b, n), a) ∈ M) : ∀ {l k : List Nat}, AL M b l k → AL M b (l ++ [a]) (k ++ [n])
  | [], [], _ => ⟨h0, trivial⟩
  | x :: l, y :: k, h => ⟨h.1, AL.snoc h0 h.2⟩
end Mi

set_option linter.all false
namespace Mi
open Rs
def isW (k : Sy) : Bool := decide (k = .row) || (starts k).isSome
def weightM (ts : List Tk) : Nat := (ts.filter fun x => isW x.1).length
def okK (k : Sy) : Bool := match k with
  | .item => false
  | .items => false
  | .bad => false
  | _ => true
theorem sn_etk (ts : List Tk) : sn (ts.map etk) = ts.map fun x => et x.1 x.2.1 := by
  simp [sn, etk]
theorem w_et : ∀ {k : Sy} (z : Int), okK k = true → wTok (et k z) = if isW k = true then 1 else 0 := by
  intro k z h
  cases k <;> first | rfl | simp [okK] at h
theorem weight_et : ∀ (ts : List Tk), (∀ x ∈ ts, okK x.1 = true) → wToks (ts.map fun x => et x.1 x.2.1) = weightM ts
  | [], _ => rfl
  | x :: ts, h => by
    rw [List.map_cons, wToks_cons, weight_et ts fun y hy => h y (by simp [hy]), w_et _ (h x (by simp))]
    unfold weightM
    rw [List.filter_cons]
    split <;> simp <;> omega
def gtok : ETok → Bool
  | .bad => false
  | _ => true
mutual
theorem gt_ty : ∀ t : Ty, (tTy t).all gtok = true
  | .num => rfl
  | .bool => rfl
  | .list t => by simp [tTy, gtok, gt_ty t]
  | .pair a b => by simp [tTy, gtok, gt_ty a, gt_ty b]
  | .fn r s => by simp [tTy, gtok, gt_row r, gt_row s]
  | .var _ => rfl
theorem gt_row : ∀ t : Row, (tRow t).all gtok = true
  | .var _ => rfl
  | .snoc r t => by simp [tRow, gt_row r, gt_ty t]
end
theorem numOf_pos {l : List Int} (h : InB l) : 0 ≤ numOf (kindOf l) l := by
  unfold numOf
  split
  · rename_i hk
    have hv : isVar l = true := by
      unfold kindOf at hk
      split at hk
      · rename_i k e
        have hm := List.mem_of_find?_eq_some e
        rcases hk with rfl | rfl <;> simp [fixed] at hm
      · split at hk
        · assumption
        · rcases hk with hk | hk <;> cases hk
    match l, h, hv with
    | c :: d, h, hv =>
      simp only [isVar_cons, Bool.and_eq_true] at hv
      have hdig : d.all isDig = true := by have := hv.2; simp only [tailOk, Bool.and_eq_true] at this; exact this.2.1
      rw [List.tail_cons, rounds_eq h.cons.2 hdig, List.headD_cons]
      have hc : first (kindOf (c :: d)) ≤ c := by
        have hl := hv.1
        unfold kindOf at hk ⊢
        split at hk
        · rename_i k e
          have hm := List.mem_of_find?_eq_some e
          rcases hk with rfl | rfl <;> simp [fixed] at hm
        · rename_i e
          rw [if_pos (by rw [isVar_cons, hv.1, hv.2]; rfl), List.headD_cons]
          simp only [isLet, isCap, isSmall, Bool.or_eq_true, Bool.and_eq_true, decide_eq_true_eq] at hl
          by_cases q : isCap c = true
          · rw [if_pos q]
            simp only [isCap, Bool.and_eq_true, decide_eq_true_eq] at q
            simp only [first, if_true]
            omega
          · rw [if_neg q]
            simp only [isCap, Bool.and_eq_true, decide_eq_true_eq] at q
            simp only [first, reduceCtorEq, if_false]
            omega
      omega
  · exact Int.le_refl 0
theorem toksF_pos : ∀ (f a : Nat) (l : List Int), InB l → ∀ x ∈ toksF f a l, 0 ≤ x.2.1
  | 0, _, _, _, x, h => by simp [toksF] at h
  | _ + 1, _, [], _, x, h => by simp [toksF] at h
  | f + 1, a, c :: r, hB, x, h => by
    simp only [toksF, List.mem_append] at h
    rcases h with h | h
    · split at h
      · simp at h
      · simp only [List.mem_singleton] at h
        subst h
        exact numOf_pos fun z hz => hB z (List.mem_of_mem_take hz)
    · exact toksF_pos f _ _ (hB.drop _) x h
theorem kd_ok {k : Sy} {z : Int} (h : goodK k = true) (hg : gtok (et k z) = true) : okK k = true := by
  cases k <;> first | rfl | (simp [goodK] at h; done) | simp [et, gtok] at hg
end Mi

set_option linter.all false
namespace Mi
open Rs
def faults : Nat → List (List Int) → Option (List Int)
  | _, [] => none
  | i, ns :: r => match fault ns with
    | some p => some [-1, (i : Int), (p : Int)]
    | none => faults (i + 1) r
def refusals (nss : List (List Int)) : Option (List Int) := if (nss.map fun ns => decide (1024 < ns.length)).any id = true then some [-6] else faults 1 nss
theorem refusals_one (ns : List Int) : refusals [ns] = refusal ns := by
  unfold refusals refusal
  by_cases h : 1024 < ns.length
  · simp [h]
  · simp only [List.map_cons, List.map_nil, List.any_cons, List.any_nil, h, decide_false, id, Bool.or_false, Bool.false_eq_true, if_false, faults]
    cases fault ns <;> rfl
theorem eff_of {l : List Int} (h : InB l) (hf : fault l = none) : ∃ x, effectIn (l.map bt) = .ok x ∧ (toks 0 l).map (fun y => et y.1 y.2.1) = tEff x ∧ ∀ y ∈ toks 0 l, okK y.1 = true ∧ 0 ≤ y.2.1 := by
  have e := effect_fault h
  cases q : effectIn (l.map bt) with
  | error p => rw [q] at e; simp only [] at e; rw [e] at hf; cases hf
  | ok x =>
    have ht := effect_toks q
    rw [tokens_eq h, sn_etk] at ht
    have hall : ∀ y ∈ toks 0 l, gtok (et y.1 y.2.1) = true := fun y hy => by
      have h1 : (tEff x).all gtok = true := by simp [tEff, gt_row, gtok]
      rw [← ht, List.all_map, List.all_eq_true] at h1
      exact h1 y hy
    exact ⟨x, rfl, ht, fun y hy => ⟨kd_ok (toks_good 0 l y hy) (hall y hy), toksF_pos _ _ _ h y hy⟩⟩
theorem no_eff {l : List Int} {p : Nat} (h : InB l) (hf : fault l = some p) : effectIn (l.map bt) = .error p := by
  have e := effect_fault h
  cases q : effectIn (l.map bt) with
  | error p' => rw [q] at e; simp only [] at e; rw [e] at hf; cases hf; rfl
  | ok x => rw [q] at e; simp only [] at e; rw [e] at hf; cases hf
def weightL (l : List Int) : List Int := match refusal l with
  | some r => r
  | none => [((weightM (toks 0 l) : Nat) : Int)]
theorem weight_spec {l : List Int} (h : InB l) : PyWqacdo.weight l = weightL l := by
  have e0 : EffectsNeutral.callOf [[2], l] = some (.weight (l.map bt)) := by
    show (text? l).map Effects.Call.weight = _
    rw [text_of h]
    rfl
  unfold PyWqacdo.weight EffectsNeutral.step
  rw [e0]
  simp only [Effects.step, Effects.answerTo, Effects.long, Effects.TEXT, List.length_map, decide_eq_true_eq, weightL, refusal]
  by_cases hl : 1024 < l.length
  · rw [if_pos hl, if_pos hl]
    rfl
  · rw [if_neg hl, if_neg hl]
    unfold Effects.ofText
    cases q : fault l with
    | some p => rw [no_eff h q]; rfl
    | none =>
      obtain ⟨x, e, ht, hk⟩ := eff_of h q
      rw [e]
      have hw : weightM (toks 0 l) = x.weight := by rw [← weight_et _ fun y hy => (hk y hy).1, ht, w_eff]
      rw [hw]
      rfl
end Mi

set_option linter.all false
set_option Elab.async false
set_option maxRecDepth 100000
set_option maxHeartbeats 4000000
namespace Jd
open PySem PySem.Spec PyProof.Rows L2 W1
open PySem.W (Codec)
def top (i : Nat) : Stmt := PySem.Challenge.pw_stackeffects_s03_weight.main.body.getD i (.Pass ⟨0, 0, 0, 0⟩)
def nm : Mi.Sy → Str
  | .op => "("
  | .cp => ")"
  | .ob => "["
  | .cb => "]"
  | .cm => ","
  | .to => "--"
  | .num => "num"
  | .bool => "bool"
  | .list => "list"
  | .pair => "pair"
  | .row => "ROW"
  | .ty => "ITEM"
  | .bad => "BAD"
  | .item => "item"
  | .items => "items"
def un (x : Str) : Mi.Sy := if x = "(" then .op else if x = ")" then .cp else if x = "[" then .ob else if x = "]" then .cb else if x = "," then .cm else if x = "--" then .to else if x = "num" then .num
  else if x = "bool" then .bool else if x = "list" then .list else if x = "pair" then .pair else if x = "ROW" then .row else if x = "ITEM" then .ty else if x = "BAD" then .bad else if x = "item" then .item else .items
theorem un_nm : ∀ k : Mi.Sy, un (nm k) = k := by
  intro k
  cases k <;> decide +kernel
theorem nm_inj {a b : Mi.Sy} (h : nm a = nm b) : a = b := by rw [← un_nm a, ← un_nm b, h]
theorem nm_ok : ∀ k : Mi.Sy, PyData.strOk (nm k) = true := by
  intro k
  cases k <;> decide +kernel
theorem nms_ok : ∀ l : List Mi.Sy, (l.map nm).all PyData.strOk = true
  | [] => rfl
  | k :: l => by rw [List.map_cons, List.all_cons, nm_ok, nms_ok l]; rfl
theorem nms_inj : ∀ {l m : List Mi.Sy}, l.map nm = m.map nm → l = m
  | [], [], _ => rfl
  | [], _ :: _, h => by simp at h
  | _ :: _, [], h => by simp at h
  | a :: l, b :: m, h => by
    simp only [List.map_cons, List.cons.injEq] at h
    rw [nm_inj h.1, nms_inj h.2]
theorem v_nm {a b : Mi.Sy} : V.str (nm a) = V.str (nm b) ↔ a = b := ⟨fun h => nm_inj (V.str.inj h), fun h => by rw [h]⟩
def codes (x : Str) : List Int := x.cps.toList.map fun (c : Nat) => (c : Int)
theorem codes_nm : ∀ k ∈ Mi.fixed, codes (nm k) = Mi.symBytes k := by
  intro k hk
  simp only [Mi.fixed, List.mem_cons, List.not_mem_nil, or_false] at hk
  rcases hk with rfl | rfl | rfl | rfl | rfl | rfl | rfl | rfl | rfl | rfl <;> decide +kernel
theorem codes_at {x : Str} {i c : Nat} (h : x.cps[i]? = some c) : (codes x)[i]? = some (c : Int) := by
  unfold codes
  rw [List.getElem?_map, Array.getElem?_toList, h]
  rfl
theorem codes_len (x : Str) : (codes x).length = x.cps.size := by simp [codes]
theorem len_nm (k : Mi.Sy) : (nm k).cps.size ≤ 5 := by cases k <;> decide +kernel
structure Txt (P : Program) (w : World) (K : PySem.W.Frag) (mg : Str → Option Value) (aB aF aE aS aV : Addr) : Prop where
  g_LONGEST : ∃ t, mg "LONGEST" = some (.int 1024 t)
  g_DEEPEST : ∃ t, mg "DEEPEST" = some (.int 40 t)
  g_LETTERS : ∃ t, mg "LETTERS" = some (.int 26 t)
  g_BLANKS : mg "BLANKS" = some (.ref aB)
  g_FIXED : mg "FIXED" = some (.ref aF)
  g_EFFECT : mg "EFFECT" = some (.ref aE)
  g_ITEM_STARTS : mg "ITEM_STARTS" = some (.ref aS)
  blanks : ∀ H, SqT K H aB (Mi.blanks.map V.int)
  fixed : ∀ H, SqT K H aF (Mi.fixed.map fun k => V.str (nm k))
  effect : ∀ H, SqT K H aE (Mi.start0.reverse.map fun k => V.str (nm k))
  starts : ∃ m : Str → Option Value, DicK P w K aS m ∧ ∀ k, Mi.goodK k = true → match Mi.starts k with
    | none => m (nm k) = none
    | some l => ∃ b, m (nm k) = some (.ref b) ∧ ∀ H, SqT K H b (l.reverse.map fun k => V.str (nm k))
  g_VARIABLES : mg "VARIABLES" = some (.ref aV)
  vars : ∀ H, SqT K H aV [.str "ROW", .str "ITEM"]
  b_any : mg "any" = none
  b_enumerate : mg "enumerate" = none
  b_len : mg "len" = none
  b_max : mg "max" = none
  b_all : mg "all" = none
  b_ord : mg "ord" = none
  b_list : mg "list" = none
abbrev IL (K : PySem.W.Frag) (H : Hp) (a : Addr) (ns : List Int) : Prop := SqL K H a (ns.map V.int)
def spB (f : Int → Bool) : Sp := fun vs H Q _ => ∃ z : Int, vs = [.int z] ∧ Q (.bl (f z)) H
def spBytes : Sp := fun vs H Q _ => ∃ x : Str, vs = [.str x] ∧ x.cps.size ≤ 1000 ∧ ∀ (H' : Hp) (p : Addr), Same H H' → H p = none → H' p = some (.lst ((codes x).map V.int)) → Q (.ref p) H'
def spFirst : Sp := fun vs H Q _ => ∃ k : Mi.Sy, vs = [.str (nm k)] ∧ Q (.int (Mi.first k)) H
def spIsVar (K : PySem.W.Frag) : Sp := fun vs H Q _ => ∃ (a : Addr) (ns : List Int), vs = [.ref a] ∧ IL K H a ns ∧ ns ≠ [] ∧ ns.length ≤ 2000 ∧ ∀ H' : Hp, Same H H' → Q (.bl (Mi.isVar ns)) H'
def spKind (K : PySem.W.Frag) : Sp := fun vs H Q _ => ∃ (a : Addr) (ns : List Int), vs = [.ref a] ∧ IL K H a ns ∧ ns ≠ [] ∧ ns.length ≤ 2000 ∧ ∀ H' : Hp, Same H H' → Q (.str (nm (Mi.kindOf ns))) H'
def spNumber (K : PySem.W.Frag) : Sp := fun vs H Q _ => ∃ (k : Mi.Sy) (a : Addr) (ns : List Int), vs = [.str (nm k), .ref a] ∧ IL K H a ns ∧ ns ≠ [] ∧ ∀ H' : Hp, Same H H' → Q (.int (Mi.numOf k ns)) H'
def spTokEnd (K : PySem.W.Frag) : Sp := fun vs H Q _ => ∃ (a : Addr) (ns : List Int) (j : Nat), vs = [.ref a, .int (j : Int)] ∧ IL K H a ns ∧ j < ns.length ∧ ns.length ≤ 2000 ∧ ∀ H' : Hp, Same H H' → Q (.int ((j + Mi.tokEnd (ns.drop j) : Nat) : Int)) H'
/-- the tokens ts stand in the list at l -/
def TkAt (H : Hp) (a : Addr) (x : Mi.Tk) : Prop := H a = some (.tup [.str (nm x.1), .int x.2.1, .int (x.2.2 : Int)])
def ToksAt (H : Hp) (l : Addr) (ts : List Mi.Tk) : Prop := ∃ as : List Addr, H l = some (.lst (as.map V.ref)) ∧ Paired (TkAt H) as ts
theorem ToksAt.same {H H' : Hp} {l : Addr} {ts : List Mi.Tk} (h : ToksAt H l ts) (s : Same H H') : ToksAt H' l ts := by
  obtain ⟨as, h1, h2⟩ := h
  exact ⟨as, s _ _ h1, Paired.mapP h2 fun a x e => s _ _ e⟩
def spTokens (K : PySem.W.Frag) : Sp := fun vs H Q _ => ∃ (a : Addr) (ns : List Int), vs = [.ref a] ∧ IL K H a ns ∧ ns.length ≤ 2000 ∧ ∀ (H' : Hp) (l : Addr), Same H H' → H l = none → ToksAt H' l (Mi.toks 0 ns) → Q (.ref l) H'
abbrev AwAt (H : Hp) (a : Addr) (st : List Mi.Sy) : Prop := H a = some (.lst (st.reverse.map fun k => V.str (nm k)))
def spAwait : Sp := fun vs H Q _ => ∃ (k : Mi.Sy) (a : Addr) (st : List Mi.Sy), vs = [.str (nm k), .ref a] ∧ Mi.goodK k = true ∧ AwAt H a st ∧ st ≠ [] ∧ st.length ≤ 100000 ∧
  (∀ H' : Hp, Same H H' → Mi.step k st = none → Q .non H') ∧ ∀ (H' : Hp) (p : Addr) (st' : List Mi.Sy), Same H H' → Mi.step k st = some st' → AwAt H' p st' → Q (.ref p) H'
def spDeep : Sp := fun vs H Q _ => ∃ (a : Addr) (st : List Mi.Sy), vs = [.ref a] ∧ AwAt H a st ∧ Q (.bl (decide (40 < Mi.cnt st))) H
def spFault (K : PySem.W.Frag) : Sp := fun vs H Q _ => ∃ (a : Addr) (ns : List Int), vs = [.ref a] ∧ IL K H a ns ∧ ns.length ≤ 1024 ∧ (∀ H' : Hp, Same H H' → Mi.fault ns = none → Q .non H') ∧ ∀ (H' : Hp) (p : Nat), Same H H' → Mi.fault ns = some p → Q (.int (p : Int)) H'
/-- the texts nss stand in the list at a -/
def TextsAt (K : PySem.W.Frag) (H : Hp) (a : Addr) (nss : List (List Int)) : Prop := ∃ as : List Addr, H a = some (.lst (as.map V.ref)) ∧ Paired (fun b ns => IL K H b ns) as nss
def spRefusal (K : PySem.W.Frag) : Sp := fun vs H Q _ => ∃ (a : Addr) (nss : List (List Int)), vs = [.ref a] ∧ TextsAt K H a nss ∧ nss.length ≤ 2 ∧ (∀ H' : Hp, Same H H' → Mi.refusals nss = none → Q .non H') ∧
  ∀ (H' : Hp) (p : Addr) (l : List Int), Same H H' → Mi.refusals nss = some l → H' p = some (.lst (l.map V.int)) → Q (.ref p) H'
section
variable {P : Program} {w : World} {K : PySem.W.Frag} {mg : Str → Option Value} {base : Heap} {aB aF aE aS aV : Addr}
theorem chain_b {Q : VK} {H : Hp} {z lo hi : Int} {f : Int → Bool} (hf : f z = (decide (lo ≤ z) && decide (z ≤ hi))) (k : Q (.bl (f z)) H) :
    if decide (lo ≤ z) = true then ∃ i j, V.int z = .int i ∧ V.int hi = .int j ∧ Q (.bl (decide (i ≤ j))) H else Q (.bl false) H := by
  refine ite2 (fun h => ⟨z, hi, rfl, rfl, ?_⟩) (fun h => ?_)
  · rw [hf, h, Bool.true_and] at k
    exact k
  · have e : decide (lo ≤ z) = false := by simpa using h
    rw [hf, e, Bool.false_and] at k
    exact k
abbrev s_is_capital : Stmt := top 22
theorem sc_is_capital : FnScope ["byte"] ["byte"] (defScope s_is_capital) := ⟨rfl, rfl, rfl, by decide +kernel, rfl, by decide +kernel, by decide +kernel⟩
theorem bi_is_capital (kV doc pm : Value) (an : Option Addr) (cdv ct : Value) (us : List Value) (hl : us.length = (["byte"] : List Str).length) : bindArgs (PySem.W.fnOf "is_capital" "is_capital" (defArgs s_is_capital) (defBody s_is_capital) (defScope s_is_capital) .none kV doc pm an cdv ct) ⟨us, []⟩ = pure ((["byte"] : List Str).zip us) := match us, hl with | [_], _ => rfl
theorem ok_is_capital (F : FnAt K mg "is_capital" s_is_capital) : Own P w K mg base "is_capital" 1 ["byte"] (spB Mi.isCap) := by
  refine Own.of F sc_is_capital bi_is_capital (fun vs H Q E h => ?_) (fun f cdv A outer s H vs Q E hr h => ?_)
  · obtain ⟨z, rfl, _⟩ := h
    rfl
  · obtain ⟨z, rfl, k⟩ := h
    refine ⟨_, (pss_one (ps_ret (pe_chain op_le op_le pe_int (pv 0) pe_int))), ?_⟩
    exact ⟨_, rfl, _, _, rfl, rfl, _, rfl, chain_b (f := Mi.isCap) rfl k⟩
abbrev s_is_digit : Stmt := top 23
theorem sc_is_digit : FnScope ["byte"] ["byte"] (defScope s_is_digit) := ⟨rfl, rfl, rfl, by decide +kernel, rfl, by decide +kernel, by decide +kernel⟩
theorem bi_is_digit (kV doc pm : Value) (an : Option Addr) (cdv ct : Value) (us : List Value) (hl : us.length = (["byte"] : List Str).length) : bindArgs (PySem.W.fnOf "is_digit" "is_digit" (defArgs s_is_digit) (defBody s_is_digit) (defScope s_is_digit) .none kV doc pm an cdv ct) ⟨us, []⟩ = pure ((["byte"] : List Str).zip us) := match us, hl with | [_], _ => rfl
theorem ok_is_digit (F : FnAt K mg "is_digit" s_is_digit) : Own P w K mg base "is_digit" 1 ["byte"] (spB Mi.isDig) := by
  refine Own.of F sc_is_digit bi_is_digit (fun vs H Q E h => ?_) (fun f cdv A outer s H vs Q E hr h => ?_)
  · obtain ⟨z, rfl, _⟩ := h
    rfl
  · obtain ⟨z, rfl, k⟩ := h
    refine ⟨_, (pss_one (ps_ret (pe_chain op_le op_le pe_int (pv 0) pe_int))), ?_⟩
    exact ⟨_, rfl, _, _, rfl, rfl, _, rfl, chain_b (f := Mi.isDig) rfl k⟩
theorem or_b {Q : VK} {H : Hp} {a b c : Bool} {B : Prop} (hc : c = (a || b)) (k : Q (.bl c) H) (hB : Q (.bl b) H → B) : if a = true then Q (.bl true) H else B := by
  subst hc
  refine ite2 (fun h => ?_) (fun h => ?_)
  · rw [h] at k
    exact k
  · have e : a = false := by simpa using h
    rw [e] at k
    exact hB k
abbrev s_is_letter : Stmt := top 21
theorem sc_is_letter : FnScope ["byte"] ["byte"] (defScope s_is_letter) := ⟨rfl, rfl, rfl, by decide +kernel, rfl, by decide +kernel, by decide +kernel⟩
theorem bi_is_letter (kV doc pm : Value) (an : Option Addr) (cdv ct : Value) (us : List Value) (hl : us.length = (["byte"] : List Str).length) : bindArgs (PySem.W.fnOf "is_letter" "is_letter" (defArgs s_is_letter) (defBody s_is_letter) (defScope s_is_letter) .none kV doc pm an cdv ct) ⟨us, []⟩ = pure ((["byte"] : List Str).zip us) := match us, hl with | [_], _ => rfl
theorem ok_is_letter (F : FnAt K mg "is_letter" s_is_letter) (C_is_capital : Own P w K mg base "is_capital" 1 ["byte"] (spB Mi.isCap)) : Own P w K mg base "is_letter" 2 ["byte"] (spB Mi.isLet) := by
  refine Own.of F sc_is_letter bi_is_letter (fun vs H Q E h => ?_) (fun f cdv A outer s H vs Q E hr h => ?_)
  · obtain ⟨z, rfl, _⟩ := h
    rfl
  · obtain ⟨z, rfl, k⟩ := h
    refine ⟨_, (pss_one (ps_ret (pe_or (pe_own C_is_capital (hr.mono (by decide)) (by rfl) (pa_cons (pv 0) pa_nil)) (pe_one (pe_chain op_le op_le pe_int (pv 0) pe_int))))), ?_⟩
    exact ⟨_, rfl, z, rfl, _, rfl, or_b (c := Mi.isLet z) rfl k fun k => ⟨_, rfl, _, _, rfl, rfl, _, rfl, chain_b (f := Mi.isSmall) rfl k⟩⟩
abbrev s_bytes_of : Stmt := top 24
theorem sc_bytes_of : FnScope ["text", "sign"] ["text"] (defScope s_bytes_of) := ⟨rfl, rfl, rfl, by decide +kernel, rfl, by decide +kernel, by decide +kernel⟩
theorem bi_bytes_of (kV doc pm : Value) (an : Option Addr) (cdv ct : Value) (us : List Value) (hl : us.length = (["text"] : List Str).length) : bindArgs (PySem.W.fnOf "bytes_of" "bytes_of" (defArgs s_bytes_of) (defBody s_bytes_of) (defScope s_bytes_of) .none kV doc pm an cdv ct) ⟨us, []⟩ = pure ((["text"] : List Str).zip us) := match us, hl with | [_], _ => rfl
theorem ok_bytes_of (F : FnAt K mg "bytes_of" s_bytes_of) (T : Txt P w K mg aB aF aE aS aV) : Own P w K mg base "bytes_of" 1 ["text"] spBytes := by
  refine Own.of F sc_bytes_of bi_bytes_of (fun vs H Q E h => ?_) (fun f cdv A outer s H vs Q E hr h => ?_)
  · obtain ⟨x, rfl, _⟩ := h
    rfl
  · obtain ⟨x, rfl, hx, k⟩ := h
    refine ⟨_, (pss_one (ps_ret (pe_lc (own := [("sign", 1)]) rfl sc_bytes_of.nd (pi_str (pv 0)) (blkOk_by (by show blkC ["text", "sign"] (defScope s_bytes_of) _ _ = true; decide +kernel)) (fun _ _ _ _ _ => (pg_name (i := 1) sc_bytes_of.nd rfl (Or.inl rfl))) (fun _ _ _ _ _ => pts_nil) (fun _ _ _ _ _ => (pe_callB call_ord (by rfl) T.b_ord bo_ord (pa_cons (pv 1) pa_nil)))))), ?_⟩
    refine ⟨_, rfl, x, rfl, fun D hD => lc_str (fun i H' => Same H H' ∧ H' D = some (.lst (((codes x).take i).map V.int))) ⟨same_new hD, upd_same⟩ ?_ ?_⟩
    · rintro i c H' hc ⟨s1, hD'⟩
      refine ⟨rfl, _, rfl, ⟨#[c]⟩, rfl, rfl, _, hD', ?_, Same.put s1 hD, ?_⟩
      · rw [List.length_map, List.length_take, codes_len]
        exact Nat.lt_of_le_of_lt (Nat.le_trans (Nat.min_le_right _ _) hx) (by decide)
      · rw [upd_same, take_snoc (codes_at hc), List.map_append]
        rfl
    · rintro H' ⟨s1, hD'⟩
      rw [← codes_len, List.take_length] at hD'
      exact k H' D s1 hD hD'
abbrev s_first_letter : Stmt := top 18
theorem sc_first_letter : FnScope ["kind"] ["kind"] (defScope s_first_letter) := ⟨rfl, rfl, rfl, by decide +kernel, rfl, by decide +kernel, by decide +kernel⟩
theorem bi_first_letter (kV doc pm : Value) (an : Option Addr) (cdv ct : Value) (us : List Value) (hl : us.length = (["kind"] : List Str).length) : bindArgs (PySem.W.fnOf "first_letter" "first_letter" (defArgs s_first_letter) (defBody s_first_letter) (defScope s_first_letter) .none kV doc pm an cdv ct) ⟨us, []⟩ = pure ((["kind"] : List Str).zip us) := match us, hl with | [_], _ => rfl
theorem ok_first_letter (F : FnAt K mg "first_letter" s_first_letter) : Own P w K mg base "first_letter" 1 ["kind"] spFirst := by
  refine Own.of F sc_first_letter bi_first_letter (fun vs H Q E h => ?_) (fun f cdv A outer s H vs Q E hr h => ?_)
  · obtain ⟨z, rfl, _⟩ := h
    rfl
  · obtain ⟨z, rfl, k⟩ := h
    refine ⟨_, (pss_one (ps_ret (pe_ifExp (pt_cmpR op_eq (pv 0) pe_str (nomark _)) pe_int pe_int))), ?_⟩
    refine ⟨_, rfl, rfl, _, rfl, ite2 (fun h => ?_) (fun h => ?_)⟩
    · have e : z = .row := v_nm.mp (of_decide_eq_true h)
      subst e
      exact k
    · have e : z ≠ .row := fun e => h (by subst e; exact decide_eq_true rfl)
      unfold Mi.first at k
      rw [if_neg e] at k
      exact k
theorem cons_of {α : Type} {l : List α} (h : l ≠ []) : ∃ c d, l = c :: d := by
  cases l with
  | nil => exact absurd rfl h
  | cons c d => exact ⟨c, d, rfl⟩
theorem at0 {c : Int} {d : List Int} : atI ((c :: d).map V.int) 0 = some (V.int c) := at_of (j := 0) rfl rfl
theorem all_id (d : List Int) : (d.map Mi.isDig).all id = d.all Mi.isDig := by
  rw [List.all_map]
  rfl
abbrev s_is_variable : Stmt := top 19
theorem sc_is_variable : FnScope ["part", "digits", "byte"] ["part"] (defScope s_is_variable) := ⟨rfl, rfl, rfl, by decide +kernel, rfl, by decide +kernel, by decide +kernel⟩
theorem bi_is_variable (kV doc pm : Value) (an : Option Addr) (cdv ct : Value) (us : List Value) (hl : us.length = (["part"] : List Str).length) : bindArgs (PySem.W.fnOf "is_variable" "is_variable" (defArgs s_is_variable) (defBody s_is_variable) (defScope s_is_variable) .none kV doc pm an cdv ct) ⟨us, []⟩ = pure ((["part"] : List Str).zip us) := match us, hl with | [_], _ => rfl
theorem ok_is_variable (F : FnAt K mg "is_variable" s_is_variable) (T : Txt P w K mg aB aF aE aS aV) (C_is_letter : Own P w K mg base "is_letter" 2 ["byte"] (spB Mi.isLet)) (C_is_digit : Own P w K mg base "is_digit" 1 ["byte"] (spB Mi.isDig)) : Own P w K mg base "is_variable" 3 ["part"] (spIsVar K) := by
  refine Own.of F sc_is_variable bi_is_variable (fun vs H Q E h => ?_) (fun f cdv A outer s H vs Q E hr h => ?_)
  · obtain ⟨a, ns, rfl, _⟩ := h
    rfl
  · obtain ⟨a, ns, rfl, hS, hne, hlen, k⟩ := h
    refine ⟨_, (pss_cons (ps_set (i := 1) sc_is_variable.nd rfl (Or.inl rfl) (pe_slice sl_list (pv 0) (po_some pe_int) po_none))
      (pss_cons (ps_if (pt_cut (pw_or (pt_not (pt_val (pe_own C_is_letter (hr.mono (by decide)) (by rfl) (pa_cons (pe_ix ix_list (pv 0) pe_int (fun _ _ => rfl)) pa_nil)))) (pw_or1 (pt_cmpR op_gt (pe_callB call_len_seq (by rfl) T.b_len bo_len (pa_cons (pv 1) pa_nil)) pe_int (nomark _)))).pt)
        (pss_one (ps_ret pe_bl))
        pss_nil)
      (pss_cons (ps_if (pt_not (pt_val (pe_callB (cr_all rfl) (by rfl) T.b_all bo_all (pa_cons (pe_lc (own := [("byte", 2)]) rfl sc_is_variable.nd (pi_list (pv 1)) (blkOk_by (by show blkC ["part", "digits", "byte"] (defScope s_is_variable) _ _ = true; decide +kernel)) (fun _ _ _ _ _ => (pg_name (i := 2) sc_is_variable.nd rfl (Or.inl rfl))) (fun _ _ _ _ _ => pts_nil) (fun _ _ _ _ _ => (pe_own C_is_digit (hr.mono (by decide)) (by rfl) (pa_cons (pv 2) pa_nil)))) pa_nil))))
        (pss_one (ps_ret pe_bl))
        pss_nil)
      (pss_one (ps_ret (pe_or (pe_cmpR (op_eqInts hr.units) (pv 1) (pe_lst pa_nil) (nomark _)) (pe_one (pe_cmpR op_ne (pe_ix ix_list (pv 1) pe_int (fun _ _ => rfl)) pe_int (nomark _))))))))), ?_⟩
    obtain ⟨c, d, rfl⟩ := cons_of hne
    refine ⟨_, rfl, _, rfl, a, _, rfl, hS, fun p hp => ?_⟩
    have e1 : cutV ((c :: d).map V.int) (some 1) none = d.map V.int := cut_from _ 1 (by simp)
    rw [e1]
    generalize eH : upd H p (.lst (d.map V.int)) = H1
    have s1 : Same H H1 := by rw [← eH]; exact same_new hp
    have hp1 : H1 p = some (.lst (d.map V.int)) := by rw [← eH]; exact upd_same
    have hlen' : d.length ≤ 2000 := by simp at hlen; omega
    refine ⟨fun b H' => H1 = H' ∧ b = (!Mi.isLet c || decide (3 < d.length)), ?_, ?_⟩
    · refine ⟨_, rfl, a, _, _, _, rfl, rfl, s1.seq hS, at0, c, rfl, _, rfl, ite2 (fun h => ⟨rfl, ?_⟩) (fun h => ⟨_, rfl, p, _, rfl, .inl (SqL.of hp1), _, _, rfl, rfl, _, rfl, rfl, ?_⟩)⟩
      · rw [h]; rfl
      · have h' : (!Mi.isLet c) = false := by simpa using h
        rw [h', Bool.false_or, List.length_map]
        exact decide_eq_decide.mpr (by omega)
    rintro _ _ ⟨rfl, rfl⟩
    refine ite2 (fun h => ?_) (fun h => ?_)
    · have e : Mi.isVar (c :: d) = false := by
        rw [Mi.isVar_cons]
        simp only [Bool.or_eq_true, decide_eq_true_eq, Bool.not_eq_true'] at h
        rcases h with h | h
        · rw [h]; rfl
        · unfold Mi.tailOk
          rw [decide_eq_false (by omega)]
          simp
      have k' := k _ s1
      rw [e] at k'
      exact k'
    have hL : Mi.isLet c = true := by simp at h; exact h.1
    have h3 : d.length ≤ 3 := by simp at h; exact h.2
    have eV : Mi.isVar (c :: d) = Mi.tailOk d := by rw [Mi.isVar_cons, hL]; rfl
    refine ⟨_, rfl, p, rfl, ⟨_, SqL.of hp1⟩, fun D hD => lc_list (K := K) (a := p) (xs := d.map V.int) (fun i H' => Same H1 H' ∧ H' D = some (.lst (((d.map Mi.isDig).take i).map V.bl))) ⟨same_new hD, upd_same⟩ (fun i H' _ q => SqL.of (q.1 _ _ hp1)) ?_ ?_⟩
    · rintro i y H' hi ⟨s2, hD'⟩
      obtain ⟨z, hz, rfl⟩ := map_at hi
      refine ⟨rfl, _, rfl, z, rfl, _, hD', ?_, Same.put s2 hD, ?_⟩
      · rw [List.length_map, List.length_take, List.length_map]
        exact Nat.lt_of_le_of_lt (Nat.le_trans (Nat.min_le_right _ _) hlen') (by decide)
      · rw [upd_same, take_snoc (l := d.map Mi.isDig) (x := Mi.isDig z) (by rw [List.getElem?_map, hz]; rfl), List.map_append]
        rfl
    · rintro H2 ⟨s2, hD2⟩
      have hD3 : H2 D = some (.lst ((d.map Mi.isDig).map V.bl)) := by
        rw [hD2, List.length_map, ← List.length_map (f := Mi.isDig), List.take_length]
      refine ⟨D, _, rfl, SqL.of hD3, _, rfl, ?_⟩
      have s12 := s1.trans s2
      refine ite2 (fun h => ?_) (fun h => ?_)
      · have e : d.all Mi.isDig = false := by rw [all_id] at h; simpa using h
        have e : Mi.isVar (c :: d) = false := by rw [eV]; unfold Mi.tailOk; rw [e]; simp
        have k' := k H2 s12
        rw [e] at k'
        exact k'
      · have e : d.all Mi.isDig = true := by rw [all_id] at h; simpa using h
        refine ⟨_, rfl, Nat.zero_le _, fun q hq => ⟨p, q, d, [], rfl, rfl, SqL.of ((same_new hq) _ _ (s2 _ _ hp1)), SqL.of upd_same, _, rfl, ?_⟩⟩
        have s3 : Same H (upd H2 q (.lst [])) := s12.trans (same_new hq)
        have k' := k _ s3
        rw [eV] at k'
        cases d with
        | nil => exact iteT k'
        | cons c2 d2 =>
          refine ite2 (fun z => absurd (of_decide_eq_true z) (by simp)) (fun _ => ?_)
          refine ⟨_, rfl, p, _, _, _, rfl, rfl, SqL.of ((same_new hq) _ _ (s2 _ _ hp1)), at0, rfl, ?_⟩
          have e5 : Mi.tailOk (c2 :: d2) = !decide (V.int c2 = V.int 48) := by
            unfold Mi.tailOk
            rw [e, decide_eq_true h3, Bool.eq_iff_iff]
            simp
          rw [e5] at k'
          exact k'
theorem kind_hit {ns : List Int} : ∀ (l : List Mi.Sy) (i : Nat) (k : Mi.Sy), l[i]? = some k → (∀ j ∈ l.take i, ns ≠ Mi.symBytes j) → ns = Mi.symBytes k → l.find? (fun k => decide (ns = Mi.symBytes k)) = some k
  | [], i, k, h, _, _ => by simp at h
  | a :: l, 0, k, h, _, e => by
    have h : a = k := Option.some.inj h
    subst h
    rw [List.find?_cons, decide_eq_true e]
  | a :: l, i + 1, k, h, hn, e => by
    rw [List.find?_cons, decide_eq_false (hn a (by simp))]
    exact kind_hit l i k h (fun j hj => hn j (by simp [hj])) e
theorem kind_miss {ns : List Int} (hn : ∀ j ∈ Mi.fixed, ns ≠ Mi.symBytes j) : Mi.fixed.find? (fun k => decide (ns = Mi.symBytes k)) = none := by
  rw [List.find?_eq_none]
  intro j hj
  simp [hn j hj]
abbrev s_kind_of : Stmt := top 16
theorem sc_kind_of : FnScope ["part", "kind"] ["part"] (defScope s_kind_of) := ⟨rfl, rfl, rfl, by decide +kernel, rfl, by decide +kernel, by decide +kernel⟩
theorem bi_kind_of (kV doc pm : Value) (an : Option Addr) (cdv ct : Value) (us : List Value) (hl : us.length = (["part"] : List Str).length) : bindArgs (PySem.W.fnOf "kind_of" "kind_of" (defArgs s_kind_of) (defBody s_kind_of) (defScope s_kind_of) .none kV doc pm an cdv ct) ⟨us, []⟩ = pure ((["part"] : List Str).zip us) := match us, hl with | [_], _ => rfl
theorem ok_kind_of (F : FnAt K mg "kind_of" s_kind_of) (T : Txt P w K mg aB aF aE aS aV) (C_bytes_of : Own P w K mg base "bytes_of" 1 ["text"] spBytes) (C_is_variable : Own P w K mg base "is_variable" 3 ["part"] (spIsVar K)) (C_is_capital : Own P w K mg base "is_capital" 1 ["byte"] (spB Mi.isCap)) : Own P w K mg base "kind_of" 4 ["part"] (spKind K) := by
  refine Own.of F sc_kind_of bi_kind_of (fun vs H Q E h => ?_) (fun f cdv A outer s H vs Q E hr h => ?_)
  · obtain ⟨a, ns, rfl, _⟩ := h
    rfl
  · obtain ⟨a, ns, rfl, hS, hne, hlen, k⟩ := h
    refine ⟨_, (pss_cons (ps_for PassesOwn.never rfl (pi_tup (pe_gref (by rfl) T.g_FIXED)) (pg_name (i := 1) sc_kind_of.nd rfl (Or.inl rfl))
        (pss_one (ps_if (pt_cmpR (op_eqInts hr.units) (pv 0) (pe_own C_bytes_of (hr.mono (by decide)) (by rfl) (pa_cons (pv 1) pa_nil)) (nomark _))
          (pss_one (ps_ret (pv 1)))
          pss_nil)))
      (pss_cons (ps_if (pt_not (pt_val (pe_own C_is_variable (hr.mono (by decide)) (by rfl) (pa_cons (pv 0) pa_nil))))
        (pss_one (ps_ret pe_str))
        pss_nil)
      (pss_one (ps_ret (pe_ifExp (pt_val (pe_own C_is_capital (hr.mono (by decide)) (by rfl) (pa_cons (pe_ix ix_list (pv 0) pe_int (fun _ _ => rfl)) pa_nil))) pe_str pe_str))))), ?_⟩
    refine ⟨aF, rfl, ⟨_, T.fixed H⟩, for_tup (K := K) (a := aF) (xs := Mi.fixed.map fun k => V.str (nm k)) (fun i σ H' => ∃ v : Option V, σ = [some (.ref a), v] ∧ Same H H' ∧ ∀ j ∈ Mi.fixed.take i, ns ≠ Mi.symBytes j)
      ⟨none, rfl, Same.refl H, by simp⟩ (fun i σ H' _ _ => T.fixed H') ?_ ?_⟩
    · rintro i y σ H' hi ⟨v, rfl, s1, hn⟩
      obtain ⟨j, hj, rfl⟩ := map_at hi
      have hm : j ∈ Mi.fixed := List.mem_of_getElem? hj
      refine ⟨_, rfl, _, rfl, nm j, rfl, Nat.le_trans (len_nm j) (by decide), fun H2 p s2 hp h2 => ?_⟩
      rw [codes_nm j hm] at h2
      have s12 := s1.trans s2
      refine ⟨a, p, ns, Mi.symBytes j, rfl, rfl, s12.seq hS, SqL.of h2, _, rfl, ite2 (fun h => ⟨_, rfl, ?_⟩) (fun h => ⟨_, rfl, s12, ?_⟩)⟩
      · have e : Mi.kindOf ns = j := by
          unfold Mi.kindOf
          rw [kind_hit Mi.fixed i j hj hn (of_decide_eq_true h)]
        have k' := k H2 s12
        rw [e] at k'
        exact k'
      · rw [take_snoc hj]
        intro q hq
        rcases List.mem_append.mp hq with hq | hq
        · exact hn q hq
        · have e : q = j := by simpa using hq
          subst e
          exact of_decide_eq_false (by simpa using h)
    · rintro σ H1 ⟨v, rfl, s1, hn⟩
      rw [List.length_map, List.take_length] at hn
      have e0 : Mi.kindOf ns = if Mi.isVar ns = true then (if Mi.isCap (ns.headD 0) = true then .row else .ty) else .bad := by
        unfold Mi.kindOf
        rw [kind_miss hn]
      refine ⟨_, rfl, a, ns, rfl, s1.seq hS, hne, hlen, fun H2 s2 => ⟨_, rfl, ite2 (fun h => ?_) (fun h => ?_)⟩⟩
      · have e : Mi.isVar ns = false := by simpa using h
        have k' := k H2 (s1.trans s2)
        rw [e0, e] at k'
        exact k'
      · have e : Mi.isVar ns = true := by simpa using h
        obtain ⟨c, d, rfl⟩ := cons_of hne
        have s12 := s1.trans s2
        have k' := k H2 s12
        rw [e0, e, if_pos rfl] at k'
        refine ⟨_, rfl, a, _, _, _, rfl, rfl, s12.seq hS, at0, c, rfl, _, rfl, ite2 (fun h => ?_) (fun h => ?_)⟩
        · rw [if_pos (show Mi.isCap ((c :: d).headD 0) = true from h)] at k'
          exact k'
        · rw [if_neg (show ¬ Mi.isCap ((c :: d).headD 0) = true from h)] at k'
          exact k'
abbrev s_number_of : Stmt := top 17
theorem sc_number_of : FnScope ["kind", "part", "rounds", "byte"] ["kind", "part"] (defScope s_number_of) := ⟨rfl, rfl, rfl, by decide +kernel, rfl, by decide +kernel, by decide +kernel⟩
theorem bi_number_of (kV doc pm : Value) (an : Option Addr) (cdv ct : Value) (us : List Value) (hl : us.length = (["kind", "part"] : List Str).length) : bindArgs (PySem.W.fnOf "number_of" "number_of" (defArgs s_number_of) (defBody s_number_of) (defScope s_number_of) .none kV doc pm an cdv ct) ⟨us, []⟩ = pure ((["kind", "part"] : List Str).zip us) := match us, hl with | [_, _], _ => rfl
theorem in_vars (k : Mi.Sy) : inV (.str (nm k)) [.str "ROW", .str "ITEM"] = decide (k = .row ∨ k = .ty) := by cases k <;> decide +kernel
theorem rounds_snoc {d : List Int} {z : Int} : Mi.rounds (d ++ [z]) = Mi.rounds d * 10 + z - 48 := by simp [Mi.rounds]
theorem ok_number_of (F : FnAt K mg "number_of" s_number_of) (T : Txt P w K mg aB aF aE aS aV) (C_first_letter : Own P w K mg base "first_letter" 1 ["kind"] spFirst) : Own P w K mg base "number_of" 2 ["kind", "part"] (spNumber K) := by
  refine Own.of F sc_number_of bi_number_of (fun vs H Q E h => ?_) (fun f cdv A outer s H vs Q E hr h => ?_)
  · obtain ⟨z, a, ns, rfl, _⟩ := h
    rfl
  · obtain ⟨z, a, ns, rfl, hS, hne, k⟩ := h
    refine ⟨_, (pss_cons (ps_if (pt_cmpR op_notIn_seq (pv 0) (pe_gref (by rfl) T.g_VARIABLES) (by with_unfolding_all rfl))
        (pss_one (ps_ret pe_int))
        pss_nil)
      (pss_cons (ps_set (i := 2) sc_number_of.nd rfl (Or.inl rfl) pe_int)
      (pss_cons (ps_for PassesOwn.never rfl (pi_list (pe_slice sl_list (pv 1) (po_some pe_int) po_none)) (pg_name (i := 3) sc_number_of.nd rfl (Or.inl rfl))
        (pss_one (ps_set (i := 2) sc_number_of.nd rfl (Or.inl rfl) (pe_op op_sub (pe_op op_add (pe_op op_mul (pv 2) pe_int) (pv 3)) pe_int))))
      (pss_one (ps_ret (pe_op op_sub (pe_op op_add (pe_op op_mul (pv 2) (pe_gint (by rfl) T.g_LETTERS)) (pe_ix ix_list (pv 1) pe_int (fun _ _ => rfl))) (pe_own C_first_letter (hr.mono (by decide)) (by rfl) (pa_cons (pv 0) pa_nil)))))))), ?_⟩
    refine ⟨_, rfl, aV, _, rfl, .inr (T.vars H), rfl, rfl, _, rfl, ite2 (fun h => ?_) (fun h => ?_)⟩
    · have hz : ¬ (z = .row ∨ z = .ty) := by
        rw [if_pos rfl, in_vars] at h
        simpa using h
      have k' := k _ (Same.refl _)
      unfold Mi.numOf at k'
      rw [if_neg hz] at k'
      exact k'
    · have hz : z = .row ∨ z = .ty := by
        rw [if_pos rfl, in_vars] at h
        exact Classical.byContradiction fun q => h (by rw [decide_eq_false q]; rfl)
      obtain ⟨c, d, rfl⟩ := cons_of hne
      refine ⟨_, rfl, _, rfl, a, _, rfl, hS, fun p hp => ?_⟩
      have e1 : cutV ((c :: d).map V.int) (some 1) none = d.map V.int := cut_from _ 1 (by simp)
      rw [e1]
      generalize eH : upd H p (.lst (d.map V.int)) = H1
      have s1 : Same H H1 := by rw [← eH]; exact same_new hp
      have hp1 : H1 p = some (.lst (d.map V.int)) := by rw [← eH]; exact upd_same
      refine ⟨p, rfl, ⟨_, SqL.of hp1⟩, for_list (K := K) (a := p) (xs := d.map V.int) (fun i σ H' => ∃ v : Option V, σ = [some (.str (nm z)), some (.ref a), some (.int (Mi.rounds (d.take i))), v] ∧ Same H1 H')
        ⟨none, rfl, Same.refl _⟩ (fun i σ H' _ ⟨_, _, s2⟩ => SqL.of (s2 _ _ hp1)) ?_ ?_⟩
      · rintro i y σ H' hi ⟨v, rfl, s2⟩
        obtain ⟨b, hb, rfl⟩ := map_at hi
        refine ⟨_, rfl, _, _, rfl, rfl, .inr (by decide), _, rfl, _, _, rfl, rfl, _, _, rfl, rfl, some (V.int b), ?_, s2⟩
        rw [take_snoc hb, rounds_snoc]
        rfl
      · rintro σ H2 ⟨v, rfl, s2⟩
        rw [List.length_map, List.take_length]
        have s12 := s1.trans s2
        refine ⟨_, rfl, _, _, rfl, rfl, .inr (by decide), _, rfl, a, _, _, _, rfl, rfl, s12.seq hS, at0, _, _, rfl, rfl, _, rfl, z, rfl, _, _, rfl, rfl, ?_⟩
        have k' := k H2 s12
        unfold Mi.numOf at k'
        rw [if_pos hz] at k'
        exact k'
end
end Jd

set_option linter.all false
set_option Elab.async false
set_option maxRecDepth 100000
set_option maxHeartbeats 4000000
namespace Jd
open PySem PySem.Spec PyProof.Rows L2 W1
open PySem.W (Codec)
section
variable {P : Program} {w : World} {K : PySem.W.Frag} {mg : Str → Option Value} {base : Heap} {aB aF aE aS aV : Addr}
theorem at_nat {ns : List Int} {j : Nat} {c : Int} (h : ns[j]? = some c) : atI (ns.map V.int) (j : Int) = some (V.int c) := atI_nat (by rw [List.getElem?_map, h]; rfl)
theorem get_of {α : Type} {l : List α} {j : Nat} (h : j < l.length) : ∃ c, l[j]? = some c := ⟨_, List.getElem?_eq_getElem h⟩
theorem cut_ints (ns : List Int) (i j : Nat) (h : i ≤ ns.length) : cutV (ns.map V.int) (some (i : Int)) (some (j : Int)) = ((ns.drop i).take (j - i)).map V.int := by
  rw [cut_nat _ _ _ (by rw [List.length_map]; exact h), ← List.map_drop, ← List.map_take]
abbrev s_token_end : Stmt := top 15
theorem sc_token_end : FnScope ["t", "place", "end"] ["t", "place"] (defScope s_token_end) := ⟨rfl, rfl, rfl, by decide +kernel, rfl, by decide +kernel, by decide +kernel⟩
theorem bi_token_end (kV doc pm : Value) (an : Option Addr) (cdv ct : Value) (us : List Value) (hl : us.length = (["t", "place"] : List Str).length) : bindArgs (PySem.W.fnOf "token_end" "token_end" (defArgs s_token_end) (defBody s_token_end) (defScope s_token_end) .none kV doc pm an cdv ct) ⟨us, []⟩ = pure ((["t", "place"] : List Str).zip us) := match us, hl with | [_, _], _ => rfl
theorem ok_token_end (F : FnAt K mg "token_end" s_token_end) (T : Txt P w K mg aB aF aE aS aV) (C_bytes_of : Own P w K mg base "bytes_of" 1 ["text"] spBytes) (C_is_letter : Own P w K mg base "is_letter" 2 ["byte"] (spB Mi.isLet)) (C_is_digit : Own P w K mg base "is_digit" 1 ["byte"] (spB Mi.isDig)) : Own P w K mg base "token_end" 4 ["t", "place"] (spTokEnd K) := by
  refine Own.of F sc_token_end bi_token_end (fun vs H Q E h => ?_) (fun f cdv A outer s H vs Q E hr h => ?_)
  · obtain ⟨a, ns, j, rfl, _⟩ := h
    rfl
  · obtain ⟨a, ns, j, rfl, hS, hj, hlen, k⟩ := h
    refine ⟨_, (pss_cons (ps_if (pt_cmpR (op_eqInts hr.units) (pe_slice sl_list (pv 0) (po_some (pv 1)) (po_some (pe_op op_add (pv 1) pe_int))) (pe_own C_bytes_of (hr.mono (by decide)) (by rfl) (pa_cons pe_str pa_nil)) (nomark _))
        (pss_one (ps_ret (pe_op op_add (pv 1) pe_int)))
        pss_nil)
      (pss_cons (ps_set (i := 2) sc_token_end.nd rfl (Or.inl rfl) (pv 1))
      (pss_cons (ps_while PassesOwn.never (pt_cut (pw_and (pt_cmpR op_lt (pv 2) (pe_callB call_len_seq (by rfl) T.b_len bo_len (pa_cons (pv 0) pa_nil)) (nomark _)) (pw_and1 (pt_cut (pw_or (pt_val (pe_own C_is_letter (hr.mono (by decide)) (by rfl) (pa_cons (pe_ix ix_list (pv 0) (pv 2) (fun _ _ => rfl)) pa_nil))) (pw_or1 (pt_val (pe_own C_is_digit (hr.mono (by decide)) (by rfl) (pa_cons (pe_ix ix_list (pv 0) (pv 2) (fun _ _ => rfl)) pa_nil))))).pt))).pt)
        (pss_one (ps_aug (i := 2) sc_token_end.nd rfl (Or.inl rfl) pe_int ip_add)))
      (pss_one (ps_ret (pe_callB (call_max2 rfl) (by rfl) T.b_max bo_max (pa_cons (pv 2) (pa_cons (pe_op op_add (pv 1) pe_int) pa_nil)))))))), ?_⟩
    refine ⟨_, rfl, _, rfl, _, rfl, _, rfl, _, _, rfl, rfl, _, rfl, a, _, rfl, hS, fun p hp => ?_⟩
    have e1 : cutV (ns.map V.int) (some (j : Int)) (some ((j : Int) + 2)) = ((ns.drop j).take 2).map V.int := by
      have q := cut_ints ns j (j + 2) (by omega)
      rw [show j + 2 - j = 2 by omega] at q
      exact q
    rw [e1]
    generalize eH : upd H p (.lst (((ns.drop j).take 2).map V.int)) = H1
    have s1 : Same H H1 := by rw [← eH]; exact same_new hp
    have hp1 : H1 p = some (.lst (((ns.drop j).take 2).map V.int)) := by rw [← eH]; exact upd_same
    refine ⟨_, rfl, by decide +kernel, fun H2 q s2 hq h2 => ?_⟩
    have s12 := s1.trans s2
    refine ⟨p, q, (ns.drop j).take 2, Mi.symBytes .to, rfl, rfl, SqL.of (s2 _ _ hp1), SqL.of (by rw [h2, show (codes "--" : List Int) = Mi.symBytes .to by decide +kernel]), _, rfl, ite2 (fun h => ?_) (fun h => ?_)⟩
    · have k' := k H2 s12
      rw [Mi.tokEnd_to (of_decide_eq_true h)] at k'
      exact ⟨_, rfl, _, _, rfl, rfl, k'⟩
    have hne : (ns.drop j).take 2 ≠ [45, 45] := fun e => h (decide_eq_true e)
    have fin : ∀ (e : Nat) (H3 : Hp), Same H H3 → e = j + Mi.runL ns j → Q (.int (if (j : Int) + 1 > (e : Int) then (j : Int) + 1 else (e : Int))) H3 := fun e H3 s3 he => by
      have k' := k H3 s3
      rw [Mi.tokEnd_run hne] at k'
      have e2 : (if (j : Int) + 1 > (e : Int) then (j : Int) + 1 else (e : Int)) = ((j + max (Mi.runL ns j) 1 : Nat) : Int) := by
        split <;> omega
      rw [e2]
      exact k'
    refine ⟨_, rfl, fun m σ H' => ∃ e : Nat, m = ns.length - e ∧ σ = [some (.ref a), some (.int (j : Int)), some (.int (e : Int))] ∧ Same H H' ∧ e ≤ ns.length ∧ e + Mi.runL ns e = j + Mi.runL ns j,
      ⟨_, j, rfl, rfl, s12, by omega, rfl⟩, ?_⟩
    rintro m σ H3 ⟨e, rfl, rfl, s3, he, hL⟩
    refine ⟨fun b H' => H3 = H' ∧ (b = true → ∃ c, ns[e]? = some c ∧ Mi.inRun c = true) ∧ (b = false → Mi.runL ns e = 0), ?_, ?_⟩
    · refine ⟨_, rfl, _, rfl, a, _, rfl, .inl (s3.seq hS), _, _, rfl, rfl, _, rfl, ite2 (fun h => ?_) (fun h => ?_)⟩
      · have hlt : e < ns.length := by
          have := of_decide_eq_true h
          rw [List.length_map] at this
          omega
        obtain ⟨c, hc⟩ := get_of hlt
        refine ⟨fun b H' => H3 = H' ∧ b = Mi.inRun c, ?_, ?_⟩
        · refine ⟨_, rfl, _, rfl, a, _, _, _, rfl, rfl, s3.seq hS, at_nat hc, c, rfl, _, rfl, ite2 (fun h => ⟨rfl, ?_⟩) (fun h => ⟨_, rfl, _, rfl, a, _, _, _, rfl, rfl, s3.seq hS, at_nat hc, c, rfl, _, rfl, rfl, ?_⟩)⟩
          · unfold Mi.inRun
            rw [h]
            rfl
          · unfold Mi.inRun
            rw [(by simpa using h : Mi.isLet c = false), Bool.false_or]
        rintro _ _ ⟨rfl, rfl⟩
        exact ⟨rfl, fun h => ⟨c, hc, h⟩, fun h => Mi.runL_out hc h⟩
      · have hge : ns.length ≤ e := by
          have := mt decide_eq_true h
          rw [List.length_map] at this
          omega
        exact ⟨rfl, fun h => (by cases h), fun _ => Mi.runL_end hge⟩
    rintro b _ ⟨rfl, hb1, hb2⟩
    refine ite2 (fun h => ?_) (fun h => ?_)
    · obtain ⟨c, hc, hci⟩ := hb1 h
      have hlt := (List.getElem?_eq_some_iff.mp hc).1
      refine ⟨fun σ' H' => ∃ m', m' < ns.length - e ∧ ∃ e : Nat, m' = ns.length - e ∧ σ' = [some (.ref a), some (.int (j : Int)), some (.int (e : Int))] ∧ Same H H' ∧ e ≤ ns.length ∧ e + Mi.runL ns e = j + Mi.runL ns j, fun _ _ q => q, _, rfl, _, _, rfl, rfl, ?_⟩
      have hr1 := Mi.runL_in hc hci
      exact ⟨ns.length - (e + 1), by omega, e + 1, rfl, rfl, s3, by omega, by omega⟩
    · have hr0 := hb2 (by simpa using h)
      exact ⟨_, rfl, _, rfl, _, _, rfl, rfl, _, _, rfl, fin e _ s3 (by omega)⟩
theorem in_blanks (c : Int) : inV (.int c) (Mi.blanks.map V.int) = Mi.isBlk c := by
  rw [Bool.eq_iff_iff]
  simp [inV, Mi.blanks, eqV, Mi.isBlk]
  omega
theorem flat_ints (l : List Int) : (l.map V.int).all flatV = true := by
  rw [List.all_eq_true]
  intro x hx
  obtain ⟨z, _, rfl⟩ := List.mem_map.mp hx
  rfl
theorem ToksAt.snoc {H : Hp} {l q : Addr} {as : List Addr} {ts : List Mi.Tk} {x : Mi.Tk} (h1 : H l = some (.lst (as.map V.ref))) (h2 : Paired (TkAt H) as ts) (hq : H q = none) :
    ToksAt (upd (upd H q (.tup [.str (nm x.1), .int x.2.1, .int (x.2.2 : Int)])) l (.lst (as.map V.ref ++ [.ref q]))) l (ts ++ [x]) := by
  have nql : q ≠ l := fun e => by rw [e, h1] at hq; cases hq
  refine ⟨as ++ [q], by rw [upd_same, List.map_append]; rfl, Paired.snoc (Paired.mapP h2 fun a y e => ?_) ?_⟩
  · have n1 : a ≠ l := ne_of e h1 (by intro z; cases z)
    have n2 : a ≠ q := ne_of_none e hq
    show upd _ _ _ a = _
    rw [upd_ne n1, upd_ne n2]
    exact e
  · show upd _ _ _ q = _
    rw [upd_ne nql, upd_same]
abbrev s_tokens_of : Stmt := top 14
theorem sc_tokens_of : FnScope ["t", "tokens", "place", "end", "part", "kind"] ["t"] (defScope s_tokens_of) := ⟨rfl, rfl, rfl, by decide +kernel, rfl, by decide +kernel, by decide +kernel⟩
theorem bi_tokens_of (kV doc pm : Value) (an : Option Addr) (cdv ct : Value) (us : List Value) (hl : us.length = (["t"] : List Str).length) : bindArgs (PySem.W.fnOf "tokens_of" "tokens_of" (defArgs s_tokens_of) (defBody s_tokens_of) (defScope s_tokens_of) .none kV doc pm an cdv ct) ⟨us, []⟩ = pure ((["t"] : List Str).zip us) := match us, hl with | [_], _ => rfl
theorem ok_tokens_of (F : FnAt K mg "tokens_of" s_tokens_of) (T : Txt P w K mg aB aF aE aS aV) (C_token_end : Own P w K mg base "token_end" 4 ["t", "place"] (spTokEnd K)) (C_kind_of : Own P w K mg base "kind_of" 4 ["part"] (spKind K)) (C_number_of : Own P w K mg base "number_of" 2 ["kind", "part"] (spNumber K)) : Own P w K mg base "tokens_of" 5 ["t"] (spTokens K) := by
  refine Own.of F sc_tokens_of bi_tokens_of (fun vs H Q E h => ?_) (fun f cdv A outer s H vs Q E hr h => ?_)
  · obtain ⟨a, ns, rfl, _⟩ := h
    rfl
  · obtain ⟨a, ns, rfl, hS, hlen, k⟩ := h
    refine ⟨_, (pss_cons (ps_set (i := 1) sc_tokens_of.nd rfl (Or.inl rfl) (pe_lst pa_nil))
      (pss_cons (ps_set (i := 2) sc_tokens_of.nd rfl (Or.inl rfl) pe_int)
      (pss_cons (ps_while PassesOwn.never (pt_cmpR op_lt (pv 2) (pe_callB call_len_seq (by rfl) T.b_len bo_len (pa_cons (pv 0) pa_nil)) (nomark _))
        (pss_cons (ps_set (i := 3) sc_tokens_of.nd rfl (Or.inl rfl) (pe_own C_token_end (hr.mono (by decide)) (by rfl) (pa_cons (pv 0) (pa_cons (pv 2) pa_nil))))
        (pss_cons (ps_cut (ps_if (pt_cmpR op_notIn_seq (pe_ix ix_list (pv 0) (pv 2) (fun _ _ => rfl)) (pe_gref (by rfl) T.g_BLANKS) (by with_unfolding_all rfl))
          (pss_cons (ps_set (i := 4) sc_tokens_of.nd rfl (Or.inl rfl) (pe_slice sl_list (pv 0) (po_some (pv 2)) (po_some (pv 3))))
          (pss_cons (ps_set (i := 5) sc_tokens_of.nd rfl (Or.inl rfl) (pe_own C_kind_of (hr.mono (by decide)) (by rfl) (pa_cons (pv 4) pa_nil)))
          (pss_one (ps_expr (pe_bm PySem.F.plainAttrs_list PySem.F.slot_list_append PySem.F.type_list_append mt_append (pv 1) (pa_cons (pe_tup (pa_cons (pv 5) (pa_cons (pe_own C_number_of (hr.mono (by decide)) (by rfl) (pa_cons (pv 5) (pa_cons (pv 4) pa_nil))) (pa_cons (pv 2) pa_nil)))) pa_nil))))))
          pss_nil))
        (pss_one (ps_set (i := 2) sc_tokens_of.nd rfl (Or.inl rfl) (pv 3))))))
      (pss_one (ps_ret (pv 1)))))), ?_⟩
    refine ⟨Nat.zero_le _, fun l hl => ?_⟩
    refine ⟨fun m σ H' => ∃ (j : Nat) (x y z : Option V) (ts : List Mi.Tk), m = ns.length - j ∧ σ = [some (.ref a), some (.ref l), some (.int (j : Int)), x, y, z] ∧ Same H H' ∧ ToksAt H' l ts ∧ ts.length ≤ j ∧ j ≤ ns.length ∧ Mi.toks 0 ns = ts ++ Mi.toks j (ns.drop j),
      ⟨_, 0, none, none, none, [], rfl, rfl, same_new hl, ⟨[], upd_same, .nil⟩, Nat.le_refl _, Nat.zero_le _, rfl⟩, ?_⟩
    rintro m σ H1 ⟨j, x, y, z, ts, rfl, rfl, s1, ⟨as, ha1, ha2⟩, htl, hjl, hT⟩
    refine ⟨_, rfl, _, rfl, a, _, rfl, .inl (s1.seq hS), _, _, rfl, rfl, _, rfl, ite2 (fun h => ?_) (fun h => ?_)⟩
    · have hlt : j < ns.length := by
        have := of_decide_eq_true h
        rw [List.length_map] at this
        omega
      obtain ⟨c, hc⟩ := get_of hlt
      have hpos := Mi.tokEnd_pos (ns.drop j)
      have hle : j + Mi.tokEnd (ns.drop j) ≤ ns.length := by
        have := Mi.tokEnd_le (l := ns.drop j) (by rw [Mi.drop_at hc]; simp)
        rw [List.length_drop] at this
        omega
      have hstep := Mi.toks_step hc
      refine ⟨fun σ' H' => ∃ m', m' < ns.length - j ∧ ∃ (j : Nat) (x y z : Option V) (ts : List Mi.Tk), m' = ns.length - j ∧ σ' = [some (.ref a), some (.ref l), some (.int (j : Int)), x, y, z] ∧ Same H H' ∧ ToksAt H' l ts ∧ ts.length ≤ j ∧ j ≤ ns.length ∧ Mi.toks 0 ns = ts ++ Mi.toks j (ns.drop j), fun _ _ q => q, ?_⟩
      refine ⟨_, rfl, _, rfl, a, ns, j, rfl, s1.seq hS, hlt, hlen, fun H2 s2 => ?_⟩
      have s12 := s1.trans s2
      refine ⟨fun σ' H' => ∃ (y z : Option V) (ts' : List Mi.Tk), σ' = [some (.ref a), some (.ref l), some (.int (j : Int)), some (.int ((j + Mi.tokEnd (ns.drop j) : Nat) : Int)), y, z] ∧ Same H H' ∧ ToksAt H' l ts' ∧ ts'.length ≤ j + 1 ∧ Mi.toks 0 ns = ts' ++ Mi.toks (j + Mi.tokEnd (ns.drop j)) (ns.drop (j + Mi.tokEnd (ns.drop j))), ?_, ?_⟩
      · refine ⟨_, rfl, _, rfl, a, _, _, _, rfl, rfl, s12.seq hS, at_nat hc, aB, _, rfl, .inr (T.blanks H2), rfl, flat_ints _, _, rfl, ite2 (fun h => ?_) (fun h => ?_)⟩
        · have hb : Mi.isBlk c = false := by
            rw [if_pos rfl, in_blanks] at h
            simpa using h
          refine ⟨_, rfl, _, rfl, _, rfl, _, rfl, _, rfl, a, _, rfl, s12.seq hS, fun p hp => ?_⟩
          rw [cut_ints ns j (j + Mi.tokEnd (ns.drop j)) (by omega), show j + Mi.tokEnd (ns.drop j) - j = Mi.tokEnd (ns.drop j) by omega]
          generalize ePart : (ns.drop j).take (Mi.tokEnd (ns.drop j)) = part
          have hne : part ≠ [] := by
            rw [← ePart]
            intro q
            have := congrArg List.length q
            rw [List.length_take, List.length_drop] at this
            simp only [List.length_nil] at this
            omega
          have hpl : part.length ≤ 2000 := by
            rw [← ePart, List.length_take, List.length_drop]
            omega
          generalize eH : upd H2 p (.lst (part.map V.int)) = H3
          have s3 : Same H2 H3 := by rw [← eH]; exact same_new hp
          have hp3 : H3 p = some (.lst (part.map V.int)) := by rw [← eH]; exact upd_same
          refine ⟨_, rfl, p, part, rfl, SqL.of hp3, hne, hpl, fun H4 s4 => ?_⟩
          have hl4 := s4 _ _ (s3 _ _ (s2 _ _ ha1))
          refine ⟨_, rfl, .inl ⟨rfl, _, SqL.of hl4⟩, _, rfl, _, rfl, _, rfl, Mi.kindOf part, p, part, rfl, SqL.of (s4 _ _ hp3), hne, fun H5 s5 => ?_⟩
          have s25 : Same H2 H5 := (s3.trans s4).trans s5
          have s15 : Same H1 H5 := s2.trans s25
          refine ⟨_, rfl, (by show 3 ≤ sizeLine; decide), fun q hq => ?_⟩
          have hl5 : H5 l = some (.lst (as.map V.ref)) := s15 _ _ ha1
          have nql : l ≠ q := ne_of_none hl5 hq
          refine ⟨l, _, _, rfl, rfl, by rw [upd_ne nql]; exact hl5, ?_, ?_⟩
          · rw [List.length_map, Paired.length ha2]
            exact Nat.lt_of_le_of_lt (Nat.le_trans htl (Nat.le_trans hjl hlen)) (by decide)
          · have hq0 : H q = none := (s1.trans s15).free hq
            have tk : ToksAt _ l (ts ++ [(Mi.kindOf part, Mi.numOf (Mi.kindOf part) part, j)]) := ToksAt.snoc (x := (Mi.kindOf part, Mi.numOf (Mi.kindOf part) part, j)) hl5 (Paired.mapP ha2 fun b y e => s15 _ _ e) hq
            refine ⟨_, _, _, rfl, Same.put (Same.put (s1.trans s15) hq0) hl, tk, ?_, ?_⟩
            · rw [List.length_append, List.length_singleton]
              omega
            · rw [hT, hstep, hb, if_neg Bool.false_ne_true, List.append_assoc]
              unfold Mi.tok1
              rw [ePart]
        · have hb : Mi.isBlk c = true := by
            rw [if_pos rfl, in_blanks] at h
            simpa using h
          refine ⟨_, _, ts, rfl, s12, ⟨as, s2 _ _ ha1, Paired.mapP ha2 fun b y e => s2 _ _ e⟩, by omega, ?_⟩
          rw [hT, hstep, hb, if_pos rfl, List.nil_append]
      · rintro _ H6 ⟨y6, z6, ts6, rfl, s6, hT6, hl6, hN6⟩
        exact ⟨_, rfl, ns.length - (j + Mi.tokEnd (ns.drop j)), by omega, j + Mi.tokEnd (ns.drop j), _, _, _, ts6, rfl, rfl, s6, hT6, by omega, hle, hN6⟩
    · have hge : ns.length ≤ j := by
        have := mt decide_eq_true h
        rw [List.length_map] at this
        omega
      rw [List.drop_eq_nil_of_le hge, Mi.toks_nil, List.append_nil] at hT
      refine ⟨_, rfl, k H1 l s1 hl ?_⟩
      rw [hT]
      exact ⟨as, ha1, ha2⟩
theorem count_nm (k : Mi.Sy) : ∀ l : List Mi.Sy, (l.map nm).count (nm k) = l.count k
  | [] => rfl
  | a :: l => by
    rw [List.map_cons, List.count_cons, List.count_cons, count_nm k l]
    by_cases e : a = k
    · subst e; simp
    · have e' : nm a ≠ nm k := fun q => e (nm_inj q)
      simp [e, e']
theorem AwAt.strs {H : Hp} {a : Addr} {st : List Mi.Sy} (h : AwAt H a st) : SqL K H a ((st.reverse.map nm).map V.str) := by
  rw [List.map_map]
  exact SqL.of h
abbrev s_too_deep : Stmt := top 13
theorem sc_too_deep : FnScope ["awaited"] ["awaited"] (defScope s_too_deep) := ⟨rfl, rfl, rfl, by decide +kernel, rfl, by decide +kernel, by decide +kernel⟩
theorem bi_too_deep (kV doc pm : Value) (an : Option Addr) (cdv ct : Value) (us : List Value) (hl : us.length = (["awaited"] : List Str).length) : bindArgs (PySem.W.fnOf "too_deep" "too_deep" (defArgs s_too_deep) (defBody s_too_deep) (defScope s_too_deep) .none kV doc pm an cdv ct) ⟨us, []⟩ = pure ((["awaited"] : List Str).zip us) := match us, hl with | [_], _ => rfl
theorem ok_too_deep (F : FnAt K mg "too_deep" s_too_deep) (T : Txt P w K mg aB aF aE aS aV) : Own P w K mg base "too_deep" 1 ["awaited"] spDeep := by
  refine Own.of F sc_too_deep bi_too_deep (fun vs H Q E h => ?_) (fun f cdv A outer s H vs Q E hr h => ?_)
  · obtain ⟨a, st, rfl, _⟩ := h
    rfl
  · obtain ⟨a, st, rfl, hA, k⟩ := h
    refine ⟨_, (pss_one (ps_ret (pe_cmpR op_gt (pe_op op_add (pe_bm PySem.F.plainAttrs_list PySem.F.slot_list_count PySem.F.type_list_count mt_countS (pv 0) (pa_cons pe_str pa_nil)) (pe_bm PySem.F.plainAttrs_list PySem.F.slot_list_count PySem.F.type_list_count mt_countS (pv 0) (pa_cons pe_str pa_nil))) (pe_gint (by rfl) T.g_DEEPEST) (nomark _)))), ?_⟩
    have hs : SqL K H a ((st.reverse.map nm).map V.str) := hA.strs
    refine ⟨_, rfl, .inl ⟨rfl, _, hs⟩, a, _, _, rfl, rfl, hs, _, rfl, .inl ⟨rfl, _, hs⟩, a, _, _, rfl, rfl, hs, _, _, rfl, rfl, _, _, rfl, rfl, ?_⟩
    have e1 : (st.reverse.map nm).count (")" : Str) = st.count .cp := by rw [show (")" : Str) = nm .cp from rfl, count_nm, List.count_reverse]
    have e2 : (st.reverse.map nm).count ("]" : Str) = st.count .cb := by rw [show ("]" : Str) = nm .cb from rfl, count_nm, List.count_reverse]
    have e3 := Mi.cnt_count st
    have e4 : decide ((40 : Int) < (((st.reverse.map nm).count (")" : Str) : Nat) : Int) + (((st.reverse.map nm).count ("]" : Str) : Nat) : Int)) = decide (40 < Mi.cnt st) := by
      rw [e1, e2, ← e3]
      exact decide_eq_decide.mpr (by omega)
    rw [← e4] at k
    exact k
theorem aw_last (w : Mi.Sy) (r : List Mi.Sy) : ((w :: r).reverse.map fun k => V.str (nm k)) = (r.reverse.map fun k => V.str (nm k)) ++ [V.str (nm w)] := by simp
theorem aw_at (w : Mi.Sy) (r : List Mi.Sy) : atI ((w :: r).reverse.map fun k => V.str (nm k)) (-1) = some (V.str (nm w)) := by rw [aw_last]; exact atI_last _ _
theorem aw_pop (w : Mi.Sy) (r : List Mi.Sy) : ((w :: r).reverse.map fun k => V.str (nm k))[((w :: r).reverse.map fun k => V.str (nm k)).length - 1]? = some (V.str (nm w)) := by rw [aw_last]; simp
theorem aw_drop (w : Mi.Sy) (r : List Mi.Sy) : ((w :: r).reverse.map fun k => V.str (nm k)).dropLast = r.reverse.map fun k => V.str (nm k) := by rw [aw_last]; simp
theorem aw_cat (l st : List Mi.Sy) : (st.reverse.map fun k => V.str (nm k)) ++ (l.reverse.map fun k => V.str (nm k)) = (l ++ st).reverse.map fun k => V.str (nm k) := by simp
theorem eq_items {z : Mi.Sy} : decide (z = .items) = decide (V.str (nm z) = V.str "items") := decide_eq_decide.mpr (v_nm (b := .items)).symm
theorem eq_item {z : Mi.Sy} : decide (z = .item) = decide (V.str (nm z) = V.str "item") := decide_eq_decide.mpr (v_nm (b := .item)).symm
theorem starts_in {m : Str → Option Value} {z : Mi.Sy} (h : match Mi.starts z with | none => m (nm z) = none | some l => ∃ b, m (nm z) = some (.ref b) ∧ ∀ H, SqT K H b (l.reverse.map fun k => V.str (nm k))) :
    (if true = true then !(m (nm z)).isSome else (m (nm z)).isSome) = (Mi.starts z).isNone := by
  cases e : Mi.starts z with
  | none => rw [e] at h; rw [show m (nm z) = none from h]; rfl
  | some l => rw [e] at h; obtain ⟨b, hb, _⟩ := h; rw [hb]; rfl
theorem starts_in2 {m : Str → Option Value} {z : Mi.Sy} (h : match Mi.starts z with | none => m (nm z) = none | some l => ∃ b, m (nm z) = some (.ref b) ∧ ∀ H, SqT K H b (l.reverse.map fun k => V.str (nm k))) :
    (if false = true then !(m (nm z)).isSome else (m (nm z)).isSome) = (Mi.starts z).isSome := by
  cases e : Mi.starts z with
  | none => rw [e] at h; rw [show m (nm z) = none from h]; rfl
  | some l => rw [e] at h; obtain ⟨b, hb, _⟩ := h; rw [hb]; rfl
def spAwait2 : Sp := fun vs H Q _ => ∃ (k : Mi.Sy) (a : Addr) (st : List Mi.Sy), vs = [.str (nm k), .ref a] ∧ Mi.goodK k = true ∧ AwAt H a st ∧ st ≠ [] ∧ Mi.NoII st ∧ st.length ≤ 100000 ∧
  (∀ H' : Hp, Same H H' → Mi.step k st = none → Q .non H') ∧ ∀ (H' : Hp) (p : Addr) (st' : List Mi.Sy), Same H H' → Mi.step k st = some st' → AwAt H' p st' → Q (.ref p) H'
abbrev s_awaited_behind : Stmt := top 12
theorem sc_awaited_behind : FnScope ["kind", "awaited", "rest", "wanted"] ["kind", "awaited"] (defScope s_awaited_behind) := ⟨rfl, rfl, rfl, by decide +kernel, rfl, by decide +kernel, by decide +kernel⟩
theorem bi_awaited_behind (kV doc pm : Value) (an : Option Addr) (cdv ct : Value) (us : List Value) (hl : us.length = (["kind", "awaited"] : List Str).length) : bindArgs (PySem.W.fnOf "awaited_behind" "awaited_behind" (defArgs s_awaited_behind) (defBody s_awaited_behind) (defScope s_awaited_behind) .none kV doc pm an cdv ct) ⟨us, []⟩ = pure ((["kind", "awaited"] : List Str).zip us) := match us, hl with | [_, _], _ => rfl
theorem ok_awaited_behind (F : FnAt K mg "awaited_behind" s_awaited_behind) (T : Txt P w K mg aB aF aE aS aV) : Own P w K mg base "awaited_behind" 1 ["kind", "awaited"] spAwait2 := by
  refine Own.of F sc_awaited_behind bi_awaited_behind (fun vs H Q E h => ?_) (fun f cdv A outer s H vs Q E hr h => ?_)
  · obtain ⟨z, a, st, rfl, _⟩ := h
    rfl
  · obtain ⟨z, a, st, rfl, hz, hA, hne, hii, hlen, kN, kS⟩ := h
    obtain ⟨m, hm, hst⟩ := T.starts
    have hstz := hst z hz
    refine ⟨_, (pss_cons (ps_set (i := 2) sc_awaited_behind.nd rfl (Or.inl rfl) (pe_callTy call_list_of (by rfl) T.b_list bo_list (pa_cons (pv 1) pa_nil)))
      (pss_cons (ps_cut (ps_if (pt_cut (pw_and (pt_cmpR op_eq (pe_ix ix_list (pv 2) (pe_un un_neg pe_int) (fun _ _ => rfl)) pe_str (nomark _)) (pw_and1 (pt_cmp (pc_knotin (pv 0) (pe_gref (by rfl) T.g_ITEM_STARTS))))).pt)
        (pss_one (ps_expr (pe_bm0 PySem.F.plainAttrs_list PySem.F.slot_list_pop PySem.F.type_list_pop mt_pop (pv 2))))
        pss_nil))
      (pss_cons (ps_if (pt_cmpR (op_eqStrs hr.units) (pv 2) (pe_lst pa_nil) (nomark _))
        (pss_one (ps_ret pe_non))
        pss_nil)
      (pss_cons (ps_set (i := 3) sc_awaited_behind.nd rfl (Or.inl rfl) (pe_ix ix_list (pv 2) (pe_un un_neg pe_int) (fun _ _ => rfl)))
      (pss_cons (ps_if (pt_cmpR op_eq (pv 3) pe_str (nomark _))
        (pss_one (ps_ret (pe_op op_cat (pv 2) (pe_callTy call_list_of (by rfl) T.b_list bo_list (pa_cons (pe_kget (pe_gref (by rfl) T.g_ITEM_STARTS) (pv 0) (fun _ _ => rfl)) pa_nil)))))
        pss_nil)
      (pss_cons (ps_expr (pe_bm0 PySem.F.plainAttrs_list PySem.F.slot_list_pop PySem.F.type_list_pop mt_pop (pv 2)))
      (pss_cons (ps_if (pt_cut (pw_and (pt_cmpR op_eq (pv 3) pe_str (nomark _)) (pw_and1 (pt_cmp (pc_kin (pv 0) (pe_gref (by rfl) T.g_ITEM_STARTS))))).pt)
        (pss_one (ps_ret (pe_op op_cat (pv 2) (pe_callTy call_list_of (by rfl) T.b_list bo_list (pa_cons (pe_kget (pe_gref (by rfl) T.g_ITEM_STARTS) (pv 0) (fun _ _ => rfl)) pa_nil)))))
        pss_nil)
      (pss_cons (ps_if (pt_cmpR op_eq (pv 3) (pv 0) (nomark _))
        (pss_one (ps_ret (pv 2)))
        pss_nil)
      (pss_one (ps_ret pe_non)))))))))), ?_⟩
    obtain ⟨v, r, rfl⟩ := cons_of hne
    refine ⟨_, rfl, a, _, rfl, .inl (SqL.of hA), fun p hp => ?_⟩
    generalize eH : upd H p (.lst ((v :: r).reverse.map fun k => V.str (nm k))) = H1
    have s1 : Same H H1 := by rw [← eH]; exact same_new hp
    have hp1 : AwAt H1 p (v :: r) := by rw [← eH]; exact upd_same
    refine ⟨fun σ' H' => ∃ st2 : List Mi.Sy, σ' = [some (.str (nm z)), some (.ref a), some (.ref p), none] ∧ Same H H' ∧ AwAt H' p st2 ∧ st2.length ≤ 100000 ∧ (st2 = [] → Mi.step z (v :: r) = none) ∧
      ∀ u q, st2 = u :: q → Mi.step z (v :: r) = Mi.step z (u :: q) ∧ (u = .items → Mi.starts z ≠ none), ?_, ?_⟩
    · refine ⟨fun b H' => H1 = H' ∧ b = (decide (v = .items) && (Mi.starts z).isNone), ?_, ?_⟩
      · refine ⟨_, rfl, _, rfl, p, _, _, _, rfl, rfl, SqL.of hp1, aw_at v r, rfl, _, rfl, ite2 (fun h => ?_) (fun h => ⟨rfl, ?_⟩)⟩
        · refine ⟨_, rfl, aS, nm z, m, rfl, rfl, hm, _, rfl, rfl, ?_⟩
          rw [eq_items, h, Bool.true_and]
          exact starts_in hstz
        · rw [eq_items, (by simpa using h : decide (V.str (nm v) = V.str "items") = false), Bool.false_and]
      rintro _ _ ⟨rfl, rfl⟩
      refine ite2 (fun h => ?_) (fun h => ?_)
      · simp only [Bool.and_eq_true, decide_eq_true_eq, Option.isNone_iff_eq_none] at h
        obtain ⟨rfl, e⟩ := h
        refine ⟨_, rfl, .inl ⟨rfl, _, SqL.of hp1⟩, p, _, _, rfl, rfl, hp1, aw_pop _ _, ?_⟩
        rw [aw_drop]
        refine ⟨r, rfl, Same.put s1 hp, upd_same, by simp at hlen; omega, fun q => by subst q; simp [Mi.step, e], fun u q eu => ?_⟩
        subst eu
        have hu : u ≠ .items := fun q => hii.1 ⟨rfl, q⟩
        refine ⟨?_, fun q => absurd q hu⟩
        by_cases hu2 : u = .item
        · subst hu2
          have : ¬ Mi.Sy.item = z := fun q => by subst q; simp [Mi.goodK] at hz
          simp [Mi.step, e, this]
        · rw [Mi.step_other hu hu2]
          simp [Mi.step, e]
      · refine ⟨v :: r, rfl, s1, hp1, hlen, fun q => (by cases q), fun u q eu => ?_⟩
        cases eu
        refine ⟨rfl, fun q e => h ?_⟩
        simp [q, e]
    rintro σ H2 ⟨st2, rfl, s2, h2, hl2, h0, h1⟩
    have hs2 : SqL K H2 p ((st2.reverse.map nm).map V.str) := h2.strs
    refine ⟨_, rfl, Nat.zero_le _, fun q hq => ⟨p, q, st2.reverse.map nm, [], rfl, rfl, (same_new hq).seq hs2, SqL.of upd_same, nms_ok _, rfl, _, rfl, ?_⟩⟩
    generalize eH3 : upd H2 q (.lst []) = H3
    have s3 : Same H H3 := by rw [← eH3]; exact s2.trans (same_new hq)
    have hp3 : AwAt H3 p st2 := by rw [← eH3]; exact (same_new hq) _ _ h2
    cases st2 with
    | nil => exact iteT (kN H3 s3 (h0 rfl))
    | cons u q2 =>
      obtain ⟨e1, e2⟩ := h1 u q2 rfl
      refine ite2 (fun h => absurd (of_decide_eq_true h) (by simp)) (fun _ => ?_)
      refine ⟨_, rfl, _, rfl, p, _, _, _, rfl, rfl, SqL.of hp3, aw_at u q2, ?_⟩
      refine ⟨_, rfl, rfl, _, rfl, ite2 (fun h => ?_) (fun h => ?_)⟩
      · have hu : u = .items := v_nm.mp (of_decide_eq_true h)
        subst hu
        cases e : Mi.starts z with
        | none => exact absurd e (e2 rfl)
        | some l =>
          rw [e] at hstz
          obtain ⟨b, hb, hbt⟩ := hstz
          refine ⟨_, rfl, _, rfl, aS, nm z, m, .ref b, _, rfl, rfl, hm, hb, rfl, b, _, rfl, .inr (hbt H3), fun d hd => ?_⟩
          refine ⟨p, d, _, _, rfl, rfl, (same_new hd) _ _ hp3, upd_same, ?_, fun g hg => ?_⟩
          · have := Mi.starts_len z e
            simp only [List.length_map, List.length_reverse]
            exact Nat.le_trans (Nat.add_le_add hl2 this) (show 100000 + 6 ≤ sizeLine by decide)
          · refine kS _ g (l ++ .items :: q2) ((s3.trans (same_new hd)).trans (same_new hg)) (by rw [e1]; simp [Mi.step, e]) ?_
            show upd _ _ _ g = _
            rw [upd_same, aw_cat]
      have hu : u ≠ .items := fun q => h (by subst q; exact decide_eq_true rfl)
      refine ⟨_, rfl, .inl ⟨rfl, _, SqL.of hp3⟩, p, _, _, rfl, rfl, hp3, aw_pop _ _, ?_⟩
      rw [aw_drop]
      generalize eH4 : upd H3 p (.lst (q2.reverse.map fun k => V.str (nm k))) = H4
      have s4 : Same H H4 := by rw [← eH4]; exact Same.put s3 hp
      have hp4 : AwAt H4 p q2 := by rw [← eH4]; exact upd_same
      refine ⟨fun b H' => H4 = H' ∧ b = (decide (u = .item) && (Mi.starts z).isSome), ?_, ?_⟩
      · refine ⟨_, rfl, rfl, _, rfl, ite2 (fun h => ?_) (fun h => ⟨rfl, ?_⟩)⟩
        · refine ⟨_, rfl, aS, nm z, m, rfl, rfl, hm, _, rfl, rfl, ?_⟩
          rw [eq_item, h, Bool.true_and]
          exact starts_in2 hstz
        · rw [eq_item, (by simpa using h : decide (V.str (nm u) = V.str "item") = false), Bool.false_and]
      rintro _ _ ⟨rfl, rfl⟩
      refine ite2 (fun h => ?_) (fun h => ?_)
      · simp only [Bool.and_eq_true, decide_eq_true_eq] at h
        obtain ⟨rfl, hs⟩ := h
        obtain ⟨l, e⟩ := Option.isSome_iff_exists.mp hs
        rw [e] at hstz
        obtain ⟨b, hb, hbt⟩ := hstz
        refine ⟨_, rfl, _, rfl, aS, nm z, m, .ref b, _, rfl, rfl, hm, hb, rfl, b, _, rfl, .inr (hbt _), fun d hd => ?_⟩
        refine ⟨p, d, _, _, rfl, rfl, (same_new hd) _ _ hp4, upd_same, ?_, fun g hg => ?_⟩
        · have := Mi.starts_len z e
          simp only [List.length_map, List.length_reverse]
          simp only [List.length_cons] at hl2
          exact Nat.le_trans (Nat.add_le_add (Nat.le_of_succ_le hl2) this) (show 100000 + 6 ≤ sizeLine by decide)
        · refine kS _ g (l ++ q2) ((s4.trans (same_new hd)).trans (same_new hg)) (by rw [e1]; simp [Mi.step, e]) ?_
          show upd _ _ _ g = _
          rw [upd_same, aw_cat]
      · have el : Mi.step z (v :: r) = if u = z then some q2 else none := by
          rw [e1]
          by_cases hu2 : u = .item
          · subst hu2
            have hn : ¬ Mi.Sy.item = z := fun q => by subst q; simp [Mi.goodK] at hz
            have e : Mi.starts z = none := by simpa using h
            simp [Mi.step, e, hn]
          · exact Mi.step_other hu hu2
        refine ⟨_, rfl, _, rfl, rfl, _, rfl, ite2 (fun h => ?_) (fun h => ?_)⟩
        · have hu : u = z := v_nm.mp (of_decide_eq_true h)
          rw [if_pos hu] at el
          exact ⟨_, rfl, kS _ p q2 s4 el hp4⟩
        · have hu : u ≠ z := fun q => h (by subst q; exact decide_eq_true rfl)
          rw [if_neg hu] at el
          exact kN _ s4 el
abbrev s_fault_place : Stmt := top 11
theorem sc_fault_place : FnScope ["t", "awaited", "kind", "number", "place"] ["t"] (defScope s_fault_place) := ⟨rfl, rfl, rfl, by decide +kernel, rfl, by decide +kernel, by decide +kernel⟩
theorem bi_fault_place (kV doc pm : Value) (an : Option Addr) (cdv ct : Value) (us : List Value) (hl : us.length = (["t"] : List Str).length) : bindArgs (PySem.W.fnOf "fault_place" "fault_place" (defArgs s_fault_place) (defBody s_fault_place) (defScope s_fault_place) .none kV doc pm an cdv ct) ⟨us, []⟩ = pure ((["t"] : List Str).zip us) := match us, hl with | [_], _ => rfl
theorem ok_fault_place (F : FnAt K mg "fault_place" s_fault_place) (T : Txt P w K mg aB aF aE aS aV) (C_tokens_of : Own P w K mg base "tokens_of" 5 ["t"] (spTokens K)) (C_awaited_behind : Own P w K mg base "awaited_behind" 1 ["kind", "awaited"] spAwait2) (C_too_deep : Own P w K mg base "too_deep" 1 ["awaited"] spDeep) : Own P w K mg base "fault_place" 6 ["t"] (spFault K) := by
  refine Own.of F sc_fault_place bi_fault_place (fun vs H Q E h => ?_) (fun f cdv A outer s H vs Q E hr h => ?_)
  · obtain ⟨a, ns, rfl, _⟩ := h
    rfl
  · obtain ⟨a, ns, rfl, hS, hlen, kN, kS⟩ := h
    refine ⟨_, (pss_cons (ps_set (i := 1) sc_fault_place.nd rfl (Or.inl rfl) (pe_callTy call_list_of (by rfl) T.b_list bo_list (pa_cons (pe_gref (by rfl) T.g_EFFECT) pa_nil)))
      (pss_cons (ps_for PassesOwn.never rfl (pi_list (pe_own C_tokens_of (hr.mono (by decide)) (by rfl) (pa_cons (pv 0) pa_nil))) (pg_tup rfl (pgs_cons (pg_name (i := 2) sc_fault_place.nd rfl (Or.inl rfl)) (pgs_cons (pg_name (i := 3) sc_fault_place.nd rfl (Or.inl rfl)) (pgs_cons (pg_name (i := 4) sc_fault_place.nd rfl (Or.inl rfl)) pgs_nil))))
        (pss_cons (ps_set (i := 1) sc_fault_place.nd rfl (Or.inl rfl) (pe_own C_awaited_behind (hr.mono (by decide)) (by rfl) (pa_cons (pv 2) (pa_cons (pv 1) pa_nil))))
        (pss_one (ps_if (pt_cut (pw_or (pt_cmp (pc_isN (pv 1))) (pw_or1 (pt_val (pe_own C_too_deep (hr.mono (by decide)) (by rfl) (pa_cons (pv 1) pa_nil))))).pt)
          (pss_one (ps_ret (pv 4)))
          pss_nil))))
      (pss_cons (ps_if (pt_cmpR (op_eqStrs hr.units) (pv 1) (pe_lst (pa_cons pe_str pa_nil)) (nomark _))
        (pss_one (ps_ret pe_non))
        pss_nil)
      (pss_one (ps_ret (pe_callB call_len_seq (by rfl) T.b_len bo_len (pa_cons (pv 0) pa_nil))))))), ?_⟩
    refine ⟨aE, _, rfl, .inr (T.effect H), fun p hp => ?_⟩
    generalize eH : upd H p (.lst (Mi.start0.reverse.map fun k => V.str (nm k))) = H1
    have s1 : Same H H1 := by rw [← eH]; exact same_new hp
    have hp1 : AwAt H1 p Mi.start0 := by rw [← eH]; exact upd_same
    refine ⟨_, rfl, a, ns, rfl, s1.seq hS, by omega, fun H2 l s2 hl2 hT => ?_⟩
    obtain ⟨as, ha1, ha2⟩ := hT
    have s12 := s1.trans s2
    have htl : (Mi.toks 0 ns).length ≤ 1024 := Nat.le_trans (Mi.toks_len _ _ _) hlen
    have eF : Mi.fault ns = Mi.runT ns.length (Mi.toks 0 ns) Mi.start0 := rfl
    generalize hts : Mi.toks 0 ns = ts at ha2 htl eF
    have hgood : ∀ x ∈ ts, Mi.goodK x.1 = true := by rw [← hts]; exact Mi.toks_good 0 ns
    refine ⟨l, rfl, ⟨_, SqL.of ha1⟩, for_list (K := K) (a := l) (xs := as.map V.ref) (fun i σ H' => ∃ (b : Addr) (st : List Mi.Sy) (x y z : Option V), σ = [some (.ref a), some (.ref b), x, y, z] ∧ Same H2 H' ∧ AwAt H' b st ∧ Mi.Bot st ∧ Mi.NoII st ∧ st.length ≤ 5 + 6 * i ∧ Mi.fault ns = Mi.runT ns.length (ts.drop i) st)
      ⟨p, Mi.start0, none, none, none, rfl, Same.refl _, s2 _ _ hp1, Mi.start_bot, Mi.start_ii, Nat.le_refl _, eF⟩ (fun i σ H' _ ⟨_, _, _, _, _, _, s3, _⟩ => SqL.of (s3 _ _ ha1)) ?_ ?_⟩
    · rintro i y σ H3 hi ⟨b, st, x, y', z, rfl, s3, hA, hB, hI, hL, hF⟩
      obtain ⟨c, hc, rfl⟩ := map_at hi
      obtain ⟨tk, htk, hat⟩ := paired_get ha2 hc
      have hi2 : i < ts.length := (List.getElem?_eq_some_iff.mp htk).1
      have hg : Mi.goodK tk.1 = true := hgood tk (List.mem_of_getElem? htk)
      rw [Mi.drop_at htk] at hF
      simp only [Mi.runT] at hF
      refine ⟨c, _, rfl, SqT.of (s3 _ _ hat), rfl, _, _, rfl, _, _, rfl, _, _, rfl, rfl, ?_⟩
      refine ⟨_, rfl, _, rfl, tk.1, b, st, rfl, hg, hA, hB.ne, hI, by omega, fun H4 s4 hs => ?_, fun H4 d st' s4 hs hd => ?_⟩
      · rw [hs] at hF
        refine ⟨fun b H' => H4 = H' ∧ b = true, ⟨_, rfl, _, rfl, ⟨rfl, rfl⟩⟩, ?_⟩
        rintro _ _ ⟨rfl, rfl⟩
        exact ⟨_, rfl, kS _ _ ((s12.trans s3).trans s4) hF⟩
      · rw [hs] at hF
        obtain ⟨hB', hL'⟩ := Mi.step_bot hg hB hs
        refine ⟨fun b H' => H4 = H' ∧ b = decide (40 < Mi.cnt st'), ⟨_, rfl, _, rfl, ⟨_, rfl, d, st', rfl, hd, _, rfl, rfl, rfl⟩⟩, ?_⟩
        rintro _ _ ⟨rfl, rfl⟩
        refine ite2 (fun h => ?_) (fun h => ?_)
        · have h' := of_decide_eq_true h
          simp only [h', if_true] at hF
          exact ⟨_, rfl, kS _ _ ((s12.trans s3).trans s4) hF⟩
        · have h' : ¬ 40 < Mi.cnt st' := fun q => h (decide_eq_true q)
          simp only [h', if_false] at hF
          exact ⟨d, st', _, _, _, rfl, s3.trans s4, hd, hB', Mi.step_ii hI hs, by omega, hF⟩
    · rintro σ H3 ⟨b, st, x, y, z, rfl, s3, hA, hB, hI, hL, hF⟩
      rw [List.length_map, Paired.length ha2, List.drop_length] at hF
      have hsA : SqL K H3 b ((st.reverse.map nm).map V.str) := hA.strs
      have s13 := s12.trans s3
      refine ⟨_, rfl, by decide, fun q hq => ⟨b, q, st.reverse.map nm, ["items"], rfl, rfl, (same_new hq).seq hsA, SqL.of upd_same, nms_ok _, by decide +kernel, _, rfl, ite2 (fun h => ?_) (fun h => ?_)⟩⟩
      · have e : st = [.items] := by
          have q1 : st.reverse.map nm = [Mi.Sy.items].map nm := of_decide_eq_true h
          have q2 := nms_inj q1
          have q3 := congrArg List.reverse q2
          simpa using q3
        subst e
        exact kN _ (s13.trans (same_new (o := .lst [V.str "items"]) hq)) hF
      · have e : st ≠ [.items] := fun q => h (by subst q; exact decide_eq_true rfl)
        simp only [Mi.runT] at hF
        rw [if_neg e] at hF
        refine ⟨_, rfl, a, _, rfl, .inl ((s13.trans (same_new (o := .lst [V.str "items"]) hq)).seq hS), ?_⟩
        have k' := kS _ _ (s13.trans (same_new (o := .lst [V.str "items"]) hq)) hF
        rw [List.length_map]
        exact k'
abbrev s_refusal_of : Stmt := top 10
theorem sc_refusal_of : FnScope ["texts", "which", "text", "place"] ["texts"] (defScope s_refusal_of) := ⟨rfl, rfl, rfl, by decide +kernel, rfl, by decide +kernel, by decide +kernel⟩
theorem bi_refusal_of (kV doc pm : Value) (an : Option Addr) (cdv ct : Value) (us : List Value) (hl : us.length = (["texts"] : List Str).length) : bindArgs (PySem.W.fnOf "refusal_of" "refusal_of" (defArgs s_refusal_of) (defBody s_refusal_of) (defScope s_refusal_of) .none kV doc pm an cdv ct) ⟨us, []⟩ = pure ((["texts"] : List Str).zip us) := match us, hl with | [_], _ => rfl
theorem ok_refusal_of (F : FnAt K mg "refusal_of" s_refusal_of) (T : Txt P w K mg aB aF aE aS aV) (C_fault_place : Own P w K mg base "fault_place" 6 ["t"] (spFault K)) : Own P w K mg base "refusal_of" 7 ["texts"] (spRefusal K) := by
  refine Own.of F sc_refusal_of bi_refusal_of (fun vs H Q E h => ?_) (fun f cdv A outer s H vs Q E hr h => ?_)
  · obtain ⟨a, nss, rfl, _⟩ := h
    rfl
  · obtain ⟨a, nss, rfl, ⟨as, ha1, ha2⟩, hlen, kN, kS⟩ := h
    refine ⟨_, (pss_cons (ps_if (pt_val (pe_callB (cr_any rfl) (by rfl) T.b_any bo_any (pa_cons (pe_lc (own := [("text", 2)]) rfl sc_refusal_of.nd (pi_list (pv 0)) (blkOk_by (by show blkC ["texts", "which", "text", "place"] (defScope s_refusal_of) _ _ = true; decide +kernel)) (fun _ _ _ _ _ => (pg_name (i := 2) sc_refusal_of.nd rfl (Or.inl rfl))) (fun _ _ _ _ _ => pts_nil) (fun _ _ _ _ _ => (pe_cmpR op_gt (pe_callB (call_len_seqK (K := K) rfl) (by rfl) T.b_len bo_len (pa_cons (pv 2) pa_nil)) (pe_gint (by rfl) T.g_LONGEST) (nomark _)))) pa_nil)))
        (pss_one (ps_ret (pe_lst (pa_cons (pe_un un_neg pe_int) pa_nil))))
        pss_nil)
      (pss_cons (ps_for PassesOwn.never rfl (pi_enum1 (by rfl) T.b_enumerate (pa_cons (pv 0) pa_nil) pe_int) (pg_tup rfl (pgs_cons (pg_name (i := 1) sc_refusal_of.nd rfl (Or.inl rfl)) (pgs_cons (pg_name (i := 2) sc_refusal_of.nd rfl (Or.inl rfl)) pgs_nil)))
        (pss_cons (ps_set (i := 3) sc_refusal_of.nd rfl (Or.inl rfl) (pe_own C_fault_place (hr.mono (by decide)) (by rfl) (pa_cons (pv 2) pa_nil)))
        (pss_one (ps_if (pt_cmp (pc_notN (pv 3)))
          (pss_one (ps_ret (pe_lst (pa_cons (pe_un un_neg pe_int) (pa_cons (pv 1) (pa_cons (pv 3) pa_nil))))))
          pss_nil))))
      (pss_one (ps_ret pe_non)))), ?_⟩
    refine ⟨_, rfl, a, rfl, ⟨_, SqL.of ha1⟩, fun D hD => lc_list (K := K) (a := a) (xs := as.map V.ref) (fun i H' => Same H H' ∧ H' D = some (.lst (((nss.map fun ns => decide (1024 < ns.length)).take i).map V.bl))) ⟨same_new hD, upd_same⟩ (fun i H' _ q => SqL.of (q.1 _ _ ha1)) ?_ ?_⟩
    · rintro i y H' hi ⟨s1, hD'⟩
      obtain ⟨c, hc, rfl⟩ := map_at hi
      obtain ⟨ns, hns, hat⟩ := paired_get ha2 hc
      refine ⟨rfl, _, rfl, c, _, rfl, .inl (s1.seq hat), _, _, rfl, rfl, _, hD', ?_, Same.put s1 hD, ?_⟩
      · rw [List.length_map, List.length_take, List.length_map]
        exact Nat.lt_of_le_of_lt (Nat.le_trans (Nat.min_le_right _ _) hlen) (by decide)
      · rw [upd_same, take_snoc (l := nss.map fun ns => decide (1024 < ns.length)) (x := decide (1024 < ns.length)) (by rw [List.getElem?_map, hns]; rfl), List.map_append, List.length_map]
        have e : decide ((1024 : Int) < (ns.length : Int)) = decide (1024 < ns.length) := decide_eq_decide.mpr (by omega)
        show some (HO.lst (_ ++ [V.bl (decide ((1024 : Int) < (ns.length : Int)))])) = _
        rw [e]
        rfl
    rintro H1 ⟨s1, hD1⟩
    have hD2 : H1 D = some (.lst ((nss.map fun ns => decide (1024 < ns.length)).map V.bl)) := by
      rw [hD1, List.length_map, Paired.length ha2, ← List.length_map (as := nss) (f := fun ns => decide (1024 < ns.length)), List.take_length]
    refine ⟨D, _, rfl, SqL.of hD2, _, rfl, ite2 (fun h => ?_) (fun h => ?_)⟩
    · refine ⟨_, rfl, by decide, fun p hp => kS _ p [-6] (s1.trans (same_new hp)) ?_ upd_same⟩
      unfold Mi.refusals
      rw [if_pos h]
    · have eR : Mi.refusals nss = Mi.faults 1 nss := by
        unfold Mi.refusals
        rw [if_neg h]
      have hall : ∀ ns ∈ nss, ns.length ≤ 1024 := fun ns hm => by
        refine Nat.le_of_not_lt fun q => h ?_
        rw [List.any_map, List.any_eq_true]
        exact ⟨ns, hm, decide_eq_true q⟩
      refine ⟨_, rfl, a, _, rfl, rfl, SqL.of (s1 _ _ ha1), for_enum1 (K := K) (a := a) (xs := as.map V.ref) (fun i σ H' => ∃ (x y z : Option V), σ = [some (.ref a), x, y, z] ∧ Same H H' ∧ Mi.refusals nss = Mi.faults (i + 1) (nss.drop i))
        ⟨none, none, none, rfl, s1, eR⟩ (fun i σ H' _ ⟨_, _, _, _, s2, _⟩ => SqL.of (s2 _ _ ha1)) ?_ ?_⟩
      · rintro i y T' σ H2 hi ⟨x, y', z, rfl, s2, hF⟩ hT'
        obtain ⟨c, hc, rfl⟩ := map_at hi
        obtain ⟨ns, hns, hat⟩ := paired_get ha2 hc
        rw [Mi.drop_at hns] at hF
        simp only [Mi.faults] at hF
        have s3 : Same H (upd H2 T' (.tup [.int ((i + 1 : Nat) : Int), .ref c])) := s2.trans (same_new hT')
        refine ⟨T', _, rfl, SqT.of upd_same, rfl, _, _, rfl, _, _, rfl, rfl, ?_⟩
        refine ⟨_, rfl, c, ns, rfl, s3.seq hat, hall ns (List.mem_of_getElem? hns), fun H4 s4 hf => ?_, fun H4 p s4 hf => ?_⟩
        · rw [hf] at hF
          exact ⟨_, rfl, _, rfl, ⟨_, _, _, rfl, s3.trans s4, hF⟩⟩
        · rw [hf] at hF
          exact ⟨_, rfl, _, rfl, ⟨_, rfl, _, rfl, _, rfl, (by show 3 ≤ sizeLine; decide), fun q hq => kS _ q _ ((s3.trans s4).trans (same_new hq)) hF upd_same⟩⟩
      · rintro σ H2 ⟨x, y, z, rfl, s2, hF⟩
        rw [List.length_map, Paired.length ha2, List.drop_length] at hF
        exact kN H2 s2 hF
theorem TextsAt.one {H : Hp} {a p : Addr} {ns : List Int} (hS : IL K H a ns) (hp : H p = none) : TextsAt K (upd H p (.lst [.ref a])) p [ns] := ⟨[a], upd_same, .cons ((same_new hp).seq hS) .nil⟩
end
end Jd

set_option linter.all false
set_option Elab.async false
set_option maxRecDepth 100000
set_option maxHeartbeats 4000000
namespace Jd
open PySem PySem.Spec PyProof.Rows L2 W1
open PySem.W (Codec)
def spWeight : Sp := fun vs H Q _ => ∃ (l : Addr) (ts : List Mi.Tk), vs = [.ref l] ∧ ToksAt H l ts ∧ ts.length ≤ 2000 ∧ (∀ x ∈ ts, Mi.goodK x.1 = true) ∧ ∀ H' : Hp, Same H H' → Q (.int ((Mi.weightM ts : Nat) : Int)) H'
theorem isW_val (k : Mi.Sy) : Mi.isW k = (decide (V.str (nm k) = V.str "ROW") || (Mi.starts k).isSome) := by
  unfold Mi.isW
  rw [decide_eq_decide.mpr (v_nm (a := k) (b := .row)).symm]
  rfl
section
variable {P : Program} {w : World} {K : PySem.W.Frag} {mg : Str → Option Value} {base : Heap} {aB aF aE aS aV : Addr}
abbrev s_weight_of : Stmt := top 20
theorem sc_weight_of : FnScope ["tokens", "kind", "number", "place"] ["tokens"] (defScope s_weight_of) := ⟨rfl, rfl, rfl, by decide +kernel, rfl, by decide +kernel, by decide +kernel⟩
theorem bi_weight_of (kV doc pm : Value) (an : Option Addr) (cdv ct : Value) (us : List Value) (hl : us.length = (["tokens"] : List Str).length) : bindArgs (PySem.W.fnOf "weight_of" "weight_of" (defArgs s_weight_of) (defBody s_weight_of) (defScope s_weight_of) .none kV doc pm an cdv ct) ⟨us, []⟩ = pure ((["tokens"] : List Str).zip us) := match us, hl with | [_], _ => rfl
theorem ok_weight_of (F : FnAt K mg "weight_of" s_weight_of) (T : Txt P w K mg aB aF aE aS aV) : Own P w K mg base "weight_of" 1 ["tokens"] spWeight := by
  refine Own.of F sc_weight_of bi_weight_of (fun vs H Q E h => ?_) (fun f cdv A outer s H vs Q E hr h => ?_)
  · obtain ⟨l, ts, rfl, _⟩ := h
    rfl
  · obtain ⟨l, ts, rfl, ⟨as, ha1, ha2⟩, hlen, hgood, k⟩ := h
    obtain ⟨m, hm, hst⟩ := T.starts
    refine ⟨_, (pss_one (ps_ret (pe_callB call_len_seq (by rfl) T.b_len bo_len (pa_cons (pe_lc (own := [("kind", 1), ("number", 2), ("place", 3)]) rfl sc_weight_of.nd (pi_list (pv 0)) (blkOk_by (by show blkC ["tokens", "kind", "number", "place"] (defScope s_weight_of) _ _ = true; decide +kernel)) (fun _ _ _ _ _ => (pg_tupK (K := K) (n := 3) rfl rfl (pgs_cons (pg_name (i := 1) sc_weight_of.nd rfl (Or.inl rfl)) (pgs_cons (pg_name (i := 2) sc_weight_of.nd rfl (Or.inl rfl)) (pgs_cons (pg_name (i := 3) sc_weight_of.nd rfl (Or.inl rfl)) pgs_nil))))) (fun _ _ _ _ _ => (pts_one (pt_cut (pw_or (pt_cmpR op_eq (pv 1) pe_str (nomark _)) (pw_or1 (pt_cmp (pc_kinK (P := P) (w := w) (K := K) rfl rfl rfl (pv 1) (pe_gref (by rfl) T.g_ITEM_STARTS))))).pt))) (fun _ _ _ _ _ => (pv 1))) pa_nil)))), ?_⟩
    refine ⟨_, rfl, l, rfl, ⟨_, SqL.of ha1⟩, fun D hD => lc_list (K := K) (a := l) (xs := as.map V.ref) (fun i H' => Same H H' ∧ H' D = some (.lst (((ts.take i).filter fun x => Mi.isW x.1).map fun x => V.str (nm x.1)))) ⟨same_new hD, upd_same⟩ (fun i H' _ q => SqL.of (q.1 _ _ ha1)) ?_ ?_⟩
    · rintro i y H1 hi ⟨s1, hD1⟩
      obtain ⟨c, hc, rfl⟩ := map_at hi
      obtain ⟨tk, htk, hat⟩ := paired_get ha2 hc
      have hg : Mi.goodK tk.1 = true := hgood tk (List.mem_of_getElem? htk)
      have hstz := hst tk.1 hg
      refine ⟨c, _, rfl, SqT.of (s1 _ _ hat), rfl, _, _, rfl, _, _, rfl, _, _, rfl, rfl, rfl, ?_⟩
      refine ⟨fun b H' => H1 = H' ∧ b = Mi.isW tk.1, ?_, ?_⟩
      · refine ⟨_, rfl, rfl, _, rfl, ite2 (fun h => ⟨rfl, ?_⟩) (fun h => ⟨_, rfl, aS, nm tk.1, m, rfl, rfl, hm, _, rfl, rfl, ?_⟩)⟩
        · rw [isW_val, h]; rfl
        · rw [isW_val, (by simpa using h : decide (V.str (nm tk.1) = V.str "ROW") = false), Bool.false_or]
          exact starts_in2 hstz
      rintro _ _ ⟨rfl, rfl⟩
      refine ite2 (fun h => ⟨_, rfl, _, hD1, ?_, Same.put s1 hD, ?_⟩) (fun h => ⟨s1, ?_⟩)
      · rw [List.length_map]
        refine Nat.lt_of_le_of_lt (List.length_filter_le _ _) (Nat.lt_of_le_of_lt ?_ (show 2000 < sizeLine by decide))
        rw [List.length_take]
        omega
      · rw [upd_same, take_snoc htk, List.filter_append, List.filter_cons, if_pos h, List.filter_nil, List.map_append]
        rfl
      · rw [hD1, take_snoc htk, List.filter_append, List.filter_cons, if_neg h, List.filter_nil, List.append_nil]
    · rintro H1 ⟨s1, hD1⟩
      rw [List.length_map, Paired.length ha2, List.take_length] at hD1
      refine ⟨D, _, rfl, .inl (SqL.of hD1), ?_⟩
      have k' := k H1 s1
      rw [List.length_map]
      exact k'
end
end Jd

set_option linter.all false
set_option Elab.async false
set_option maxRecDepth 100000
set_option maxHeartbeats 4000000
namespace Jd
open PySem PySem.Spec PyProof.Rows L2 W1
open PySem.W (Codec)
def spWeightL (K : PySem.W.Frag) : Sp := fun vs H Q _ => ∃ (a : Addr) (ns : List Int), vs = [.ref a] ∧ IL K H a ns ∧ ns.length ≤ 2000 ∧ ∀ (H' : Hp) (p : Addr), Same H H' → H' p = some (.lst ((Mi.weightL ns).map V.int)) → Q (.ref p) H'
section
variable {P : Program} {w : World} {K : PySem.W.Frag} {mg : Str → Option Value} {base : Heap} {aB aF aE aS aV : Addr}
abbrev s_weight : Stmt := top 9
theorem sc_weight : FnScope ["t", "refusal"] ["t"] (defScope s_weight) := ⟨rfl, rfl, rfl, by decide +kernel, rfl, by decide +kernel, by decide +kernel⟩
theorem bi_weight (kV doc pm : Value) (an : Option Addr) (cdv ct : Value) (us : List Value) (hl : us.length = (["t"] : List Str).length) : bindArgs (PySem.W.fnOf "weight" "weight" (defArgs s_weight) (defBody s_weight) (defScope s_weight) .none kV doc pm an cdv ct) ⟨us, []⟩ = pure ((["t"] : List Str).zip us) := match us, hl with | [_], _ => rfl
theorem weight_body (C_refusal_of : Own P w K mg base "refusal_of" 7 ["texts"] (spRefusal K)) (C_tokens_of : Own P w K mg base "tokens_of" 5 ["t"] (spTokens K)) (C_weight_of : Own P w K mg base "weight_of" 1 ["tokens"] spWeight)
    (f : Addr) (cdv : Value) (A : Around) (outer : List Env) (s : Shared) (H : Hp) (vs : List V) (Q : VK) (E : XK) (hr : Room 7 (A.deeper (envOfC "weight" (defScope s_weight) s.heap.objs.size f cdv))) (h : spWeightL K vs H Q E) :
    ∃ t, PSs (cxOf CX0 P w K mg base ["t", "refusal"] "weight" (defScope s_weight) f cdv A outer s H E).nox (defBody s_weight) t ∧ t { nx := fun _ H' => Q .non H', rt := Q } (start ["t", "refusal"] vs) H := by
  obtain ⟨a, ns, rfl, hS, hlen, k⟩ := h
  refine ⟨_, (pss_cons (ps_set (i := 1) sc_weight.nd rfl (Or.inl rfl) (pe_own C_refusal_of (hr.mono (by decide)) (by rfl) (pa_cons (pe_lst (pa_cons (pv 0) pa_nil)) pa_nil)))
      (pss_cons (ps_if (pt_cmp (pc_notN (pv 1)))
        (pss_one (ps_ret (pv 1)))
        pss_nil)
      (pss_one (ps_ret (pe_lst (pa_cons (pe_own C_weight_of (hr.mono (by decide)) (by rfl) (pa_cons (pe_own C_tokens_of (hr.mono (by decide)) (by rfl) (pa_cons (pv 0) pa_nil)) pa_nil)) pa_nil)))))), ?_⟩
  refine ⟨_, rfl, (by show 1 ≤ sizeLine; decide), fun p0 hp0 => ?_⟩
  have s0 : Same H (upd H p0 (.lst [.ref a])) := same_new hp0
  refine ⟨p0, [ns], rfl, TextsAt.one hS hp0, (by show 1 ≤ 2; decide), fun H1 s1' hn => ?_, fun H1 p l s1' hs hp => ?_⟩
  · have s1 := s0.trans s1'
    rw [Mi.refusals_one] at hn
    have hl2 : ns.length ≤ 1024 := by
      unfold Mi.refusal at hn
      split at hn
      · cases hn
      · omega
    have htl : (Mi.toks 0 ns).length ≤ 1024 := Nat.le_trans (Mi.toks_len _ _ _) hl2
    refine ⟨_, rfl, _, rfl, ⟨_, rfl, a, ns, rfl, s1.seq hS, hlen, fun H2 l s2 hl hT => ?_⟩⟩
    refine ⟨l, Mi.toks 0 ns, rfl, hT, by omega, Mi.toks_good 0 ns, fun H3 s3 => ⟨(by show 1 ≤ sizeLine; decide), fun p hp => k _ p (((s1.trans s2).trans s3).trans (same_new hp)) ?_⟩⟩
    unfold Mi.weightL
    rw [hn]
    exact upd_same
  · have s1 := s0.trans s1'
    rw [Mi.refusals_one] at hs
    refine ⟨_, rfl, _, rfl, ⟨_, rfl, k H1 p s1 ?_⟩⟩
    unfold Mi.weightL
    rw [hs]
    exact hp
end
end Jd

set_option linter.all false
set_option Elab.async false
set_option maxRecDepth 100000
set_option maxHeartbeats 4000000
namespace Jd
open PySem PySem.Spec PyProof.Rows L2 W1
open PySem.W (Codec)
section
variable {P : Program} {w : World} {K : PySem.W.Frag} {mg : Str → Option Value} {base h : Heap} {aB aF aE aS aV aLe aHE aIE aPa : Addr}
theorem fnAt_mk {x : Str} {st : Stmt} {f : Addr} {oc kV dc pm cd ct : Value} {od an : Option Addr} {sl : Array (Option Value)} (X : K.In h) (G : h.Ns mainGlobals mg) (a : PySem.W.nsIn K mainGlobals x = some (some (.ref f)))
    (l : K.lookup f = some ⟨oc, od, .func (PySem.W.fnOf x x (defArgs st) (defBody st) (defScope st) .none kV dc pm an cd ct), sl⟩) (c : PySem.W.codeIn K cd x = true) (k : PySem.W.keepIn K (.ref f) = true) : FnAt K mg x st :=
  ⟨f, _, fun_mk l c k, PySem.W.mg_of X G a⟩
theorem gint_mk {x : Str} {i : Int} {t : Tok} (X : K.In h) (G : h.Ns mainGlobals mg) (a : PySem.W.nsIn K mainGlobals x = some (some (.int i t))) : ∃ t, mg x = some (.int i t) := ⟨t, PySem.W.mg_of X G a⟩
theorem sqt_mk {a : Addr} {xs : List V} {its : List Value} {od : Option Addr} {n : Nat} {sl : Array (Option Value)} (l : K.lookup a = some ⟨.type "tuple", od, .seq its.toArray n, sl⟩) (z : its.length ≤ sizeLine) (v : Vals xs its) (H : Hp) : SqT K H a xs :=
  .inr ⟨_, its.toArray, n, l, rfl, rfl, by rw [List.size_toArray]; exact z, v⟩
theorem is_nm (a b : Mi.Sy) (t : Tok) : Value.isStrOf (nm a) (.str (nm b) t) = decide (b = a) := by
  unfold Value.isStrOf
  rw [Bool.eq_iff_iff]
  simp only [beq_iff_eq, decide_eq_true_eq]
  exact ⟨fun e => nm_inj e, fun e => by rw [e]⟩
def entries (h1 h2 h3 h4 h5 h6 : Int) (t1 t2 t3 t4 t5 t6 : Tok) (b1 b2 b3 b4 b5 b6 : Addr) : List DictEntry :=
  [⟨h1, .str (nm .num) t1, .ref b1⟩, ⟨h2, .str (nm .bool) t2, .ref b2⟩, ⟨h3, .str (nm .ty) t3, .ref b3⟩, ⟨h4, .str (nm .list) t4, .ref b4⟩, ⟨h5, .str (nm .pair) t5, .ref b5⟩, ⟨h6, .str (nm .ob) t6, .ref b6⟩]
theorem starts_mk {h1 h2 h3 h4 h5 h6 : Int} {t1 t2 t3 t4 t5 t6 : Tok} {b1 b2 b3 b4 b5 b6 : Addr} {n : Nat} (lo : (aS == sysModules) = false)
    (l : K.lookup aS = some ⟨.type "dict", none, .dict (entries h1 h2 h3 h4 h5 h6 t1 t2 t3 t4 t5 t6 b1 b2 b3 b4 b5 b6).toArray n, #[]⟩) (hk : PySem.W.KeysLit w.params (entries h1 h2 h3 h4 h5 h6 t1 t2 t3 t4 t5 t6 b1 b2 b3 b4 b5 b6))
    (v1 : ∀ H, SqT K H b1 []) (v2 : ∀ H, SqT K H b2 []) (v3 : ∀ H, SqT K H b3 []) (v4 : ∀ H, SqT K H b4 [.str (nm .cp), .str (nm .item), .str (nm .op)]) (v5 : ∀ H, SqT K H b5 [.str (nm .cp), .str (nm .item), .str (nm .cm), .str (nm .item), .str (nm .op)])
    (v6 : ∀ H, SqT K H b6 [.str (nm .cb), .str (nm .items), .str (nm .row), .str (nm .to), .str (nm .items), .str (nm .row)]) :
    ∃ m : Str → Option Value, DicK P w K aS m ∧ ∀ k, Mi.goodK k = true → match Mi.starts k with
      | none => m (nm k) = none
      | some l => ∃ b, m (nm k) = some (.ref b) ∧ ∀ H, SqT K H b (l.reverse.map fun k => V.str (nm k)) := by
  refine ⟨fun k => findBy Value.isStrOf (entries h1 h2 h3 h4 h5 h6 t1 t2 t3 t4 t5 t6 b1 b2 b3 b4 b5 b6).toArray k, ⟨lo, fun h X => PySem.W.mapOf_K X l (by simpa using hk)⟩, fun k hk => ?_⟩
  have fb : ∀ k, findBy Value.isStrOf (entries h1 h2 h3 h4 h5 h6 t1 t2 t3 t4 t5 t6 b1 b2 b3 b4 b5 b6).toArray (nm k) = if k = .num then some (.ref b1) else if k = .bool then some (.ref b2) else if k = .ty then some (.ref b3) else if k = .list then some (.ref b4) else if k = .pair then some (.ref b5) else if k = .ob then some (.ref b6) else none := by
    intro k
    unfold findBy entries
    rw [List.find?_toArray]
    simp only [List.find?_cons, is_nm, List.find?_nil]
    cases k <;> rfl
  cases k <;> first
    | exact absurd hk (by decide)
    | exact fb _
    | exact ⟨_, fb _, v1⟩
    | exact ⟨_, fb _, v2⟩
    | exact ⟨_, fb _, v3⟩
    | exact ⟨_, fb _, v4⟩
    | exact ⟨_, fb _, v5⟩
    | exact ⟨_, fb _, v6⟩
theorem ok_weight_f {f : Addr} {fd : FuncData} (F : Fun K "weight" "weight" s_weight f fd) (T : Txt P w K mg aB aF aE aS aV) (C_refusal_of : Own P w K mg base "refusal_of" 7 ["texts"] (spRefusal K)) (C_tokens_of : Own P w K mg base "tokens_of" 5 ["t"] (spTokens K)) (C_weight_of : Own P w K mg base "weight_of" 1 ["tokens"] spWeight) :
    FnOk P w K mg base CX0 8 f fd ["t"] (spWeightL K) := F.ok sc_weight (fun vs H Q E h => by obtain ⟨a, ns, rfl, _⟩ := h; rfl) (fun cdv A outer s H vs Q E hr h => weight_body C_refusal_of C_tokens_of C_weight_of f cdv A outer s H vs Q E hr h)
theorem all_mk {fa f : Addr} {oc kV dc pm cd ct : Value} {od an : Option Addr} {sl : Array (Option Value)} (X : K.In h) (G : h.Ns mainGlobals mg) (hfa : mg "weight" = some (.ref fa)) (T : Txt P w K mg aB aF aE aS aV) (F_weight_of : FnAt K mg "weight_of" s_weight_of) (F_refusal_of : FnAt K mg "refusal_of" s_refusal_of) (F_fault_place : FnAt K mg "fault_place" s_fault_place) (F_awaited_behind : FnAt K mg "awaited_behind" s_awaited_behind) (F_too_deep : FnAt K mg "too_deep" s_too_deep) (F_tokens_of : FnAt K mg "tokens_of" s_tokens_of) (F_token_end : FnAt K mg "token_end" s_token_end) (F_kind_of : FnAt K mg "kind_of" s_kind_of) (F_number_of : FnAt K mg "number_of" s_number_of) (F_first_letter : FnAt K mg "first_letter" s_first_letter) (F_is_variable : FnAt K mg "is_variable" s_is_variable) (F_is_letter : FnAt K mg "is_letter" s_is_letter) (F_is_capital : FnAt K mg "is_capital" s_is_capital) (F_is_digit : FnAt K mg "is_digit" s_is_digit) (F_bytes_of : FnAt K mg "bytes_of" s_bytes_of)
    (a : PySem.W.nsIn K mainGlobals "weight" = some (some (.ref f))) (l : K.lookup f = some ⟨oc, od, .func (PySem.W.fnOf "weight" "weight" (defArgs s_weight) (defBody s_weight) (defScope s_weight) .none kV dc pm an cd ct), sl⟩) (c : PySem.W.codeIn K cd "weight" = true) (k : PySem.W.keepIn K (.ref f) = true) :
    ∃ fd : FuncData, (∀ (s : Shared) (us : List Value), us.length = (["t"] : List Str).length → BindsTo s fd ⟨us, []⟩ ((["t"] : List Str).zip us)) ∧ ∀ base : Heap, K.In base → base.Ns mainGlobals mg → FnOk P w K mg base CX0 8 fa fd ["t"] (spWeightL K) := by
  have e := hfa.symm.trans (PySem.W.mg_of X G a)
  cases e
  refine ⟨PySem.W.fnOf "weight" "weight" (defArgs s_weight) (defBody s_weight) (defScope s_weight) .none kV dc pm an cd ct, fun s us hu => match us, hu with | [_], _ => .of_eq rfl, fun base _ _ => ?_⟩
  have C_is_capital := ok_is_capital (P := P) (w := w) (base := base) F_is_capital
  have C_is_digit := ok_is_digit (P := P) (w := w) (base := base) F_is_digit
  have C_is_letter := ok_is_letter F_is_letter C_is_capital
  have C_bytes_of := ok_bytes_of (base := base) F_bytes_of T
  have C_first_letter := ok_first_letter (P := P) (w := w) (base := base) F_first_letter
  have C_is_variable := ok_is_variable F_is_variable T C_is_letter C_is_digit
  have C_kind_of := ok_kind_of F_kind_of T C_bytes_of C_is_variable C_is_capital
  have C_number_of := ok_number_of F_number_of T C_first_letter
  have C_token_end := ok_token_end F_token_end T C_bytes_of C_is_letter C_is_digit
  have C_tokens_of := ok_tokens_of F_tokens_of T C_token_end C_kind_of C_number_of
  have C_too_deep := ok_too_deep (base := base) F_too_deep T
  have C_awaited_behind := ok_awaited_behind (base := base) F_awaited_behind T
  have C_fault_place := ok_fault_place F_fault_place T C_tokens_of C_awaited_behind C_too_deep
  have C_refusal_of := ok_refusal_of F_refusal_of T C_fault_place
  have C_weight_of := ok_weight_of (base := base) F_weight_of T
  exact ok_weight_f (fun_mk (st := s_weight) l c k) T C_refusal_of C_tokens_of C_weight_of
end
end Jd
open PySem PySem.W PyProof.Rows
set_option maxRecDepth 100000 in
set_option maxHeartbeats 0 in
theorem PySem.Challenge.cw_stackeffects_s03_weight_holds : PySem.Challenge.rw_stackeffects_s03_weight.Holds := by
  w_on; k_headS; (case hw => exact ⟨[.list []], by decide +kernel, by decide +kernel⟩)
  k_fillS
  refine L2.walk_specK (r := PySem.Challenge.rw_stackeffects_s03_weight) (k := 8) (CX := L2.CX0) (ps := ["t"]) (sp := Jd.spWeightL) (by decide +kernel) rfl rfl ⟨rfl, by decide, by decide⟩ (fun w h Y => PySem.W.kIn_of Y) ?F ?S (fun _ _ _ _ z => z)
  case F =>
    intro w mg fa h Y KX G hmg
    refine' Jd.all_mk KX G hmg ⟨Jd.gint_mk KX G ?gL, Jd.gint_mk KX G ?gD, Jd.gint_mk KX G ?gT, PySem.W.mg_of KX G ?gB, PySem.W.mg_of KX G ?gF, PySem.W.mg_of KX G ?gE, PySem.W.mg_of KX G ?gS, Jd.sqt_mk ?lB ?zB ?vB, Jd.sqt_mk ?lF ?zF ?vF, Jd.sqt_mk ?lE ?zE ?vE, Jd.starts_mk ?lo ?lS ?kS (Jd.sqt_mk ?l1 ?z1 ?v1) (Jd.sqt_mk ?l2 ?z2 ?v2) (Jd.sqt_mk ?l3 ?z3 ?v3) (Jd.sqt_mk ?l4 ?z4 ?v4) (Jd.sqt_mk ?l5 ?z5 ?v5) (Jd.sqt_mk ?l6 ?z6 ?v6), PySem.W.mg_of KX G ?gV, Jd.sqt_mk ?lV ?zV ?vV, PySem.W.mg_none_of KX G ?nany, PySem.W.mg_none_of KX G ?nenum, PySem.W.mg_none_of KX G ?nlen, PySem.W.mg_none_of KX G ?nmax, PySem.W.mg_none_of KX G ?nall, PySem.W.mg_none_of KX G ?nord, PySem.W.mg_none_of KX G ?nlist⟩ (Jd.fnAt_mk KX G ?a_weight_of ?l_weight_of ?c_weight_of ?k_weight_of) (Jd.fnAt_mk KX G ?a_refusal_of ?l_refusal_of ?c_refusal_of ?k_refusal_of) (Jd.fnAt_mk KX G ?a_fault_place ?l_fault_place ?c_fault_place ?k_fault_place) (Jd.fnAt_mk KX G ?a_awaited_behind ?l_awaited_behind ?c_awaited_behind ?k_awaited_behind) (Jd.fnAt_mk KX G ?a_too_deep ?l_too_deep ?c_too_deep ?k_too_deep) (Jd.fnAt_mk KX G ?a_tokens_of ?l_tokens_of ?c_tokens_of ?k_tokens_of) (Jd.fnAt_mk KX G ?a_token_end ?l_token_end ?c_token_end ?k_token_end) (Jd.fnAt_mk KX G ?a_kind_of ?l_kind_of ?c_kind_of ?k_kind_of) (Jd.fnAt_mk KX G ?a_number_of ?l_number_of ?c_number_of ?k_number_of) (Jd.fnAt_mk KX G ?a_first_letter ?l_first_letter ?c_first_letter ?k_first_letter) (Jd.fnAt_mk KX G ?a_is_variable ?l_is_variable ?c_is_variable ?k_is_variable) (Jd.fnAt_mk KX G ?a_is_letter ?l_is_letter ?c_is_letter ?k_is_letter) (Jd.fnAt_mk KX G ?a_is_capital ?l_is_capital ?c_is_capital ?k_is_capital) (Jd.fnAt_mk KX G ?a_is_digit ?l_is_digit ?c_is_digit ?k_is_digit) (Jd.fnAt_mk KX G ?a_bytes_of ?l_bytes_of ?c_bytes_of ?k_bytes_of) ?a_weight ?l_weight ?c_weight ?k_weight
    (case gL => k_is)
    (case gD => k_is)
    (case gT => k_is)
    (case gB => k_is)
    (case gF => k_is)
    (case gE => k_is)
    (case gS => k_is)
    (case gV => k_is)
    (case lB => k_is)
    (case zB => decide)
    (case vB => repeat (first | exact .nil | refine .cons ⟨_, rfl⟩ ?_))
    (case lF => k_is)
    (case zF => decide)
    (case vF => repeat (first | exact .nil | refine .cons ⟨_, rfl⟩ ?_))
    (case lE => k_is)
    (case zE => decide)
    (case vE => repeat (first | exact .nil | refine .cons ⟨_, rfl⟩ ?_))
    (case lV => k_is)
    (case zV => decide)
    (case vV => repeat (first | exact .nil | refine .cons ⟨_, rfl⟩ ?_))
    (case lS => k_is)
    (case lo => decide)
    (case kS => exact ⟨⟨_, _, rfl, rfl⟩, ⟨_, _, rfl, rfl⟩, ⟨_, _, rfl, rfl⟩, ⟨_, _, rfl, rfl⟩, ⟨_, _, rfl, rfl⟩, ⟨_, _, rfl, rfl⟩, trivial⟩)
    (case l1 => k_is)
    (case z1 => decide)
    (case v1 => repeat (first | exact .nil | refine .cons ⟨_, rfl⟩ ?_))
    (case l2 => k_is)
    (case z2 => decide)
    (case v2 => repeat (first | exact .nil | refine .cons ⟨_, rfl⟩ ?_))
    (case l3 => k_is)
    (case z3 => decide)
    (case v3 => repeat (first | exact .nil | refine .cons ⟨_, rfl⟩ ?_))
    (case l4 => k_is)
    (case z4 => decide)
    (case v4 => repeat (first | exact .nil | refine .cons ⟨_, rfl⟩ ?_))
    (case l5 => k_is)
    (case z5 => decide)
    (case v5 => repeat (first | exact .nil | refine .cons ⟨_, rfl⟩ ?_))
    (case l6 => k_is)
    (case z6 => decide)
    (case v6 => repeat (first | exact .nil | refine .cons ⟨_, rfl⟩ ?_))
    (case nany => k_is)
    (case nenum => k_is)
    (case nlen => k_is)
    (case nmax => k_is)
    (case nall => k_is)
    (case nord => k_is)
    (case nlist => k_is)
    (case a_weight_of => k_is); (case l_weight_of => k_is); (case c_weight_of => k_is); (case k_weight_of => k_is)
    (case a_refusal_of => k_is); (case l_refusal_of => k_is); (case c_refusal_of => k_is); (case k_refusal_of => k_is)
    (case a_fault_place => k_is); (case l_fault_place => k_is); (case c_fault_place => k_is); (case k_fault_place => k_is)
    (case a_awaited_behind => k_is); (case l_awaited_behind => k_is); (case c_awaited_behind => k_is); (case k_awaited_behind => k_is)
    (case a_too_deep => k_is); (case l_too_deep => k_is); (case c_too_deep => k_is); (case k_too_deep => k_is)
    (case a_tokens_of => k_is); (case l_tokens_of => k_is); (case c_tokens_of => k_is); (case k_tokens_of => k_is)
    (case a_token_end => k_is); (case l_token_end => k_is); (case c_token_end => k_is); (case k_token_end => k_is)
    (case a_kind_of => k_is); (case l_kind_of => k_is); (case c_kind_of => k_is); (case k_kind_of => k_is)
    (case a_number_of => k_is); (case l_number_of => k_is); (case c_number_of => k_is); (case k_number_of => k_is)
    (case a_first_letter => k_is); (case l_first_letter => k_is); (case c_first_letter => k_is); (case k_first_letter => k_is)
    (case a_is_variable => k_is); (case l_is_variable => k_is); (case c_is_variable => k_is); (case k_is_variable => k_is)
    (case a_is_letter => k_is); (case l_is_letter => k_is); (case c_is_letter => k_is); (case k_is_letter => k_is)
    (case a_is_capital => k_is); (case l_is_capital => k_is); (case c_is_capital => k_is); (case k_is_capital => k_is)
    (case a_is_digit => k_is); (case l_is_digit => k_is); (case c_is_digit => k_is); (case k_is_digit => k_is)
    (case a_bytes_of => k_is); (case l_bytes_of => k_is); (case c_bytes_of => k_is); (case k_bytes_of => k_is)
    (case a_weight => k_is); (case l_weight => k_is); (case c_weight => k_is); (case k_weight => k_is)
  case S =>
    intro K H xs a hO hwi hask hx
    cases hx with
    | cons h1 h2 =>
      cases h2
      cases h1 with
      | lst hs ha =>
        have e := L2.ints_dw a.1 _ ha
        subst e
        have q : ((Codec.inLen 0 2000 a.1 && a.1.all (Codec.inInt 0 255)) && true) = true := hwi
        rw [Bool.and_eq_true, Bool.and_eq_true] at q
        have hB : Mi.InB a.1 := fun z hz => Codec.inInt_iff.mp (List.all_eq_true.mp q.1.2 z hz)
        refine ⟨_, a.1, rfl, hs, (Codec.inNat_iff.mp q.1.1).2, fun H' p _ hp => ?_⟩
        show L2.Dw K H' (.ref p) (.list ((PyWqacdo.weight a.1).map WData.int))
        rw [Mi.weight_spec hB]
        exact .lst (L2.SqL.of hp) (L2.dw_ints _)
#print axioms PySem.Challenge.cw_stackeffects_s03_weight_holds

