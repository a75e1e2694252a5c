import PyProof.Rows.All
import Wide.All
import OpenK.AllK
import Wide.FinOn
import PyProof.EqAt
import PyProof.EqKinds
import PyProof.TupleCall
import KE.BitLaws
import PySem.Challenge.RW_cutexchange_k05_whole_order_and_reckonin
set_option Elab.async false
set_option linter.all false
set_option maxRecDepth 100000
namespace L2
open PySem PySem.Spec PyProof.Rows
/-- a key: an int or a str -/
abbrev Key := Sum Int Str
def keyIs : Key → Value → Bool
  | .inl k, v => Value.isInt k v
  | .inr x, v => Value.isStrOf x v
def keyH (w : World) : Key → Int
  | .inl k => hashInt k
  | .inr x => hashStr w x
theorem keyIs_shape : ∀ {k : Key} {v : Value}, keyIs k v = true → (∃ i t, k = Sum.inl i ∧ v = Value.int i t) ∨ (∃ x t, k = Sum.inr x ∧ v = Value.str x t)
  | .inl i, v, h => by
    obtain ⟨t, e⟩ := Value.isInt_shape (k := i) (v := v) h
    exact .inl ⟨i, t, rfl, e⟩
  | .inr x, v, h => by
    obtain ⟨t, e⟩ := Value.isStrOf_shape (x := x) (v := v) h
    exact .inr ⟨x, t, rfl, e⟩
theorem key_ll (a b : Int) : decide ((Sum.inl a : Key) = Sum.inl b) = (a == b) := by
  by_cases e : a = b
  · subst e; simp
  · have h : ¬ (Sum.inl a : Key) = Sum.inl b := fun q => e (Sum.inl.inj q)
    rw [decide_eq_false h]
    exact (beq_eq_false_iff_ne.mpr e).symm
theorem key_rr (a b : Str) : decide ((Sum.inr a : Key) = Sum.inr b) = decide (a = b) := by
  by_cases e : a = b
  · subst e; simp
  · have h : ¬ (Sum.inr a : Key) = Sum.inr b := fun q => e (Sum.inr.inj q)
    rw [decide_eq_false h, decide_eq_false e]
theorem key_lr (a : Int) (b : Str) : decide ((Sum.inl a : Key) = Sum.inr b) = false := decide_eq_false (fun q => nomatch q)
theorem key_rl (a : Str) (b : Int) : decide ((Sum.inr a : Key) = Sum.inl b) = false := decide_eq_false (fun q => nomatch q)
def mixKind (prog : Program) (w : World) : PySem.KeyKind prog w Key where
  is := keyIs
  hash := keyH w
  inj := fun v a b ha hb => by
    rcases keyIs_shape ha with ⟨i, t, rfl, rfl⟩ | ⟨x, t, rfl, rfl⟩
    · rcases keyIs_shape hb with ⟨j, u, rfl, e⟩ | ⟨y, u, rfl, e⟩
      · injection e with e1 _; rw [e1]
      · exact nomatch e
    · rcases keyIs_shape hb with ⟨j, u, rfl, e⟩ | ⟨y, u, rfl, e⟩
      · exact nomatch e
      · injection e with e1 _; rw [e1]
  byValue := fun k v h => by
    rcases keyIs_shape h with ⟨i, t, rfl, rfl⟩ | ⟨x, t, rfl, rfl⟩ <;> rfl
  pyHash := fun hv h => by
    rcases keyIs_shape hv with ⟨i, t, rfl, rfl⟩ | ⟨x, t, rfl, rfl⟩
    · exact wpAny_pyHash_int h
    · exact wpAny_pyHash_str h
  eqBool := fun hu hv h => by
    rcases keyIs_shape hu with ⟨i, t, rfl, rfl⟩ | ⟨x, t, rfl, rfl⟩
    · rcases keyIs_shape hv with ⟨j, u, rfl, rfl⟩ | ⟨y, u, rfl, rfl⟩
      · rw [key_ll] at h; exact wpAny_eqBool_int h
      · rw [key_lr] at h; exact SeqAt.EqAt.int_str i t y u _ _ _ _ h
    · rcases keyIs_shape hv with ⟨j, u, rfl, rfl⟩ | ⟨y, u, rfl, rfl⟩
      · rw [key_rl] at h; exact SeqAt.EqAt.str_int x t j u _ _ _ _ h
      · rw [key_rr] at h; exact wpAny_eqBool_str h
  «strs» := fun k x t v h => by
    rcases keyIs_shape h with ⟨i, u, rfl, e⟩ | ⟨y, u, rfl, e⟩
    · exact nomatch e
    · injection e with e1 _
      subst e1
      cases v <;> rfl
end L2
namespace L2
open PySem PySem.Spec PyProof.Rows
/-- a value, without the heap -/
inductive V where
  | non | bl (b : Bool) | int (i : Int) | str (x : Str) | byt (b : Array UInt8) | flt (b : UInt64) | ref (a : Addr) | ty (n : String)
  deriving DecidableEq
def RelV : V → Value → Prop
  | .non, u => u = Value.none
  | .bl b, u => u = Value.bool b
  | .int i, u => ∃ t, u = Value.int i t
  | .str x, u => ∃ t, u = Value.str x t
  | .byt b, u => ∃ t, u = Value.bytes b t
  | .flt b, u => ∃ t, u = Value.float b t
  | .ref a, u => u = Value.ref a
  | .ty n, u => u = Value.type n
abbrev Vals : List V → List Value → Prop := Paired RelV
theorem Vals.length {xs : List V} {us : List Value} (r : Vals xs us) : xs.length = us.length := Paired.length r
theorem Vals.get : ∀ {xs : List V} {us : List Value} {i : Nat} {x : V}, Vals xs us → xs[i]? = some x → ∃ u, us[i]? = some u ∧ RelV x u
  | _, _, _, _, .nil, e => by simp at e
  | _, _, 0, _, .cons r _, e => by simp at e; subst e; exact ⟨_, rfl, r⟩
  | _, _, i + 1, x, .cons _ t, e => by
    obtain ⟨u, h1, h2⟩ := Vals.get (i := i) (x := x) t (by simpa using e)
    exact ⟨u, by simpa using h1, h2⟩
theorem Vals.set {x : V} {u : Value} (r : RelV x u) : ∀ {xs : List V} {us : List Value} (i : Nat), Vals xs us → Vals (xs.set i x) (us.set i u)
  | _, _, _, .nil => .nil
  | _, _, 0, .cons _ t => .cons r t
  | _, _, i + 1, .cons q t => .cons q (Vals.set r i t)
theorem Vals.append : ∀ {xs ys : List V} {us ws : List Value}, Vals xs us → Vals ys ws → Vals (xs ++ ys) (us ++ ws)
  | _, _, _, _, .nil, s => s
  | _, _, _, _, .cons r t, s => .cons r (Vals.append t s)
theorem Vals.take : ∀ {xs : List V} {us : List Value} (n : Nat), Vals xs us → Vals (xs.take n) (us.take n)
  | _, _, 0, _ => .nil
  | _, _, _ + 1, .nil => .nil
  | _, _, n + 1, .cons r t => .cons r (Vals.take n t)
theorem Vals.drop : ∀ {xs : List V} {us : List Value} (n : Nat), Vals xs us → Vals (xs.drop n) (us.drop n)
  | _, _, 0, r => r
  | _, _, _ + 1, .nil => .nil
  | _, _, n + 1, .cons _ t => Vals.drop n t
def RelO : Option V → Option Value → Prop
  | some v, some u => RelV v u
  | none, none => True
  | _, _ => False
def KV {κ : Type} : List (κ × V) → List (κ × Value) → Prop := Paired fun (p : κ × V) (q : κ × Value) => p.1 = q.1 ∧ RelV p.2 q.2
/-- a key of a dict (00_mix): an int or a text -/
def kV : Key → V
  | .inl i => .int i
  | .inr x => .str x
/-- what stands at a tracked address -/
inductive HO where
  /-- a list -/
  | lst (xs : List V)
  /-- a tuple (never changes) -/
  | tup (xs : List V)
  /-- a dict whose keys are ints and texts; one whose keys are tuples of ints and texts (the empty one is both) -/
  | dK (kvs : List (Key × V)) | dT (kvs : List (List Key × V))
  /-- a set of ints: its members, its size -/
  | set (S : Int → Bool) (n : Nat)
  /-- an instance of the class at C, its dict at dx, its attributes -/
  | ins (C dx : Addr) (fs : List (Str × V))
  /-- the dict of the instance at x -/
  | own (x : Addr)
  /-- the dict of an exception -/
  | xd (fs : List (Str × V))
  /-- a bound method, f of x -/
  | met (f x : Addr)
  /-- a range object lo, lo + 1, .. below hi -/
  | rng (lo hi : Int)
  /-- a thing that is known to the object (the script; a dict while a loop walks it): read, never written while it is so -/
  | frz (o : Obj) (u : HO)
  /-- a code object's table -/
  | tbl (ps : Array Value)
  /-- any other thing, by what is true of its one object (a def of one's own: SetO a S n := HO.ext fun h => ..) -/
  | ext (φ : Heap → Prop)
abbrev Hp := Addr → Option HO
def upd (H : Hp) (a : Addr) (o : HO) : Hp := fun b => if b = a then some o else H b
theorem upd_same {H : Hp} {a : Addr} {o : HO} : upd H a o a = some o := by unfold upd; rw [if_pos rfl]
theorem upd_ne {H : Hp} {a b : Addr} {o : HO} (h : b ≠ a) : upd H a o b = H b := by unfold upd; rw [if_neg h]
/-- two objects of different content stand apart -/
theorem ne_of {H : Hp} {a b : Addr} {o u : HO} (h : H a = some o) (h' : H b = some u) (d : o ≠ u) : a ≠ b := by
  intro e; subst e; rw [h] at h'; exact d (Option.some.inj h')
theorem ne_of_none {H : Hp} {a b : Addr} {o : HO} (h : H a = some o) (h' : H b = none) : a ≠ b := by
  intro e; subst e; rw [h] at h'; cases h'
def IsTupD (h : Heap) (a : Addr) (items : Array Value) : Prop := ∃ o, h.get? a = some o ∧ o.cls = .type "tuple" ∧ o.dict = none ∧ ∃ n, o.data = .seq items n
theorem IsTupD.tup {h : Heap} {a : Addr} {items : Array Value} (x : IsTupD h a items) : IsTup h a items := let ⟨o, e, c, _, d⟩ := x; ⟨o, e, c, d⟩
theorem IsTupD.lt {h : Heap} {a : Addr} {items : Array Value} (x : IsTupD h a items) : a < h.objs.size := x.tup.lt
theorem IsTupD.new (h : Heap) (items : Array Value) : IsTupD (h.push { cls := .type "tuple", data := .seq items }) h.objs.size items := ⟨_, Heap.get?_push_size _ rfl, rfl, rfl, _, rfl⟩
section
variable (P : Program) (w : World)
def ObjOk (H : Hp) (h : Heap) (a : Addr) : HO → Prop
  | .lst xs => xs.length ≤ sizeLine ∧ ∃ (its : List Value) (n : Nat), Vals xs its ∧ h.get? a = some { cls := .type "list", data := .seq its.toArray n }
  | .tup xs => xs.length ≤ sizeLine ∧ ∃ its : List Value, Vals xs its ∧ IsTupD h a its.toArray
  | .dK kvs => kvs.length ≤ sizeLine ∧ (a == sysModules) = false ∧ ∃ vs, KV kvs vs ∧ h.DictOf (mixKind P w) a vs
  | .dT kvs => kvs.length ≤ sizeLine ∧ (a == sysModules) = false ∧ ∃ xs : List (List Key × Addr × Value),
      Paired (fun (p : List Key × V) (q : List Key × Addr × Value) => p.1 = q.1 ∧ H q.2.1 = some (.tup (p.1.map kV)) ∧ RelV p.2 q.2.2) kvs xs ∧
      ∃ o es ep, h.get? a = some o ∧ o.ExactDict ∧ o.data = .dict es ep ∧ es.toList = xs.map (entryOfKey (tupleKind (mixKind P w))) ∧ (xs.map (·.1)).Nodup
  | .set S n => h.SetOf (intKind P w) a S n
  | .ins C dx fs => H dx = some (.own a) ∧ fs.length ≤ 1000 ∧ dx ≠ a ∧ h.get? a = some (PySem.W.instObj C dx) ∧
      ∃ mA, h.Ns1 dx mA ∧ (∀ f, RelO (fs.lookup f) (mA f)) ∧ PySem.Within mA (fs.map (·.1))
  | .own _ => ∃ o, h.get? a = some o
  | .xd fs => ∃ mA, h.Ns1 a mA ∧ ∀ f, RelO (fs.lookup f) (mA f)
  | .rng lo hi => ∃ t u v, h.get? a = some { cls := .type "range", data := .fields #[.int lo t, .int hi u, .int 1 v] }
  | .frz o u => h.get? a = some o ∧ ObjOk H h a u
  | .tbl ps => h.get? a = some { cls := .none, data := .fields ps }
  | .met f x => h.get? a = some (PySem.W.methodObj (.ref f) (.ref x))
  | .ext φ => φ h ∧ (∃ o, h.get? a = some o) ∧ ∀ h1 h2 : Heap, φ h1 → (∀ o, h1.get? a = some o → h2.get? a = some o) → φ h2
/-- the abstract heap is held -/
def HOk (H : Hp) (h : Heap) : Prop := ∀ a o, H a = some o → ObjOk P w H h a o
end
section
variable {P : Program} {w : World} {H H' : Hp} {h h' : Heap} {a : Addr} {o : HO}
theorem ObjOk.lt (x : ObjOk P w H h a o) : a < h.objs.size := by
  cases o with
  | lst xs => obtain ⟨_, _, _, _, e⟩ := x; exact Heap.lt_size e
  | tup xs => obtain ⟨_, _, _, p⟩ := x; exact p.lt
  | dK kvs => obtain ⟨_, _, _, _, o, _, _, e, _⟩ := x; exact Heap.lt_size e
  | dT kvs => obtain ⟨_, _, _, _, o, _, _, e, _⟩ := x; exact Heap.lt_size e
  | set S n => obtain ⟨o, _, _, _, e, _⟩ := x; exact Heap.lt_size e
  | ins C dx fs => obtain ⟨_, _, _, e, _⟩ := x; exact Heap.lt_size e
  | own y => obtain ⟨_, e⟩ := x; exact Heap.lt_size e
  | xd fs => obtain ⟨_, ⟨_, _, _, e, _⟩, _⟩ := x; exact Heap.lt_size e
  | rng lo hi => obtain ⟨_, _, _, e⟩ := x; exact Heap.lt_size e
  | frz ob u => obtain ⟨e, _⟩ := x; exact Heap.lt_size e
  | tbl ps => exact Heap.lt_size (show h.get? a = some _ from x)
  | met f y => exact Heap.lt_size (show h.get? a = some _ from x)
  | ext φ => obtain ⟨_, ⟨_, e⟩, _⟩ := x; exact Heap.lt_size e
theorem Paired.mapP {α β : Type} {F G : α → β → Prop} : ∀ {l₁ : List α} {l₂ : List β}, Paired F l₁ l₂ → (∀ a b, F a b → G a b) → Paired G l₁ l₂
  | _, _, .nil, _ => .nil
  | _, _, .cons r t, f => .cons (f _ _ r) (Paired.mapP t f)
/-- what an object's description leans on: its own object, its own dict, the tuples -/
theorem ObjOk.stay (x : ObjOk P w H h a o) (k : ∀ b u, (b = a ∨ H b = some (.own a)) → h.get? b = some u → h'.get? b = some u)
    (ho : ∀ b, H b = some (.own a) → H' b = some (.own a)) (ht : ∀ b xs, H b = some (.tup xs) → H' b = some (.tup xs)) : ObjOk P w H' h' a o := by
  induction o with
  | lst xs => obtain ⟨z, its, n, r, e⟩ := x; exact ⟨z, its, n, r, k _ _ (.inl rfl) e⟩
  | tup xs => obtain ⟨z, its, r, ob, e, c⟩ := x; exact ⟨z, its, r, ob, k _ _ (.inl rfl) e, c⟩
  | dK kvs => obtain ⟨z, y, vs, r, ob, es, ep, e, c⟩ := x; exact ⟨z, y, vs, r, ob, es, ep, k _ _ (.inl rfl) e, c⟩
  | dT kvs =>
    obtain ⟨z, y, xs, r, ob, es, ep, e, c⟩ := x
    exact ⟨z, y, xs, Paired.mapP r fun p q z => ⟨z.1, ht _ _ z.2.1, z.2.2⟩, ob, es, ep, k _ _ (.inl rfl) e, c⟩
  | set S n => obtain ⟨ob, es, ep, t, e, c⟩ := x; exact ⟨ob, es, ep, t, k _ _ (.inl rfl) e, c⟩
  | ins C dx fs =>
    obtain ⟨d, z, ne, e, mA, ⟨od, es, ep, e2, c⟩, r⟩ := x
    exact ⟨ho _ d, z, ne, k _ _ (.inl rfl) e, mA, ⟨od, es, ep, k _ _ (.inr d) e2, c⟩, r⟩
  | own y => obtain ⟨ob, e⟩ := x; exact ⟨ob, k _ _ (.inl rfl) e⟩
  | xd fs => obtain ⟨mA, ⟨od, es, ep, e, c⟩, r⟩ := x; exact ⟨mA, ⟨od, es, ep, k _ _ (.inl rfl) e, c⟩, r⟩
  | rng lo hi => obtain ⟨t, u, v, e⟩ := x; exact ⟨t, u, v, k _ _ (.inl rfl) e⟩
  | frz ob u ih => obtain ⟨e, q⟩ := x; exact ⟨k _ _ (.inl rfl) e, ih q⟩
  | tbl ps =>
    have e : h.get? a = some { cls := .none, data := .fields ps } := x
    show h'.get? a = some { cls := .none, data := .fields ps }
    exact k a _ (.inl rfl) e
  | met f y =>
    have e : h.get? a = some (PySem.W.methodObj (.ref f) (.ref y)) := x
    show h'.get? a = some (PySem.W.methodObj (.ref f) (.ref y))
    exact k a _ (.inl rfl) e
  | ext φ => obtain ⟨p, ⟨o, e⟩, st⟩ := x; exact ⟨st _ _ p fun o q => k _ _ (.inl rfl) q, ⟨o, k _ _ (.inl rfl) e⟩, st⟩
theorem HOk.lt (x : HOk P w H h) (e : H a = some o) : a < h.objs.size := (x a o e).lt
theorem HOk.fresh (x : HOk P w H h) (e : h.objs.size ≤ a) : H a = none := by
  cases q : H a with
  | none => rfl
  | some u => exact absurd (Nat.lt_of_lt_of_le (x.lt q) e) (Nat.lt_irrefl _)
/-- every object of the heap is kept -/
theorem HOk.kept (x : HOk P w H h) (k : ∀ b u, h.get? b = some u → h'.get? b = some u) : HOk P w H h' := fun a o e =>
  (x a o e).stay (fun b u _ q => k b u q) (fun _ q => q) fun _ _ q => q
/-- a new object is laid and tracked -/
theorem HOk.laid (x : HOk P w H h) (k : ∀ b u, h.get? b = some u → h'.get? b = some u) (hp : h.objs.size ≤ a) (new : ObjOk P w (upd H a o) h' a o) : HOk P w (upd H a o) h' := fun b u e => by
  have hn := x.fresh hp
  by_cases hb : b = a
  · subst hb; rw [upd_same] at e; cases e; exact new
  · rw [upd_ne hb] at e
    exact (x b u e).stay (fun c v _ q => k c v q) (fun c q => by rw [upd_ne (ne_of_none q hn)]; exact q) fun c xs q => by rw [upd_ne (ne_of_none q hn)]; exact q
end
/-- what may be read as u: it is u, or a known u -/
def Rd (H : Hp) (a : Addr) (u : HO) : Prop := H a = some u ∨ ∃ o, H a = some (.frz o u)
theorem Rd.of {H : Hp} {a : Addr} {u : HO} (h : H a = some u) : Rd H a u := .inl h
theorem Rd.ok {P : Program} {w : World} {H : Hp} {h : Heap} {a : Addr} {u : HO} (r : Rd H a u) (x : HOk P w H h) : ObjOk P w H h a u := by
  rcases r with r | ⟨o, r⟩
  · exact x a u r
  · obtain ⟨_, q⟩ := x a _ r
    exact q
/-- what may be written -/
def Mut : Option HO → Prop
  | some (.lst _) => True
  | some (.dK _) => True
  | some (.dT _) => True
  | some (.set _ _) => True
  | some (.ins _ _ _) => True
  | some (.ext _) => True
  | _ => False
section
variable {P : Program} {w : World} {H : Hp} {h h' : Heap} {x e : Addr} {o' : HO}
/-- the object at e is changed: x itself, or the dict of the instance x -/
theorem HOk.write (ok : HOk P w H h) (mu : Mut (H x)) (he : e = x ∨ H e = some (.own x)) (k : ∀ b u, b ≠ e → h.get? b = some u → h'.get? b = some u) (heo : ∃ u, h'.get? e = some u)
    (new : ObjOk P w (upd H x o') h' x o') : HOk P w (upd H x o') h' := fun b u q => by
  have nown : ∀ c y, H c = some (.own y) → c ≠ x := fun c y r z => by subst z; rw [r] at mu; exact mu
  have ntup : ∀ c xs, H c = some (.tup xs) → c ≠ x := fun c xs r z => by subst z; rw [r] at mu; exact mu
  by_cases hb : b = x
  · subst hb; rw [upd_same] at q; cases q; exact new
  · rw [upd_ne hb] at q
    by_cases hbe : b = e
    · have q' : H b = some (.own x) := by
        rcases he with z | z
        · exact absurd (hbe.trans z) hb
        · rw [hbe]; exact z
      rw [q] at q'; cases q'
      obtain ⟨v, hv⟩ := heo
      exact ⟨v, by rw [hbe]; exact hv⟩
    · refine (ok b u q).stay (fun c v hc r => k c v ?_ r) (fun c r => by rw [upd_ne (nown c b r)]; exact r) fun c xs r => by rw [upd_ne (ntup c xs r)]; exact r
      rcases hc with rfl | hc
      · exact hbe
      · rintro rfl
        rcases he with z | z
        · exact nown c b hc z
        · rw [hc] at z; cases z; exact hb rfl
end
/-! ### kept unless tracked; of the frames at fs (the callers') the slots may change (an exception that passes writes there); of the records at ex (iterators) nothing is said -/
structure Un (fs ex : List Addr) (H H' : Hp) (h h' : Heap) : Prop where
  keep : ∀ b o, h.get? b = some o → H b = none → b ∉ fs → b ∉ ex → h'.get? b = some o
  slot : ∀ b o, h.get? b = some o → H b = none → b ∈ fs → b ∉ ex → ∃ sl, h'.get? b = some { o with slots := sl }
  free : ∀ b o, h.get? b = some o → H b = none → b ∉ ex → H' b = none
  there : ∀ b o, h.get? b = some o → b ∉ ex → ∃ o', h'.get? b = some o'
  tups : ∀ b xs, H b = some (.tup xs) → H' b = some (.tup xs)
  frzs : ∀ b o u, H b = some (.frz o u) → H' b = some (.frz o u)
  tbls : ∀ b ps, H b = some (.tbl ps) → ∃ more, H' b = some (.tbl (ps ++ more))
section
variable {fs fs' ex ex' : List Addr} {H H1 H2 : Hp} {h h1 h2 h' : Heap} {a x e : Addr} {o : HO}
theorem Un.any (u : Un fs ex H H1 h h1) {b : Addr} {ob : Obj} (q : h.get? b = some ob) (n : H b = none) (hx : b ∉ ex) : ∃ sl, h1.get? b = some { ob with slots := sl } := by
  by_cases hb : b ∈ fs
  · exact u.slot b ob q n hb hx
  · exact ⟨ob.slots, u.keep b ob q n hb hx⟩
theorem Un.trans (a : Un fs ex H H1 h h1) (b : Un fs ex H1 H2 h1 h2) : Un fs ex H H2 h h2 where
  keep := fun c ob q n hc hx => b.keep c ob (a.keep c ob q n hc hx) (a.free c ob q n hx) hc hx
  slot := fun c ob q n hc hx => by
    obtain ⟨sl, e1⟩ := a.slot c ob q n hc hx
    obtain ⟨sl', e2⟩ := b.slot c _ e1 (a.free c ob q n hx) hc hx
    exact ⟨sl', e2⟩
  free := fun c ob q n hx => by
    obtain ⟨o', e1⟩ := a.there c ob q hx
    exact b.free c o' e1 (a.free c ob q n hx) hx
  there := fun c ob q hx => by
    obtain ⟨o', e1⟩ := a.there c ob q hx
    exact b.there c o' e1 hx
  tups := fun c xs q => b.tups c xs (a.tups c xs q)
  frzs := fun c ob xs q => b.frzs c ob xs (a.frzs c ob xs q)
  tbls := fun c ps q => by
    obtain ⟨m1, e1⟩ := a.tbls c ps q
    obtain ⟨m2, e2⟩ := b.tbls c _ e1
    exact ⟨m1 ++ m2, by rw [e2, Array.append_assoc]⟩
theorem Un.kept (k : ∀ b u, h.get? b = some u → h'.get? b = some u) : Un fs ex H H h h' :=
  ⟨fun b ob q _ _ _ => k b ob q, fun b ob q _ _ _ => ⟨ob.slots, k b ob q⟩, fun _ _ _ n _ => n, fun b ob q _ => ⟨ob, k b ob q⟩, fun _ _ q => q, fun _ _ _ q => q, fun _ ps q => ⟨#[], by rw [q]; simp⟩⟩
theorem Un.refl : Un fs ex H H h h := Un.kept fun _ _ q => q
theorem Un.laid (k : ∀ b u, h.get? b = some u → h'.get? b = some u) (hp : h.objs.size ≤ a) (hn : H a = none) : Un fs ex H (upd H a o) h h' where
  keep := fun b u q _ _ _ => k b u q
  slot := fun b u q _ _ _ => ⟨u.slots, k b u q⟩
  free := fun b u q n _ => by rw [upd_ne (Nat.ne_of_lt (Nat.lt_of_lt_of_le (Heap.lt_size q) hp))]; exact n
  there := fun b u q _ => ⟨u, k b u q⟩
  tups := fun b xs q => by rw [upd_ne (ne_of_none q hn)]; exact q
  frzs := fun b u xs q => by rw [upd_ne (ne_of_none q hn)]; exact q
  tbls := fun b ps q => ⟨#[], by rw [upd_ne (ne_of_none q hn), q]; simp⟩
theorem Un.write (mu : Mut (H x)) (he : e = x ∨ H e = some (.own x)) (k : ∀ b u, b ≠ e → h.get? b = some u → h'.get? b = some u) (heo : ∃ u, h'.get? e = some u) : Un fs ex H (upd H x o) h h' := by
  have hx : ∀ b, H b = none → b ≠ x := fun b n z => by subst z; rw [n] at mu; exact mu
  have hb : ∀ b, H b = none → b ≠ e := fun b n z => by
    subst z
    rcases he with r | r
    · exact hx b n r
    · rw [n] at r; cases r
  have hm : ∀ b u, H b = some u → ¬ Mut (some u) → b ≠ x := fun b u q nm z => by subst z; rw [q] at mu; exact nm mu
  refine ⟨fun b u q n _ _ => k b u (hb b n) q, fun b u q n _ _ => ⟨u.slots, k b u (hb b n) q⟩, fun b u q n _ => by rw [upd_ne (hx b n)]; exact n, fun b u q _ => ?_,
    fun b xs q => by rw [upd_ne (hm b _ q fun z => z)]; exact q, fun b u xs q => by rw [upd_ne (hm b _ q fun z => z)]; exact q, fun b ps q => ⟨#[], by rw [upd_ne (hm b _ q fun z => z), q]; simp⟩⟩
  by_cases hbe : b = e
  · subst hbe; exact heo
  · exact ⟨u, k b u hbe q⟩
theorem Un.mono (u : Un fs ex H H1 h h1) (hs : ∀ b ∈ fs, b ∈ fs') (hx : ∀ b ∈ ex, b ∈ ex') : Un fs' ex' H H1 h h1 :=
  ⟨fun b ob q n hb he => u.keep b ob q n (fun z => hb (hs b z)) fun z => he (hx b z), fun _ _ q n _ he => u.any q n fun z => he (hx _ z), fun b ob q n he => u.free b ob q n fun z => he (hx b z), fun b ob q he => u.there b ob q fun z => he (hx b z), u.tups, u.frzs, u.tbls⟩
end
/-! ### the heap without what is tracked -/
def trk (h : Heap) (H : Hp) : List Addr := (List.range h.objs.size).filter fun a => (H a).isSome
def hidT (h : Heap) (H : Hp) : Heap := PySem.W.hideAll h (trk h H)
theorem hidT_size (h : Heap) (H : Hp) : (hidT h H).objs.size = h.objs.size := PySem.W.hideAll_size _ _
theorem hidT_get {h : Heap} {H : Hp} {b : Addr} {o : Obj} (e : h.get? b = some o) (n : H b = none) : (hidT h H).get? b = some o :=
  PySem.W.hideAll_get _ e fun hm => by
    have q : (H b).isSome = true := (List.mem_filter.mp hm).2
    rw [n] at q; simp at q
theorem of_hidT {h : Heap} {H : Hp} {b : Addr} {o : Obj} (e : (hidT h H).get? b = some o) : h.get? b = some o ∧ H b = none := by
  have e' : h.get? b = some o := PySem.W.of_hideAll (trk h H) e
  refine ⟨e', ?_⟩
  cases q : H b with
  | none => rfl
  | some x =>
    have hm : b ∈ trk h H := List.mem_filter.mpr ⟨List.mem_range.mpr (Heap.lt_size e'), by simp [q]⟩
    have z : (hidT h H).get? b = none := PySem.W.hideAll_none (trk h H) hm
    rw [z] at e; cases e
/-! ### OpenK's ledger, filled with every new object but one -/
def allNews (g h : Heap) (L : Addr) : List (Addr × Obj) := (List.range h.objs.size).filterMap fun a => if a = L ∨ (g.get? a).isSome = true then none else (h.get? a).map fun o => (a, o)
def rest (g h : Heap) (L d : Addr) : List (Addr × Obj) := (allNews g h L).filter fun p => decide (p.1 ≠ d)
end L2
namespace L2
open PySem PySem.Spec PyProof.Rows
/-- the module's facts, over the base: the heap at the law's entry without what is tracked there -/
structure Mod (K : PySem.W.Frag) (mg : Str → Option Value) (base : Heap) : Prop where
  kin : K.In base
  glob : base.Ns mainGlobals mg
  blt : ∃ mb, base.Ns builtinsNs mb ∧ ∀ x : Str, x ≠ "__name__" → mb x = bootBuiltins x
  nolimit : base.NoLimit
/-- the context: a def's body (or a comprehension's block) running. base: fixed through the whole law; s₀, H₀: the entry; outer: the frames whose slots others may change (a def's callers); stack: all frames that run;
   ex: iterators that were made ahead of the entry and are walked here (a comprehension's); fn: the names whose cells were made at the entry (a def: all; a comprehension's block: its own); calm: not within an except suite; pn: pins that every state bears; xe: what is wanted of an exception that leaves the code -/
structure Cx where
  prog : Program
  w : World
  K : PySem.W.Frag
  mg : Str → Option Value
  base : Heap
  A : Around
  N : List Str
  s_0 : Shared
  H_0 : Hp
  env : Env
  outer : List Env
  stack : List Env
  ex : List Addr
  fn : Str → Bool
  calm : Bool
  pn : List (Addr × Obj)
  xe : Value → Shared → Prop
/-- the callers' frames -/
def frs (l : List Env) : List Addr := l.filterMap (·.frame)
abbrev Cx.fs (X : Cx) : List Addr := frs X.outer
def Vis (sc : Scope) (x : Str) : Prop := sc.names.lookup x = some .local ∨ sc.names.lookup x = some .cell ∨ sc.names.lookup x = some .free
def Loc (sc : Scope) (x : Str) : Prop := sc.names.lookup x = some .local ∨ sc.names.lookup x = some .cell
def Look (env : Env) (h : Heap) (m : Str → Option Value) (x : Str) (u : Value) : Prop :=
  (env.kindOf x = some .local ∧ m x = some u) ∨ ((env.kindOf x = some .cell ∨ env.kindOf x = some .free) ∧ ∃ c, env.cells.lookup x = some c ∧ h.IsCell c (some u))
structure Cx.Ok (X : Cx) : Prop where
  mod : Mod X.K X.mg X.base
  kind : X.env.scope.kind = .function
  glob : X.env.globals = mainGlobals
  blt : X.env.builtins = builtinsNs
  above : X.s_0.heap.objs.size ≤ X.env.locals
  inj : ∀ x y c, X.env.cells.lookup x = some c → X.env.cells.lookup y = some c → x = y
  has : ∀ x, (X.env.kindOf x = some .cell ∨ X.env.kindOf x = some .free) → ∃ c, X.env.cells.lookup x = some c
  cab : ∀ x c, X.fn x = true → X.env.cells.lookup x = some c → X.s_0.heap.objs.size ≤ c
  hd : X.calm = true → X.A.handled = none
  frames : X.A.frames = some X.stack
  stk : X.stack = X.outer ∨ (X.stack = X.env :: X.outer ∧ X.env.frame = some X.env.locals)
  exf : ∀ b ∈ X.ex, b ≠ X.env.locals ∧ ∀ x c, X.env.cells.lookup x = some c → c ≠ b
  bs : ∀ b o, X.base.get? b = some o → X.s_0.heap.get? b = some o ∧ X.H_0 b = none
  bsz : X.base.objs.size ≤ X.s_0.heap.objs.size
  noex : ∀ b o, X.base.get? b = some o → b ∉ X.ex
  exfs : ∀ b ∈ X.ex, b ∉ X.fs
  funs : X.s_0.heap.FunFrames X.base X.outer
  frf : ∀ b ∈ X.fs, X.H_0 b = none
structure Inv (X : Cx) (pins : List (Addr × Obj)) (σ : List (Option V)) (H : Hp) (s : Shared) : Prop where
  ok : X.Ok
  os : s.os = X.s_0.os
  bare : AllBare s.gens
  base : Un X.fs X.ex X.H_0 H X.s_0.heap s.heap
  loc : ∃ m, s.heap.Ns X.env.locals m ∧ ∀ (i : Nat) (x : Str) (v : V), X.N[i]? = some x → σ[i]? = some (some v) → Vis X.env.scope x → ∃ u, RelV v u ∧ Look X.env s.heap m x u
  cell : ∀ x c, X.env.cells.lookup x = some c → ∃ v, s.heap.IsCell c v
  free : H X.env.locals = none
  freeC : ∀ x c, X.env.cells.lookup x = some c → H c = none
  pin : ∀ p ∈ X.pn ++ pins, s.heap.get? p.1 = some p.2 ∧ H p.1 = none ∧ p.1 ≠ X.env.locals ∧ p.1 ∉ X.fs ∧ ∀ v, p.2.data ≠ .cell v
  hok : HOk X.prog X.w H s.heap
  len : σ.length = X.N.length
section
variable {X : Cx} {pins : List (Addr × Obj)} {σ : List (Option V)} {H H' : Hp} {s : Shared} {h' : Heap}
theorem Cx.Ok.nofr (ok : X.Ok) {b : Addr} {o : Obj} (e : X.base.get? b = some o) : b ∉ X.fs := fun hb => by
  have := (ok.funs.mem hb).1
  rw [e] at this; cases this
theorem Inv.bs (I : Inv X pins σ H s) : ∀ b o, X.base.get? b = some o → s.heap.get? b = some o ∧ H b = none := fun b o e =>
  ⟨I.base.keep b o (I.ok.bs b o e).1 (I.ok.bs b o e).2 (I.ok.nofr e) (I.ok.noex b o e), I.base.free b o (I.ok.bs b o e).1 (I.ok.bs b o e).2 (I.ok.noex b o e)⟩
theorem Inv.bk (I : Inv X pins σ H s) : ∀ b o, X.base.get? b = some o → s.heap.get? b = some o := fun b o e => (I.bs b o e).1
theorem Inv.mod (I : Inv X pins σ H s) : Mod X.K X.mg X.base := I.ok.mod
theorem Inv.kIn (I : Inv X pins σ H s) : X.K.In s.heap := I.ok.mod.kin.keeps I.bk
theorem Inv.nolimit (I : Inv X pins σ H s) : s.heap.NoLimit := I.ok.mod.nolimit.keeps I.bk
theorem Inv.lt (I : Inv X pins σ H s) : X.env.locals < s.heap.objs.size := let ⟨_, hn, _⟩ := I.loc; hn.lt
theorem Inv.sz (I : Inv X pins σ H s) : X.s_0.heap.objs.size ≤ s.heap.objs.size := Nat.le_trans I.ok.above (Nat.le_of_lt I.lt)
theorem Inv.nofs (I : Inv X pins σ H s) {a : Addr} (h : s.heap.objs.size ≤ a) : a ∉ X.fs := fun hb => by
  obtain ⟨_, o, ho, _⟩ := I.ok.funs.mem hb
  exact absurd (Nat.lt_of_lt_of_le (Heap.lt_size ho) (Nat.le_trans I.sz h)) (Nat.lt_irrefl _)
theorem Inv.cne (I : Inv X pins σ H s) : ∀ x c, X.env.cells.lookup x = some c → c ≠ X.env.locals := fun x c e z => by
  obtain ⟨v, o, ho, hd⟩ := I.cell x c e
  obtain ⟨m, ⟨o', es, ep, ho', hd', _⟩, _⟩ := I.loc
  rw [z, ho'] at ho; cases ho; rw [hd'] at hd; cases hd
theorem Inv.funs (I : Inv X pins σ H s) : s.heap.FunFrames X.base X.outer := by
  have all : ∀ (l : List Env), (∀ b ∈ frs l, b ∈ X.fs) → X.s_0.heap.FunFrames X.base l → s.heap.FunFrames X.base l := by
    intro l
    induction l with
    | nil => intro _ _; trivial
    | cons env r ih =>
      intro hs hl
      obtain ⟨hk, ⟨L, o, hf, hn, ho, hd⟩, hr⟩ := hl
      have hL : L ∈ X.fs := hs L (by unfold frs; rw [List.filterMap_cons, hf]; exact List.mem_cons_self)
      obtain ⟨sl, e⟩ := I.base.slot L o ho (I.ok.frf L hL) hL fun z => I.ok.exfs L z hL
      exact ⟨hk, ⟨L, _, hf, hn, e, hd⟩, ih (fun b hb => hs b (by unfold frs; rw [List.filterMap_cons, hf]; exact List.mem_cons_of_mem _ hb)) hr⟩
  exact all X.outer (fun _ hb => hb) I.ok.funs
/-- the frames that run, for a call -/
theorem Inv.stack (I : Inv X pins σ H s) : s.heap.FunFrames X.base X.stack := by
  rcases I.ok.stk with e | ⟨e, hf⟩
  · rw [e]; exact I.funs
  · rw [e]
    obtain ⟨m, hn, _⟩ := I.loc
    refine .cons (by rw [I.ok.kind]; decide) hf hn ?_ I.funs
    exact Heap.get?_none_of_le (Nat.le_trans I.ok.bsz I.ok.above)
theorem Inv.stkSub (I : Inv X pins σ H s) : ∀ b ∈ frs X.stack, b ∈ X.env.locals :: X.fs := fun b hb => by
  rcases I.ok.stk with e | ⟨e, hf⟩
  · rw [e] at hb; exact List.mem_cons_of_mem _ hb
  · rw [e] at hb
    unfold frs at hb
    rw [List.filterMap_cons, hf] at hb
    exact hb
theorem Inv.stkFree (I : Inv X pins σ H s) : ∀ b ∈ frs X.stack, H b = none := fun b hb => by
  rcases List.mem_cons.mp (I.stkSub b hb) with e | hb
  · rw [e]; exact I.free
  · obtain ⟨_, o, ho, _⟩ := I.ok.funs.mem hb
    exact I.base.free b o ho (I.ok.frf b hb) fun z => I.ok.exfs b z hb
/-- THE STEP: the untracked objects but the frame and the records at ch are kept (the callers' frames up to slots), the frame's map is kept, the new abstract heap is held -/
theorem Inv.step {g' : Array GenState} {t' : Nat} {d' : Drawn} {ch : List Addr} (I : Inv X pins σ H s)
    (hch : ∀ b ∈ ch, (b ∈ X.ex ∨ X.s_0.heap.objs.size ≤ b) ∧ b ≠ X.env.locals ∧ (∀ x c, X.env.cells.lookup x = some c → c ≠ b) ∧ ∀ p ∈ X.pn ++ pins, p.1 ≠ b)
    (keep : ∀ b o, b ≠ X.env.locals → b ∉ X.fs → b ∉ ch → s.heap.get? b = some o → H b = none → h'.get? b = some o)
    (slot : ∀ b o, b ≠ X.env.locals → b ∈ X.fs → b ∉ ch → s.heap.get? b = some o → H b = none → ∃ sl, h'.get? b = some { o with slots := sl }) (free : ∀ b o, b ∉ ch → s.heap.get? b = some o → H b = none → H' b = none)
    (there : ∀ b o, b ∉ ch → s.heap.get? b = some o → ∃ o', h'.get? b = some o')
    (tups : ∀ b xs, H b = some (.tup xs) → H' b = some (.tup xs)) (frzs : ∀ b o u, H b = some (.frz o u) → H' b = some (.frz o u)) (tbls : ∀ b ps, H b = some (.tbl ps) → ∃ more, H' b = some (.tbl (ps ++ more)))
    (ns : ∀ m, s.heap.Ns X.env.locals m → h'.Ns X.env.locals m) (hok : HOk X.prog X.w H' h') (hg : AllBare g') :
    Inv X pins σ H' { s with heap := h', gens := g', drawn := d', toks := t' } := by
  have neL : ∀ b o, X.s_0.heap.get? b = some o → b ≠ X.env.locals := fun b o e => Nat.ne_of_lt (Nat.lt_of_lt_of_le (Heap.lt_size e) I.ok.above)
  have neC : ∀ b o, X.s_0.heap.get? b = some o → b ∉ X.ex → b ∉ ch := fun b o e hx hb => by
    rcases (hch b hb).1 with z | z
    · exact hx z
    · exact absurd (Nat.lt_of_lt_of_le (Heap.lt_size e) z) (Nat.lt_irrefl _)
  have cellK : ∀ x c, X.env.cells.lookup x = some c → ∀ v, s.heap.IsCell c v → h'.IsCell c v := fun x c e v ⟨o, ho, hd⟩ => by
    have nch : c ∉ ch := fun z => (hch c z).2.2.1 x c e rfl
    by_cases hc : c ∈ X.fs
    · obtain ⟨sl, q⟩ := slot c o (I.cne x c e) hc nch ho (I.freeC x c e)
      exact ⟨_, q, hd⟩
    · exact ⟨o, keep c o (I.cne x c e) hc nch ho (I.freeC x c e), hd⟩
  refine ⟨I.ok, I.os, hg, ⟨fun b o e n hb hx => ?_, fun b o e n hb hx => ?_, fun b o e n hx => ?_, fun b o e hx => ?_, fun b xs e => tups b xs (I.base.tups b xs e), fun b o xs e => frzs b o xs (I.base.frzs b o xs e), fun b ps e => ?_⟩, ?_, fun x c e => ?_, ?_, fun x c e => ?_, fun p hp => ?_, hok, I.len⟩
  · exact keep b o (neL b o e) hb (neC b o e hx) (I.base.keep b o e n hb hx) (I.base.free b o e n hx)
  · obtain ⟨sl, e1⟩ := I.base.slot b o e n hb hx
    obtain ⟨sl', e2⟩ := slot b _ (neL b o e) hb (neC b o e hx) e1 (I.base.free b o e n hx)
    exact ⟨sl', e2⟩
  · obtain ⟨o', e1⟩ := I.base.there b o e hx
    exact free b o' (neC b o e hx) e1 (I.base.free b o e n hx)
  · obtain ⟨o', e1⟩ := I.base.there b o e hx
    exact there b o' (neC b o e hx) e1
  · obtain ⟨m1, e1⟩ := I.base.tbls b ps e
    obtain ⟨m2, e2⟩ := tbls b _ e1
    exact ⟨m1 ++ m2, by rw [e2, Array.append_assoc]⟩
  · obtain ⟨m, hn, hl⟩ := I.loc
    refine ⟨m, ns m hn, fun i x v e1 e2 e3 => ?_⟩
    obtain ⟨u, r, l⟩ := hl i x v e1 e2 e3
    refine ⟨u, r, ?_⟩
    rcases l with l | ⟨k, c, e, z⟩
    · exact .inl l
    · exact .inr ⟨k, c, e, cellK x c e _ z⟩
  · obtain ⟨v, z⟩ := I.cell x c e
    exact ⟨v, cellK x c e v z⟩
  · obtain ⟨m, ⟨o, _, _, ho, _⟩, _⟩ := I.loc
    exact free _ o (fun z => (hch _ z).2.1 rfl) ho I.free
  · obtain ⟨v, o, ho, hd⟩ := I.cell x c e
    exact free c o (fun z => (hch c z).2.2.1 x c e rfl) ho (I.freeC x c e)
  · obtain ⟨e, n, ne, nf, d⟩ := I.pin p hp
    have nch : p.1 ∉ ch := fun z => (hch p.1 z).2.2.2 p hp rfl
    exact ⟨keep p.1 p.2 ne nf nch e n, free p.1 p.2 nch e n, ne, nf, d⟩
/-- .. where the frame's own object is kept too -/
theorem Inv.un {t' : Nat} (I : Inv X pins σ H s) (u : Un X.fs [] H H' s.heap h') (hok : HOk X.prog X.w H' h') : Inv X pins σ H' { s with heap := h', toks := t' } := by
  obtain ⟨m, ⟨o, es, ep, ho, r⟩, _⟩ := id I.loc
  obtain ⟨sl, hL⟩ := u.any ho I.free (by simp)
  exact I.step (g' := s.gens) (d' := s.drawn) (ch := []) (fun _ z => nomatch z) (fun b o _ hb _ e n => u.keep b o e n hb (by simp)) (fun b o _ hb _ e n => u.slot b o e n hb (by simp)) (fun b o _ e n => u.free b o e n (by simp)) (fun b o _ e => u.there b o e (by simp)) u.tups u.frzs u.tbls (fun m' hm => by
    obtain ⟨o', es', ep', ho', r'⟩ := hm
    rw [ho] at ho'; cases ho'
    exact ⟨_, es', ep', hL, r'⟩) hok I.bare
/-- behind a call (or a comprehension's block): the slots of this frame may have changed too, the records at ch may have turned -/
theorem Inv.call {g' : Array GenState} {t' : Nat} {d' : Drawn} {ch : List Addr} (I : Inv X pins σ H s) (u : Un (frs X.stack) ch H H' s.heap h') (hok : HOk X.prog X.w H' h') (hg : AllBare g')
    (hch : ∀ b ∈ ch, (b ∈ X.ex ∨ X.s_0.heap.objs.size ≤ b) ∧ b ≠ X.env.locals ∧ (∀ x c, X.env.cells.lookup x = some c → c ≠ b) ∧ ∀ p ∈ X.pn ++ pins, p.1 ≠ b) :
    Inv X pins σ H' { s with heap := h', gens := g', drawn := d', toks := t' } := by
  obtain ⟨m, ⟨o, es, ep, ho, r⟩, _⟩ := id I.loc
  obtain ⟨sl, hL⟩ := u.any ho I.free fun z => (hch _ z).2.1 rfl
  exact I.step (ch := ch) hch (fun b o hL hb hc e n => u.keep b o e n (fun z => (List.mem_cons.mp (I.stkSub b z)).elim hL hb) hc) (fun b o _ _ hc e n => u.any e n hc) (fun b o hc e n => u.free b o e n hc) (fun b o hc e => u.there b o e hc) u.tups u.frzs u.tbls (fun m' hm => by
    obtain ⟨o', es', ep', ho', r'⟩ := hm
    rw [ho] at ho'; cases ho'
    exact ⟨_, es', ep', hL, r'⟩) hok hg
/-- an untracked record of ours (an iterator) has turned -/
theorem Inv.turned {t' : Nat} {it : Addr} (I : Inv X pins σ H s) (k : ∀ b o, b ≠ it → s.heap.get? b = some o → h'.get? b = some o) (hn : H it = none) (hL : it ≠ X.env.locals)
    (h1 : it ∈ X.ex ∨ X.s_0.heap.objs.size ≤ it) (h2 : ∀ x c, X.env.cells.lookup x = some c → c ≠ it) (h3 : ∀ p ∈ X.pn ++ pins, p.1 ≠ it) : Inv X pins σ H { s with heap := h', toks := t' } := by
  have nit : ∀ b u, H b = some u → b ≠ it := fun b u e z => by rw [z, hn] at e; cases e
  refine I.step (g' := s.gens) (d' := s.drawn) (ch := [it]) (fun b hb => ?_) (fun b o _ _ hc e _ => k b o (fun z => hc (by simp [z])) e) (fun b o _ _ hc e _ => ⟨o.slots, k b o (fun z => hc (by simp [z])) e⟩) (fun _ _ _ _ n => n)
    (fun b o hc e => ⟨o, k b o (fun z => hc (by simp [z])) e⟩) (fun _ _ e => e) (fun _ _ _ e => e) (fun b ps e => ⟨#[], by rw [e]; simp⟩) (fun m hm => ?_) (fun b u e => ?_) I.bare
  · have e : b = it := by simpa using hb
    subst e
    exact ⟨h1, hL, h2, h3⟩
  · obtain ⟨o, es, ep, ho, r⟩ := hm
    exact ⟨o, es, ep, k _ o (Ne.symm hL) ho, r⟩
  · refine (I.hok b u e).stay (fun c v hc q => k c v ?_ q) (fun _ q => q) fun _ _ q => q
    rcases hc with z | z
    · rw [z]; exact nit b u e
    · exact nit c _ z
theorem Inv.tok (I : Inv X pins σ H s) (t : Nat) : Inv X pins σ H { s with toks := t } := I.un (h' := s.heap) (t' := t) Un.refl I.hok
/-- all objects kept -/
theorem Inv.kept {t' : Nat} (I : Inv X pins σ H s) (k : ∀ b u, s.heap.get? b = some u → h'.get? b = some u) : Inv X pins σ H { s with heap := h', toks := t' } := I.un (Un.kept k) (I.hok.kept k)
/-- a new object laid and tracked -/
theorem Inv.laid {a : Addr} {o : HO} {t' : Nat} (I : Inv X pins σ H s) (k : ∀ b u, s.heap.get? b = some u → h'.get? b = some u) (hp : s.heap.objs.size ≤ a) (new : ObjOk X.prog X.w (upd H a o) h' a o) :
    Inv X pins σ (upd H a o) { s with heap := h', toks := t' } := I.un (Un.laid k hp (I.hok.fresh hp)) (I.hok.laid k hp new)
/-- an object written -/
theorem Inv.write {x e : Addr} {o : HO} {t' : Nat} (I : Inv X pins σ H s) (mu : Mut (H x)) (he : e = x ∨ H e = some (.own x)) (k : ∀ b u, b ≠ e → s.heap.get? b = some u → h'.get? b = some u) (heo : ∃ u, h'.get? e = some u)
    (new : ObjOk X.prog X.w (upd H x o) h' x o) : Inv X pins σ (upd H x o) { s with heap := h', toks := t' } := I.un (Un.write mu he k heo) (I.hok.write mu he k heo new)
/-- forgetting slots, pins -/
theorem Inv.weak {σ' : List (Option V)} (I : Inv X pins σ H s) (hl : σ'.length = σ.length) (w : ∀ (i : Nat) v, σ'[i]? = some (some v) → σ[i]? = some (some v)) : Inv X pins σ' H s :=
  ⟨I.ok, I.os, I.bare, I.base, let ⟨m, hn, hl'⟩ := I.loc; ⟨m, hn, fun i x v e1 e2 e3 => hl' i x v e1 (w i v e2) e3⟩, I.cell, I.free, I.freeC, I.pin, I.hok, hl.trans I.len⟩
theorem Inv.pins_of {pins' : List (Addr × Obj)} (I : Inv X pins σ H s) (h : ∀ p ∈ pins', s.heap.get? p.1 = some p.2 ∧ H p.1 = none ∧ p.1 ≠ X.env.locals ∧ p.1 ∉ X.fs ∧ ∀ v, p.2.data ≠ .cell v) : Inv X pins' σ H s :=
  ⟨I.ok, I.os, I.bare, I.base, I.loc, I.cell, I.free, I.freeC, fun p hp => (List.mem_append.mp hp).elim (fun z => I.pin p (List.mem_append_left _ z)) (h p), I.hok, I.len⟩
theorem nodup_ix {N : List Str} (hN : N.Nodup) {i j : Nat} {x : Str} (a : N[i]? = some x) (b : N[j]? = some x) : i = j := by
  obtain ⟨h1, e1⟩ := List.getElem?_eq_some_iff.mp a
  obtain ⟨h2, e2⟩ := List.getElem?_eq_some_iff.mp b
  exact (List.getElem_inj hN).mp (e1.trans e2.symm)
/-- a name is stored; what changed -/
theorem store_ok2 {M : Model} {A : Around} {E : Value → Shared → Prop} {i : Nat} {x : Str} {v : V} {u : Value} {Q : Unit → Shared → Prop} (I : Inv X pins σ H s) (hN : X.N.Nodup) (hi : X.N[i]? = some x) (hx : Loc X.env.scope x) (r : RelV v u)
    (h : ∀ s', Inv X pins (σ.set i (some v)) H s' → (∃ a, Heap.SameBut a s.heap s'.heap ∧ (a = X.env.locals ∨ X.env.cells.lookup x = some a)) → Q () s') (hf : X.fn x = true ∨ X.env.scope.names.lookup x = some .local := by first | exact .inl rfl | exact .inr rfl | assumption) : wpAny M A (storeName X.env x u) Q E s := by
  obtain ⟨m, hn, hl⟩ := id I.loc
  have hcls : (X.env.scope.kind == .class || (X.env.scope.kind == .module && X.env.locals != X.env.globals)) = false := by rw [I.ok.kind]; rfl
  have hiσ : i < σ.length := by rw [I.len]; exact (List.getElem?_eq_some_iff.mp hi).1
  have cne := I.cne
  have tracked : ∀ {a : Addr} {h' : Heap}, (∃ o, s.heap.get? a = some o ∧ H a = none) → Heap.SameBut a s.heap h' → HOk X.prog X.w H h' := fun {a h'} ha hs b ob e => by
    obtain ⟨_, _, hfree⟩ := ha
    refine (I.hok b ob e).stay (fun c w' hc q => (hs.2 c ?_).trans q) (fun _ q => q) fun _ _ q => q
    rintro rfl
    rcases hc with rfl | hc
    · rw [hfree] at e; cases e
    · rw [hfree] at hc; cases hc
  rcases hx with hk | hk
  · refine wpAny_storeName_local hk hn (fun h' hn' hs => ?_) hcls
    obtain ⟨oL, _, _, hoL, _⟩ := id hn
    refine h _ ⟨I.ok, I.os, I.bare, ⟨fun b o e n hb hx => ?_, fun b o e n hb hx => ?_, I.base.free, fun b o e hx => ?_, I.base.tups, I.base.frzs, I.base.tbls⟩, ⟨_, hn', fun j y v' e1 e2 e3 => ?_⟩, fun y c e => ?_, I.free, I.freeC, fun p hp => ?_, tracked ⟨oL, hoL, I.free⟩ hs, by simpa using I.len⟩ ⟨_, hs, .inl rfl⟩
    · exact (hs.2 b (Nat.ne_of_lt (Nat.lt_of_lt_of_le (Heap.lt_size e) I.ok.above))).trans (I.base.keep b o e n hb hx)
    · obtain ⟨sl, e1⟩ := I.base.slot b o e n hb hx
      exact ⟨sl, (hs.2 b (Nat.ne_of_lt (Nat.lt_of_lt_of_le (Heap.lt_size e) I.ok.above))).trans e1⟩
    · obtain ⟨o', e1⟩ := I.base.there b o e hx
      exact ⟨o', (hs.2 b (Nat.ne_of_lt (Nat.lt_of_lt_of_le (Heap.lt_size e) I.ok.above))).trans e1⟩
    · by_cases hj : j = i
      · subst hj
        rw [hi] at e1; cases e1
        rw [List.getElem?_set_self hiσ] at e2
        cases e2
        exact ⟨u, r, .inl ⟨hk, by simp⟩⟩
      · rw [List.getElem?_set_ne (Ne.symm hj)] at e2
        obtain ⟨u', r', q⟩ := hl j y v' e1 e2 e3
        refine ⟨u', r', ?_⟩
        rcases q with ⟨k, e⟩ | ⟨k, c, e, z⟩
        · refine .inl ⟨k, ?_⟩
          have : y ≠ x := fun e => hj (nodup_ix hN e1 (e ▸ hi))
          simp [this, e]
        · exact .inr ⟨k, c, e, z.sameBut hs (cne y c e)⟩
    · obtain ⟨w', z⟩ := I.cell y c e
      exact ⟨w', z.sameBut hs (cne y c e)⟩
    · obtain ⟨e, n, ne, nf, d⟩ := I.pin p hp
      exact ⟨(hs.2 p.1 ne).trans e, n, ne, nf, d⟩
  · have hfn : X.fn x = true := by
      rcases hf with z | z
      · exact z
      · rw [z] at hk; cases hk
    obtain ⟨c, hc⟩ := I.ok.has x (.inl hk)
    obtain ⟨w', z⟩ := I.cell x c hc
    refine wpAny_storeName_cell I.ok.kind hk hc z (fun h' hc' hs => ?_)
    obtain ⟨oc, hoc, hocd⟩ := id z
    refine h { s with heap := h' } ⟨I.ok, I.os, I.bare, ⟨fun b o e n hb hx => ?_, fun b o e n hb hx => ?_, I.base.free, fun b o e hx => ?_, I.base.tups, I.base.frzs, I.base.tbls⟩, ⟨m, hn.sameBut hs (Ne.symm (cne x c hc)), fun j y v' e1 e2 e3 => ?_⟩, fun y c' e => ?_, I.free, I.freeC, fun p hp => ?_, tracked ⟨oc, hoc, I.freeC x c hc⟩ hs, by simpa using I.len⟩ ⟨c, hs, .inr hc⟩
    · exact (hs.2 b (Nat.ne_of_lt (Nat.lt_of_lt_of_le (Heap.lt_size e) (I.ok.cab x c hfn hc)))).trans (I.base.keep b o e n hb hx)
    · obtain ⟨sl, e1⟩ := I.base.slot b o e n hb hx
      exact ⟨sl, (hs.2 b (Nat.ne_of_lt (Nat.lt_of_lt_of_le (Heap.lt_size e) (I.ok.cab x c hfn hc)))).trans e1⟩
    · obtain ⟨o', e1⟩ := I.base.there b o e hx
      exact ⟨o', (hs.2 b (Nat.ne_of_lt (Nat.lt_of_lt_of_le (Heap.lt_size e) (I.ok.cab x c hfn hc)))).trans e1⟩
    · by_cases hj : j = i
      · subst hj
        rw [hi] at e1; cases e1
        rw [List.getElem?_set_self hiσ] at e2
        cases e2
        exact ⟨u, r, .inr ⟨.inl hk, c, hc, hc'⟩⟩
      · rw [List.getElem?_set_ne (Ne.symm hj)] at e2
        obtain ⟨u', r', q⟩ := hl j y v' e1 e2 e3
        refine ⟨u', r', ?_⟩
        rcases q with q | ⟨k, c', e, z'⟩
        · exact .inl q
        · refine .inr ⟨k, c', e, z'.sameBut hs ?_⟩
          rintro rfl
          exact hj (nodup_ix hN e1 (I.ok.inj _ _ _ e hc ▸ hi))
    · by_cases hcc : c' = c
      · subst hcc; exact ⟨_, hc'⟩
      · obtain ⟨w2, z2⟩ := I.cell y c' e
        exact ⟨w2, z2.sameBut hs hcc⟩
    · obtain ⟨e, n, ne, nf, d⟩ := I.pin p hp
      refine ⟨(hs.2 p.1 ?_).trans e, n, ne, nf, d⟩
      intro q
      rw [q, hoc] at e
      have q' : oc = p.2 := Option.some.inj e
      exact d w' (by rw [← q']; exact hocd)
theorem store_ok {M : Model} {A : Around} {E : Value → Shared → Prop} {i : Nat} {x : Str} {v : V} {u : Value} {Q : Unit → Shared → Prop} (I : Inv X pins σ H s) (hN : X.N.Nodup) (hi : X.N[i]? = some x) (hx : Loc X.env.scope x) (r : RelV v u)
    (h : ∀ s', Inv X pins (σ.set i (some v)) H s' → Q () s') (hf : X.fn x = true ∨ X.env.scope.names.lookup x = some .local := by first | exact .inl rfl | exact .inr rfl | assumption) : wpAny M A (storeName X.env x u) Q E s :=
  store_ok2 I hN hi hx r (fun s' I' _ => h s' I') hf
/-- behind a call or a block, the state as it is -/
theorem Inv.call' {s' : Shared} {ch : List Addr} (I : Inv X pins σ H s) (ho : s'.os = s.os) (u : Un (frs X.stack) ch H H' s.heap s'.heap) (hok : HOk X.prog X.w H' s'.heap) (hg : AllBare s'.gens)
    (hch : ∀ b ∈ ch, (b ∈ X.ex ∨ X.s_0.heap.objs.size ≤ b) ∧ b ≠ X.env.locals ∧ (∀ x c, X.env.cells.lookup x = some c → c ≠ b) ∧ ∀ p ∈ X.pn ++ pins, p.1 ≠ b) : Inv X pins σ H' s' := by
  obtain ⟨h', g', d', t', o'⟩ := s'
  have e : o' = s.os := ho
  subst e
  exact I.call (g' := g') (t' := t') (d' := d') u hok hg hch
end
/-- an exception: its class, its own dict's address (where it has one), the abstract heap behind it -/
abbrev XK := Value → Option Addr → Hp → Prop
abbrev St := List (Option V)
abbrev VK := V → Hp → Prop
/-- an expression's reading; a test's; an argument list's -/
abbrev TE := St → Hp → VK → Prop
abbrev TT := St → Hp → (Bool → Hp → Prop) → Prop
abbrev TA := St → Hp → (List V → Hp → Prop) → Prop
/-- what is wanted behind a statement -/
structure Ends where
  nx : St → Hp → Prop
  rt : VK
  bk : St → Hp → Prop := fun _ _ => False
  ct : St → Hp → Prop := fun _ _ => False
abbrev TS := Ends → St → Hp → Prop
def EP (X : Cx) (pins : List (Addr × Obj)) (σ : St) (Q : VK) (u : Value) (s' : Shared) : Prop := ∃ v H', Inv X pins σ H' s' ∧ RelV v u ∧ Q v H'
def TP (X : Cx) (pins : List (Addr × Obj)) (σ : St) (Q : Bool → Hp → Prop) (b : Bool) (s' : Shared) : Prop := ∃ H', Inv X pins σ H' s' ∧ Q b H'
def AP (X : Cx) (pins : List (Addr × Obj)) (σ : St) (Q : List V → Hp → Prop) (us : List Value) (s' : Shared) : Prop := ∃ vs H', Inv X pins σ H' s' ∧ Vals vs us ∧ Q vs H'
def SP (X : Cx) (pins : List (Addr × Obj)) (D : Ends) (f : Flow) (s' : Shared) : Prop :=
  match f with
  | .next => ∃ σ' H', Inv X pins σ' H' s' ∧ D.nx σ' H'
  | .brk => ∃ σ' H', Inv X pins σ' H' s' ∧ D.bk σ' H'
  | .cont => ∃ σ' H', Inv X pins σ' H' s' ∧ D.ct σ' H'
  | .ret u => ∃ v σ' H', Inv X pins σ' H' s' ∧ RelV v u ∧ D.rt v H'
def PE (X : Cx) (e : Expr) (t : TE) : Prop :=
  ∀ (pins : List (Addr × Obj)) (s : Shared) (σ : St) (H : Hp) (Q : VK), Inv X pins σ H s → t σ H Q → wpAny (model X.prog X.w) X.A (eval e X.env) (EP X pins σ Q) X.xe s
def PT (X : Cx) (e : Expr) (t : TT) : Prop :=
  ∀ (pins : List (Addr × Obj)) (s : Shared) (σ : St) (H : Hp) (Q : Bool → Hp → Prop), Inv X pins σ H s → t σ H Q → wpAny (model X.prog X.w) X.A (isTrue e X.env (eval e X.env)) (TP X pins σ Q) X.xe s
/-- a test whatever its 'whole' is (and, or) -/
def PW (X : Cx) (e : Expr) (t : TT) : Prop :=
  ∀ (whole : Sem Value) (pins : List (Addr × Obj)) (s : Shared) (σ : St) (H : Hp) (Q : Bool → Hp → Prop), Inv X pins σ H s → t σ H Q → wpAny (model X.prog X.w) X.A (isTrue e X.env whole) (TP X pins σ Q) X.xe s
theorem PW.pt {X : Cx} {e : Expr} {t : TT} (h : PW X e t) : PT X e t := h _
/-- an argument list (no star), from the left -/
def PA (X : Cx) (es : List Expr) (t : TA) : Prop :=
  ∀ (pos : Pos) (pins : List (Addr × Obj)) (s : Shared) (σ : St) (H : Hp) (Q : List V → Hp → Prop), Inv X pins σ H s → t σ H Q → wpAny (model X.prog X.w) X.A (spliced (backTo pos (starEach es X.env))) (AP X pins σ Q) X.xe s
def PS (X : Cx) (st : Stmt) (t : TS) : Prop :=
  ∀ (pins : List (Addr × Obj)) (s : Shared) (σ : St) (H : Hp) (D : Ends), Inv X pins σ H s → t D σ H → wpAny (model X.prog X.w) X.A (exec st X.env) (SP X pins D) X.xe s
def PSs (X : Cx) (st : List Stmt) (t : TS) : Prop :=
  ∀ (pins : List (Addr × Obj)) (s : Shared) (σ : St) (H : Hp) (D : Ends), Inv X pins σ H s → t D σ H → wpAny (model X.prog X.w) X.A (execs st X.env) (SP X pins D) X.xe s
/-- weaken the end -/
theorem thn {α : Type} {t : Sem α} {Q Q' : α → Shared → Prop} {M : Model} {A : Around} {E : Value → Shared → Prop} {s : Shared} (h : wpAny M A t Q E s) (hQ : ∀ a s, Q a s → Q' a s) : wpAny M A t Q' E s := wpAny_mono h hQ fun _ _ x => x
end L2
namespace L2
open PySem PySem.Spec PyProof.Rows
section
variable {X : Cx}
/-! ### names and constants -/
def tVar (i : Nat) : TE := fun σ H Q => ∃ v, σ[i]? = some (some v) ∧ Q v H
def tC (v : V) : TE := fun _ H Q => Q v H
theorem pe_var {i : Nat} {x : Str} {pos : Pos} (hN : X.N[i]? = some x) (hv : Vis X.env.scope x) (hd : (x == ("__debug__" : Str)) = false := by decide) (hcd : (x == ("__classdict__" : Str)) = false := by decide) : PE X (.Name x pos) (tVar i) := by
  intro pins s σ H Q I h
  obtain ⟨v, e, h⟩ := h
  obtain ⟨m, hn, hl⟩ := I.loc
  obtain ⟨u, r, l⟩ := hl i x v hN e hv
  have fin : EP X pins σ Q u s := ⟨v, H, I, r, h⟩
  rcases l with ⟨hk, hm⟩ | ⟨hk, c, hc, hcell⟩
  · exact wpAny_Name (wpAny_loadName_local I.ok.kind hk hn hm fin) hd
  · rcases hk with hk | hk
    · exact wpAny_Name (wpAny_loadName_cell I.ok.kind hk hc hcell fin) hd
    · exact wpAny_Name (wpAny_loadName_free I.ok.kind hk hc hcell fin hcd) hd
theorem pe_int {i j pos} : PE X (.Constant (.int i) j pos) (tC (.int i)) := fun _ _ _ H _ I h => wpAny_Constant_int ⟨.int i, H, I.tok _, ⟨_, rfl⟩, h⟩
theorem pe_bl {b j pos} : PE X (.Constant (.bool b) j pos) (tC (.bl b)) := fun _ _ _ H _ I h => Constant_bool ⟨.bl b, H, I, rfl, h⟩
theorem pe_non {j pos} : PE X (.Constant .none j pos) (tC .non) := fun _ _ _ H _ I h => Constant_none ⟨.non, H, I, rfl, h⟩
/-- a global name of the def -/
def Gl (X : Cx) (x : Str) : Prop := X.env.kindOf x = some .globalImplicit
theorem ld_glob {E : Value → Shared → Prop} {pins : List (Addr × Obj)} {s : Shared} {σ : St} {H : Hp} {x : Str} {u : Value} {pos : Pos} {Q : Value → Shared → Prop} (I : Inv X pins σ H s) (hg : Gl X x) (hm : X.mg x = some u) (h : Q u s)
    (hd : (x == ("__debug__" : Str)) = false := by decide) : wpAny (model X.prog X.w) X.A (eval (.Name x pos) X.env) Q E s :=
  Calls.Name_function_global I.ok.kind hg (Calls.loadGlobal_global (by rw [I.ok.glob]; exact I.mod.glob.keeps I.bk) hm h) hd
theorem ld_blt {E : Value → Shared → Prop} {pins : List (Addr × Obj)} {s : Shared} {σ : St} {H : Hp} {x : Str} {u : Value} {pos : Pos} {Q : Value → Shared → Prop} (I : Inv X pins σ H s) (hg : Gl X x) (hm : X.mg x = none) (hv : bootBuiltins x = some u) (h : Q u s)
    (hn : x ≠ "__name__" := by decide) (hd : (x == ("__debug__" : Str)) = false := by decide) : wpAny (model X.prog X.w) X.A (eval (.Name x pos) X.env) Q E s := by
  obtain ⟨mb, h1, h2⟩ := I.mod.blt
  exact Calls.Name_function_global I.ok.kind hg (Calls.loadGlobal_builtin (by rw [I.ok.glob]; exact I.mod.glob.keeps I.bk) hm (by rw [I.ok.blt]; exact h1.keeps I.bk) ((h2 x hn).trans hv) h) hd
/-- a module's constant, a class, a function, as a value -/
theorem pe_glob {x : Str} {v : V} {u : Value} {pos : Pos} (hg : Gl X x) (hm : X.mg x = some u) (r : RelV v u) (hd : (x == ("__debug__" : Str)) = false := by decide) : PE X (.Name x pos) (tC v) :=
  fun _ _ _ H _ I h => ld_glob I hg hm ⟨v, H, I, r, h⟩ hd
variable {a b : Expr} {ta tb : TE} {pos : Pos}
/-- a comparison as a value, as a test -/
def tB (t : TE) : TT := fun σ H Q => t σ H fun x H1 => ∃ c, x = .bl c ∧ Q c H1
/-- an expression whose value is a bool, as a test -/
theorem pt_val {e : Expr} {t : TE} (h : PE X e t) (he : ∀ whole, isTrue e X.env whole = (do let v ← whole; standAt e.pos; holding [v] (truthy v)) := by intro _; rfl) : PT X e (tB t) := by
  intro pins s σ H Q I hw
  refine isTrue_plain (thn (h pins s σ H _ I hw) fun v s1 ⟨x, H1, I1, r1, q1⟩ => ?_) (he _)
  obtain ⟨d, rfl, q⟩ := q1
  cases r1
  exact wpAny_truthy_bool ⟨H1, I1, q⟩
variable {tA tB' : TT} {rest : List Expr}
def tAnd (t u : TT) : TT := fun σ H Q => t σ H fun c H1 => if c = true then u σ H1 Q else Q false H1
def tOr (t u : TT) : TT := fun σ H Q => t σ H fun c H1 => if c = true then Q true H1 else u σ H1 Q
def tNot (t : TT) : TT := fun σ H Q => t σ H fun c H1 => Q (!c) H1
theorem pw_and1 (ha : PT X a tA) : PW X (.BoolOp .And [a] pos) tA := by
  intro wh pins s σ H Q I h
  refine isTrue_and (thn (ha pins s σ H Q I h) fun c s1 e => ?_)
  cases c with
  | true => exact isTrue_and_nil e
  | false => exact e
theorem pw_or1 (ha : PT X a tA) : PW X (.BoolOp .Or [a] pos) tA := by
  intro wh pins s σ H Q I h
  refine isTrue_or (thn (ha pins s σ H Q I h) fun c s1 e => ?_)
  cases c with
  | false => exact isTrue_or_nil e
  | true => exact e
theorem pw_and (ha : PT X a tA) (hb : PW X (.BoolOp .And (b :: rest) pos) tB') : PW X (.BoolOp .And (a :: b :: rest) pos) (tAnd tA tB') := by
  intro wh pins s σ H Q I h
  refine isTrue_and (thn (ha pins s σ H _ I h) fun c s1 ⟨H1, I1, q1⟩ => ?_)
  cases c with
  | true => exact hb wh pins s1 σ H1 Q I1 q1
  | false => exact ⟨H1, I1, q1⟩
theorem pw_or (ha : PT X a tA) (hb : PW X (.BoolOp .Or (b :: rest) pos) tB') : PW X (.BoolOp .Or (a :: b :: rest) pos) (tOr tA tB') := by
  intro wh pins s σ H Q I h
  refine isTrue_or (thn (ha pins s σ H _ I h) fun c s1 ⟨H1, I1, q1⟩ => ?_)
  cases c with
  | true => exact ⟨H1, I1, q1⟩
  | false => exact hb wh pins s1 σ H1 Q I1 q1
theorem pt_not (ha : PT X a tA) : PT X (.UnaryOp .Not a pos) (tNot tA) := by
  intro pins s σ H Q I h
  exact isTrue_not (ha pins s σ H (fun c H1 => Q (!c) H1) I h)
/-- .. as values (bools) -/
def tAndV (ta tb : TE) : TE := fun σ H Q => ta σ H fun x H1 => ∃ c, x = .bl c ∧ if c = true then tb σ H1 Q else Q (.bl false) H1
def tOrV (ta tb : TE) : TE := fun σ H Q => ta σ H fun x H1 => ∃ c, x = .bl c ∧ if c = true then Q (.bl true) H1 else tb σ H1 Q
theorem pe_one {op} {t : TE} (h : PE X a t) : PE X (.BoolOp op [a] pos) t := fun pins s σ H Q I hw => BoolOp_one (h pins s σ H Q I hw)
theorem pe_and (ha : PE X a ta) (hb : PE X (.BoolOp .And (b :: rest) pos) tb) : PE X (.BoolOp .And (a :: b :: rest) pos) (tAndV ta tb) := by
  intro pins s σ H Q I h
  refine BoolOp_and (thn (ha pins s σ H _ I h) fun v s1 ⟨x, H1, I1, r1, q1⟩ => ?_)
  obtain ⟨c, rfl, q1⟩ := q1
  cases r1
  refine wpAny_truthy_bool ?_
  cases c with
  | true => exact hb pins s1 σ H1 Q I1 q1
  | false => exact ⟨.bl false, H1, I1, rfl, q1⟩
theorem pe_or (ha : PE X a ta) (hb : PE X (.BoolOp .Or (b :: rest) pos) tb) : PE X (.BoolOp .Or (a :: b :: rest) pos) (tOrV ta tb) := by
  intro pins s σ H Q I h
  refine BoolOp_or (thn (ha pins s σ H _ I h) fun v s1 ⟨x, H1, I1, r1, q1⟩ => ?_)
  obtain ⟨c, rfl, q1⟩ := q1
  cases r1
  refine wpAny_truthy_bool ?_
  cases c with
  | false => exact hb pins s1 σ H1 Q I1 q1
  | true => exact ⟨.bl true, H1, I1, rfl, q1⟩
/-- a if t else b -/
def tIf (t : TT) (ta tb : TE) : TE := fun σ H Q => t σ H fun c H1 => if c = true then ta σ H1 Q else tb σ H1 Q
theorem pe_ifExp {c : Expr} (hc : PT X c tA) (ha : PE X a ta) (hb : PE X b tb) : PE X (.IfExp c a b pos) (tIf tA ta tb) := by
  intro pins s σ H Q I h
  refine wpAny_IfExp (thn (hc pins s σ H _ I h) fun d s1 ⟨H1, I1, q1⟩ => ?_)
  cases d with
  | true => exact ha pins s1 σ H1 Q I1 q1
  | false => exact hb pins s1 σ H1 Q I1 q1
end
end L2
namespace L2
open PySem PySem.Spec PyProof.Rows
/-! ### a list, a tuple that is read: tracked, frozen, or an object of the module -/
def SqL (K : PySem.W.Frag) (H : Hp) (a : Addr) (xs : List V) : Prop :=
  Rd H a (.lst xs) ∨
    ∃ (o : Obj) (its : Array Value) (n : Nat), K.lookup a = some o ∧ o.cls = .type "list" ∧ o.dict = none ∧ o.data = .seq its n ∧ its.size ≤ sizeLine ∧ Vals xs its.toList
def SqT (K : PySem.W.Frag) (H : Hp) (a : Addr) (xs : List V) : Prop :=
  Rd H a (.tup xs) ∨
    ∃ (o : Obj) (its : Array Value) (n : Nat), K.lookup a = some o ∧ o.cls = .type "tuple" ∧ o.data = .seq its n ∧ its.size ≤ sizeLine ∧ Vals xs its.toList
def absV : Value → Option V
  | .none => some .non
  | .bool b => some (.bl b)
  | .int i _ => some (.int i)
  | .str x _ => some (.str x)
  | .bytes b _ => some (.byt b)
  | .float b _ => some (.flt b)
  | .ref a => some (.ref a)
  | .type n => some (.ty n)
  | _ => none
theorem RelV.abs {x : V} {u : Value} (r : RelV x u) : absV u = some x := by
  cases x with
  | non => cases r; rfl
  | bl _ => cases r; rfl
  | int _ => obtain ⟨t, rfl⟩ := r; rfl
  | str _ => obtain ⟨t, rfl⟩ := r; rfl
  | byt _ => obtain ⟨t, rfl⟩ := r; rfl
  | flt _ => obtain ⟨t, rfl⟩ := r; rfl
  | ref _ => cases r; rfl
  | ty _ => cases r; rfl
theorem RelV.inj {x y : V} {u : Value} (r : RelV x u) (q : RelV y u) : x = y := Option.some.inj (r.abs.symm.trans q.abs)
theorem Vals.inj : ∀ {xs ys : List V} {us : List Value}, Vals xs us → Vals ys us → xs = ys
  | _, _, _, .nil, .nil => rfl
  | _, _, _, .cons r t, .cons r' t' => by rw [r.inj r', Vals.inj t t']
section
variable {X : Cx} {pins : List (Addr × Obj)} {σ : St} {H : Hp} {s : Shared} {a : Addr} {xs ys : List V}
theorem SqL.of {K : PySem.W.Frag} (h : H a = some (.lst xs)) : SqL K H a xs := .inl (.inl h)
theorem SqT.of {K : PySem.W.Frag} (h : H a = some (.tup xs)) : SqT K H a xs := .inl (.inl h)
theorem Inv.list (I : Inv X pins σ H s) (h : SqL X.K H a xs) : ∃ its : List Value, Vals xs its ∧ PlainL s.heap a its.toArray ∧ xs.length ≤ sizeLine := by
  rcases h with h | ⟨o, its, n, hk, hc, hd, hs, hz, r⟩
  · obtain ⟨z, its, n, r, e⟩ := h.ok I.hok
    exact ⟨its, r, ⟨_, n, e, rfl, rfl, rfl⟩, z⟩
  · refine ⟨its.toList, r, ⟨o, n, I.kIn a o hk, hc, hd, by simpa using hs⟩, ?_⟩
    have e := r.length
    simp only [Array.length_toList] at e
    omega
theorem Inv.tuple (I : Inv X pins σ H s) (h : SqT X.K H a xs) : ∃ its : List Value, Vals xs its ∧ IsTup s.heap a its.toArray ∧ xs.length ≤ sizeLine := by
  rcases h with h | ⟨o, its, n, hk, hc, hs, hz, r⟩
  · obtain ⟨z, its, r, p⟩ := h.ok I.hok
    exact ⟨its, r, p.tup, z⟩
  · refine ⟨its.toList, r, ⟨o, I.kIn a o hk, hc, n, by simpa using hs⟩, ?_⟩
    have e := r.length
    simp only [Array.length_toList] at e
    omega
theorem Inv.list_inj (I : Inv X pins σ H s) (h : SqL X.K H a xs) (h' : SqL X.K H a ys) : xs = ys := by
  obtain ⟨its, r, ⟨o, n, e, _, _, d⟩, _⟩ := I.list h
  obtain ⟨its', r', ⟨o', n', e', _, _, d'⟩, _⟩ := I.list h'
  rw [e] at e'; cases e'
  rw [d] at d'
  injection d' with d1 _
  have : its = its' := by simpa using congrArg Array.toList d1
  subst this
  exact r.inj r'
theorem Inv.tuple_inj (I : Inv X pins σ H s) (h : SqT X.K H a xs) (h' : SqT X.K H a ys) : xs = ys := by
  obtain ⟨its, r, ⟨o, e, _, n, d⟩, _⟩ := I.tuple h
  obtain ⟨its', r', ⟨o', e', _, n', d'⟩, _⟩ := I.tuple h'
  rw [e] at e'; cases e'
  rw [d] at d'
  injection d' with d1 _
  have : its = its' := by simpa using congrArg Array.toList d1
  subst this
  exact r.inj r'
end
/-! ### another wish about exceptions -/
abbrev Cx.wish (X : Cx) (E : Value → Shared → Prop) : Cx := { X with xe := E }
/-- no exception leaves -/
abbrev Cx.nox (X : Cx) : Cx := X.wish fun _ _ => False
theorem Cx.Ok.wish {X : Cx} (ok : X.Ok) (E : Value → Shared → Prop) : (X.wish E).Ok :=
  ⟨ok.mod, ok.kind, ok.glob, ok.blt, ok.above, ok.inj, ok.has, ok.cab, ok.hd, ok.frames, ok.stk, ok.exf, ok.bs, ok.bsz, ok.noex, ok.exfs, ok.funs, ok.frf⟩
theorem Cx.Ok.unwish {X : Cx} {E : Value → Shared → Prop} (ok : (X.wish E).Ok) : X.Ok :=
  ⟨ok.mod, ok.kind, ok.glob, ok.blt, ok.above, ok.inj, ok.has, ok.cab, ok.hd, ok.frames, ok.stk, ok.exf, ok.bs, ok.bsz, ok.noex, ok.exfs, ok.funs, ok.frf⟩
section
variable {X : Cx} {pins : List (Addr × Obj)} {σ : St} {H : Hp} {s : Shared} {E : Value → Shared → Prop}
theorem Inv.wish (I : Inv X pins σ H s) (E : Value → Shared → Prop) : Inv (X.wish E) pins σ H s := ⟨I.ok.wish E, I.os, I.bare, I.base, I.loc, I.cell, I.free, I.freeC, I.pin, I.hok, I.len⟩
theorem Inv.unwish (I : Inv (X.wish E) pins σ H s) : Inv X pins σ H s := ⟨I.ok.unwish, I.os, I.bare, I.base, I.loc, I.cell, I.free, I.freeC, I.pin, I.hok, I.len⟩
theorem SP.unwish {D : Ends} {f : Flow} {s' : Shared} (h : SP (X.wish E) pins D f s') : SP X pins D f s' := by
  cases f with
  | next => obtain ⟨σ', H', I, q⟩ := h; exact ⟨σ', H', I.unwish, q⟩
  | brk => obtain ⟨σ', H', I, q⟩ := h; exact ⟨σ', H', I.unwish, q⟩
  | cont => obtain ⟨σ', H', I, q⟩ := h; exact ⟨σ', H', I.unwish, q⟩
  | ret u => obtain ⟨v, σ', H', I, r, q⟩ := h; exact ⟨v, σ', H', I.unwish, r, q⟩
theorem PE.nox {e : Expr} {t : TE} (h : PE X.nox e t) : PE X e t := fun pins s σ H Q I hw =>
  wpAny_mono (h pins s σ H Q (I.wish _) hw) (fun _ _ ⟨v, H', I', r, q⟩ => ⟨v, H', I'.unwish, r, q⟩) fun _ _ z => False.elim z
theorem PT.nox {e : Expr} {t : TT} (h : PT X.nox e t) : PT X e t := fun pins s σ H Q I hw =>
  wpAny_mono (h pins s σ H Q (I.wish _) hw) (fun _ _ ⟨H', I', q⟩ => ⟨H', I'.unwish, q⟩) fun _ _ z => False.elim z
theorem PSs.nox {st : List Stmt} {t : TS} (h : PSs X.nox st t) : PSs X st t := fun pins s σ H D I hw =>
  wpAny_mono (h pins s σ H D (I.wish _) hw) (fun _ _ q => q.unwish) fun _ _ z => False.elim z
end
section
variable {X : Cx} {st : Stmt} {rest : List Stmt} {t u : TS} {e : Expr} {te : TE} {pos : Pos}
def tNext : TS := fun D σ H => D.nx σ H
def tSeq (t u : TS) : TS := fun D σ H => t { D with nx := u D } σ H
theorem pss_nil : PSs X [] tNext := fun _ _ σ H _ I h => wpAny_execs_nil ⟨σ, H, I, h⟩
theorem pss_cons (h1 : PS X st t) (h2 : PSs X rest u) : PSs X (st :: rest) (tSeq t u) := by
  intro pins s σ H D I h
  refine wpAny_execs_cons (thn (h1 pins s σ H { D with nx := u D } I h) fun f s1 q => ?_)
  cases f with
  | next =>
    obtain ⟨σ', H', I', q⟩ := q
    exact h2 pins s1 σ' H' D I' q
  | ret v => exact q
  | brk => exact q
  | cont => exact q
theorem pss_one (h1 : PS X st t) : PSs X [st] t := by
  intro pins s σ H D I h
  refine wpAny_execs_cons (thn (h1 pins s σ H D I h) fun f s1 q => ?_)
  cases f with
  | next => exact wpAny_execs_nil q
  | ret v => exact q
  | brk => exact q
  | cont => exact q
/-- in a def's body nothing is shown -/
theorem Inv.quiet {pins : List (Addr × Obj)} {σ : St} {H : Hp} {s : Shared} (I : Inv X pins σ H s) : interactive X.env = false := by simp [interactive, I.ok.kind]
/-- an expression whose value is dropped -/
def tDrop (te : TE) : TS := fun D σ H => te σ H fun _ H1 => D.nx σ H1
theorem ps_expr (he : PE X e te) (hs : swapsWith e none pos.line X.env = pure false := by rfl) : PS X (.Expr e pos) (tDrop te) := by
  intro pins s σ H D I h
  exact wpAny_Expr_any (thn (he pins s σ H _ I h) fun v s1 ⟨x, H1, I1, r1, q1⟩ => ⟨σ, H1, I1, q1⟩) I.quiet hs
def tRet (te : TE) : TS := fun D σ H => te σ H D.rt
theorem ps_ret (he : PE X e te) : PS X (.Return (some e) pos) (tRet te) := by
  intro pins s σ H D I h
  exact wpAny_Return_some (thn (he pins s σ H _ I h) fun v s1 ⟨x, H1, I1, r1, q1⟩ => ⟨x, σ, H1, I1, r1, q1⟩)
def tIfS (c : TT) (t u : TS) : TS := fun D σ H => c σ H fun b H1 => if b = true then t D σ H1 else u D σ H1
theorem ps_if {c : Expr} {a b : List Stmt} {tc : TT} (hc : PT X c tc) (ha : PSs X a t) (hb : PSs X b u) : PS X (.If c a b pos) (tIfS tc t u) := by
  intro pins s σ H D I h
  refine wpAny_If (thn (hc pins s σ H _ I h) fun d s1 ⟨H1, I1, q1⟩ => ?_)
  cases d with
  | true => exact ha pins s1 σ H1 D I1 q1
  | false => exact hb pins s1 σ H1 D I1 q1
/-- code that the proof never comes to -/
def tNever : TS := fun _ _ _ => False
theorem ps_never : PS X st tNever := fun _ _ _ _ _ _ h => h.elim
end
/-! ### targets -/
abbrev TG := V → St → Hp → (St → Hp → Prop) → Prop
abbrev TGs := List V → St → Hp → (St → Hp → Prop) → Prop
def PG (X : Cx) (target : Expr) (t : TG) : Prop :=
  ∀ (pins : List (Addr × Obj)) (s : Shared) (σ : St) (H : Hp) (v : V) (u : Value) (Q : St → Hp → Prop), Inv X pins σ H s → RelV v u → t v σ H Q →
    wpAny (model X.prog X.w) X.A (assign target X.env u) (fun _ s' => ∃ σ' H', Inv X pins σ' H' s' ∧ Q σ' H') X.xe s
/-- several targets, one after another -/
def PGs (X : Cx) (ts : List Expr) (t : TGs) : Prop :=
  ∀ (pins : List (Addr × Obj)) (s : Shared) (σ : St) (H : Hp) (vs : List V) (us : List Value) (Q : St → Hp → Prop), Inv X pins σ H s → Vals vs us → t vs σ H Q →
    wpAny (model X.prog X.w) X.A (assignInOrder ((assignEach ts X.env).map (·.2)) us) (fun _ s' => ∃ σ' H', Inv X pins σ' H' s' ∧ Q σ' H') X.xe s
/-- o[i] = v, by values -/
abbrev TSet := V → V → V → Hp → (Hp → Prop) → Prop
def PSet (X : Cx) (t : TSet) : Prop :=
  ∀ (pins : List (Addr × Obj)) (s : Shared) (σ : St) (H : Hp) (o i v : V) (ov iv u : Value) (Q : Hp → Prop), Inv X pins σ H s → RelV o ov → RelV i iv → RelV v u → t o i v H Q →
    wpAny (model X.prog X.w) X.A (setItem ov iv u) (fun _ s' => ∃ H', Inv X pins σ H' s' ∧ Q H') X.xe s
section
variable {X : Cx} {pos : Pos}
def gName (i : Nat) : TG := fun v σ H Q => Q (σ.set i (some v)) H
theorem pg_name {i : Nat} {x : Str} (hN : X.N.Nodup) (hi : X.N[i]? = some x) (hx : Loc X.env.scope x) (hf : X.fn x = true ∨ X.env.scope.names.lookup x = some .local := by first | exact .inl rfl | exact .inr rfl | assumption) : PG X (.Name x pos) (gName i) := by
  intro pins s σ H v u Q I r h
  exact wpAny_assign_Name (store_ok I hN hi hx r (fun s' I' => ⟨_, H, I', h⟩) hf)
def gNil : TGs := fun vs σ H Q => vs = [] ∧ Q σ H
def gCons (t : TG) (u : TGs) : TGs := fun vs σ H Q => ∃ v r, vs = v :: r ∧ t v σ H fun σ' H' => u r σ' H' Q
theorem pgs_nil : PGs X [] gNil := by
  intro pins s σ H vs us Q I r h
  obtain ⟨e, h⟩ := h
  subst e
  cases r
  exact assignInOrder_nil ⟨σ, H, I, h⟩
theorem pgs_cons {e : Expr} {es : List Expr} {t : TG} {u : TGs} (h1 : PG X e t) (h2 : PGs X es u)
    (hs : (assignEach (e :: es) X.env).map (·.2) = assign e X.env :: (assignEach es X.env).map (·.2) := by rfl) : PGs X (e :: es) (gCons t u) := by
  intro pins s σ H vs us Q I r h
  obtain ⟨v, vr, e1, h⟩ := h
  subst e1
  cases r with
  | cons r rr =>
    rw [hs]
    refine assignInOrder_cons (thn (h1 pins s σ H _ _ _ I r h) fun _ s1 ⟨σ1, H1, I1, q1⟩ => ?_)
    exact h2 pins s1 σ1 H1 _ _ Q I1 rr q1
/-- (a, b, ..) = a tuple of that length -/
def gTup (K : PySem.W.Frag) (n : Nat) (t : TGs) : TG := fun v σ H Q => ∃ a xs, v = .ref a ∧ SqT K H a xs ∧ xs.length = n ∧ t xs σ H Q
theorem pg_tup {es : List Expr} {k : Nat} {t : TGs} {n : Nat} (hc : X.calm = true) (h : PGs X es t)
    (hn : (assignEach es X.env).length = n := by rfl) (hst : (assignEach es X.env).findIdx? (·.1) = none := by rfl) : PG X (.Tuple es k pos) (gTup X.K n t) := by
  intro pins s σ H v u Q I r hw
  obtain ⟨a, xs, e1, hq, hl, hw⟩ := hw
  subst e1
  cases r
  obtain ⟨its, rv, ht, hz⟩ := I.tuple hq
  refine assign_Tuple_tuple (I.ok.hd hc) ht (by simp [hn, ← hl, rv.length]) hst fun h' hx => ?_
  have I1 : Inv X pins σ H { s with heap := h' } := I.kept (t' := s.toks) fun b o e => hx b o (Nat.ne_of_lt (Heap.lt_size e)) e
  exact h pins _ σ H xs _ Q I1 (by simpa using rv) hw
/-- o[i] = .. -/
def gSub (to ti : TE) (t : TSet) : TG := fun v σ H Q => to σ H fun o H1 => ti σ H1 fun i H2 => t o i v H2 fun H3 => Q σ H3
theorem pg_sub {o i : Expr} {to ti : TE} {t : TSet} (ho : PE X o to) (hi : PE X i ti) (hs : PSet X t)
    (ha : ∀ v, assign (.Subscript o i pos) X.env v = (do
      let ov ← holding [v] (eval o X.env)
      let iv ← holding [v, ov] (eval i X.env)
      standAt pos
      holding [v, ov, iv] (setItem ov iv v)
      release [v, ov, iv] []) := by intro _; rfl) : PG X (.Subscript o i pos) (gSub to ti t) := by
  intro pins s σ H v u Q I r h
  rw [ha]
  refine wpAny_bind (wpAny_holding (thn (ho pins s σ H _ I h) fun ov s1 ⟨x, H1, I1, r1, q1⟩ => ?_))
  refine wpAny_bind (wpAny_holding (thn (hi pins s1 σ H1 _ I1 q1) fun iv s2 ⟨y, H2, I2, r2, q2⟩ => ?_))
  refine wpAny_bind (wpAny_standAt (wpAny_bind (wpAny_holding (thn (hs pins s2 σ H2 x y v ov iv u _ I2 r1 r2 r q2) fun _ s3 ⟨H3, I3, q3⟩ => ?_))))
  exact wpAny_release ⟨σ, H3, I3, q3⟩
/-- target = value -/
def tAsg (te : TE) (g : TG) : TS := fun D σ H => te σ H fun x H1 => g x σ H1 D.nx
theorem ps_asg {tg e : Expr} {te : TE} {g : TG} (he : PE X e te) (hg : PG X tg g) (hs : swapsWithSole [tg] e pos.line X.env = pure false := by rfl) (hw : swappedStores [tg] e X.env = pure none := by rfl)
    (h1 : (assignEach [tg] X.env).map (·.2) = [assign tg X.env] := by rfl) : PS X (.Assign [tg] e pos) (tAsg te g) := by
  intro pins s σ H D I h
  refine wpAny_Assign_stores (thn (he pins s σ H _ I h) fun v s1 ⟨x, H1, I1, r1, q1⟩ => ?_) hs hw
  rw [h1]
  exact thn (hg pins s1 σ H1 x v _ I1 r1 q1) fun _ s2 q => q
/-- name = value -/
theorem ps_set {i : Nat} {x : Str} {e : Expr} {te : TE} {pos' : Pos} (hN : X.N.Nodup) (hi : X.N[i]? = some x) (hx : Loc X.env.scope x) (he : PE X e te) (hs : swapsWith e (some (.Name x pos')) pos.line X.env = pure false := by rfl) (hf : X.fn x = true ∨ X.env.scope.names.lookup x = some .local := by first | exact .inl rfl | exact .inr rfl | assumption) :
    PS X (.Assign [.Name x pos'] e pos) (tAsg te (gName i)) := by
  intro pins s σ H D I h
  refine wpAny_Assign_Name (thn (he pins s σ H _ I h) fun v s1 ⟨y, H1, I1, r1, q1⟩ => ?_) hs
  exact store_ok I1 hN hi hx r1 (fun s2 I2 => ⟨_, H1, I2, q1⟩) hf
/-- a, b = x, y with plain local names: stored from the right; the pair itself is not tracked (the opening rows as in PyProof/Rows/TupAssign.lean:23) -/
def tPar (i j : Nat) (ta : TA) : TS := fun D σ H => ta σ H fun vs H1 => ∃ v w, vs = [v, w] ∧ D.nx ((σ.set i (some v)).set j (some w)) H1
theorem ps_par {i j : Nat} {x y : Str} {a b : Expr} {ta : TA} {px py pt : Pos} {kt k2 pt2} (hc : X.calm = true) (hN : X.N.Nodup) (hi : X.N[i]? = some x) (hj : X.N[j]? = some y) (hij : i ≠ j)
    (hx : X.env.scope.names.lookup x = some .local) (hy : X.env.scope.names.lookup y = some .local) (ha : PA X [a, b] ta)
    (hw : swappedStores [.Tuple [.Name x px, .Name y py] kt pt] (.Tuple [a, b] k2 pt2) X.env = pure (some [x, y]))
    (hs : swapsWithSole [.Tuple [.Name x px, .Name y py] kt pt] (.Tuple [a, b] k2 pt2) pos.line X.env = pure false := by rfl) :
    PS X (.Assign [.Tuple [.Name x px, .Name y py] kt pt] (.Tuple [a, b] k2 pt2) pos) (tPar i j ta) := by
  intro pins s σ H D I h
  rw [exec_Assign_arm]
  refine wpAny_bind (wpAny_standAt ?_)
  rw [hs]
  refine wpAny_bind (wpAny_pure ?_)
  rw [if_neg (by decide)]
  refine wpAny_bind (Tuple_ (thn (ha _ pins s σ H _ I h) fun us s1 ⟨vs, H1, I1, r1, q1⟩ => ?_))
  obtain ⟨v, w, e1, q1⟩ := q1
  subst e1
  obtain ⟨u1, u2, rfl, rv, rw'⟩ : ∃ u1 u2, us = [u1, u2] ∧ RelV v u1 ∧ RelV w u2 := by
    cases r1 with
    | cons p q =>
      cases q with
      | cons p' q' =>
        cases q'
        exact ⟨_, _, rfl, p, p'⟩
  refine wpAny_newObj_type ?_ (by show 2 ≤ sizeLine; decide)
  have I2 : Inv X pins σ H1 { s1 with heap := s1.heap.push { cls := .type "tuple", data := .seq [u1, u2].toArray } } := I1.kept (t' := s1.toks) fun b o e => Heap.get?_push_of_some _ e
  rw [hw]
  refine wpAny_bind (wpAny_pure ?_)
  show wpAny (model X.prog X.w) X.A (do rule "assign.swapped-stores"; let items ← unpackItems (.ref s1.heap.objs.size) 2 none; assignInOrder [fun v => bindName X.env y v, fun v => bindName X.env x v] items.reverse; pure Flow.next) _ _ _
  refine wpAny_bind (wpAny_rule (wpAny_bind (unpackItems_tuple (items := #[u1, u2]) (I.ok.hd hc) (IsTup.new s1.heap _) fun h' hx' => ?_)))
  have I3 := I2.kept (h' := h') (t' := s1.toks) fun b o e => hx' b o (Nat.ne_of_lt (Heap.lt_size e)) e
  show wpAny _ _ (assignInOrder [fun v => bindName X.env y v, fun v => bindName X.env x v] [u2, u1] >>= fun _ => pure Flow.next) _ _ _
  refine wpAny_bind (assignInOrder_cons (wpAny_bindName (store_ok I3 hN hj (.inl hy) rw' (fun s2 I4 => ?_) (.inr hy))))
  refine assignInOrder_cons (wpAny_bindName (store_ok I4 hN hi (.inl hx) rv (fun s3 I5 => assignInOrder_nil (wpAny_pure ?_)) (.inr hx)))
  rw [List.set_comm _ _ (Ne.symm hij)] at I5
  exact ⟨_, H1, I5, q1⟩
end
section
variable {X : Cx} {pos : Pos}
/-- the invariant W with its measure -/
def tWhile (c : TT) (tb : TS) : TS := fun D σ H => ∃ W : Nat → St → Hp → Prop, (∃ m, W m σ H) ∧ ∀ m σ H, W m σ H →
  c σ H fun b H1 => if b = true then ∃ N : St → Hp → Prop, (∀ σ' H', N σ' H' → ∃ m', m' < m ∧ W m' σ' H') ∧ tb { D with nx := N, ct := N, bk := D.nx } σ H1 else D.nx σ H1
theorem ps_while {c : Expr} {body : List Stmt} {tc : TT} {tb : TS} (hp : PassesOwn (model X.prog X.w) X.A X.env X.xe) (hc : PT X c tc) (hb : PSs X body tb) : PS X (.While c body [] pos) (tWhile tc tb) := by
  intro pins s σ H D I h
  obtain ⟨W, ⟨m0, w0⟩, turn⟩ := h
  refine wpAny_While (codeAny_whileLoop (fun n s' => ∃ σ' H', Inv X pins σ' H' s' ∧ W n σ' H') ?_ m0 ⟨σ, H, I, w0⟩)
  rintro n s1 ⟨σ1, H1, I1, w1⟩
  refine wpAny_passesOwn hp (thn (hc pins s1 σ1 H1 _ I1 (turn n σ1 H1 w1)) fun b s2 ⟨H2, I2, q2⟩ => ?_)
  cases b with
  | true =>
    obtain ⟨N, hN, q2⟩ := q2
    rw [if_pos rfl]
    refine wpAny_passesOwn hp (thn (hb pins s2 σ1 H2 _ I2 q2) fun f s3 q3 => ?_)
    cases f with
    | next =>
      obtain ⟨σ3, H3, I3, n3⟩ := q3
      obtain ⟨m', hm, w3⟩ := hN σ3 H3 n3
      exact ⟨m', hm, σ3, H3, I3, w3⟩
    | cont =>
      obtain ⟨σ3, H3, I3, n3⟩ := q3
      obtain ⟨m', hm, w3⟩ := hN σ3 H3 n3
      exact ⟨m', hm, σ3, H3, I3, w3⟩
    | brk => exact q3
    | ret v => exact q3
  | false =>
    rw [if_neg Bool.false_ne_true]
    exact wpAny_execs_nil ⟨σ1, H2, I2, q2⟩
end
/-- at turn i: it yields x (the heap may grow), or it stops -/
structure It where
  go : Nat → Hp → Prop
  yld : Nat → Hp → V → Hp → Prop
  stop : Nat → Hp → Prop
/-- the iterator's own objects may turn: they are not the frame's, not pinned, younger than the entry (or a comprehension's own) -/
def FpOk (X : Cx) (pins : List (Addr × Obj)) (H : Hp) (b : Addr) : Prop :=
  H b = none ∧ b ≠ X.env.locals ∧ b ∉ X.fs ∧ (b ∈ X.ex ∨ X.s_0.heap.objs.size ≤ b) ∧ (∀ x c, X.env.cells.lookup x = some c → c ≠ b) ∧ ∀ p ∈ X.pn ++ pins, p.1 ≠ b
theorem Inv.fpOk {X : Cx} {pins : List (Addr × Obj)} {σ : St} {H H' : Hp} {s : Shared} {b : Addr} (I : Inv X pins σ H s) (hb : s.heap.objs.size ≤ b) (hn : H' b = none) : FpOk X pins H' b := by
  refine ⟨hn, Nat.ne_of_gt (Nat.lt_of_lt_of_le I.lt hb), I.nofs hb, .inr (Nat.le_trans I.sz hb), fun x c e z => ?_, fun p hp z => ?_⟩
  · obtain ⟨v, q⟩ := I.cell x c e
    exact absurd (Nat.lt_of_lt_of_le q.lt (by rw [z]; exact hb)) (Nat.lt_irrefl _)
  · exact absurd (Nat.lt_of_lt_of_le (Heap.lt_size (I.pin p hp).1) (by rw [z]; exact hb)) (Nat.lt_irrefl _)
structure Turn (P : Program) (w : World) (K : PySem.W.Frag) (tg : Expr) (J : It) (fp : List Addr) (it : Addr) (tn : Nat → Heap → Prop) : Prop where
  mem : it ∈ fp
  obj : ∀ i h, tn i h → ∀ b ∈ fp, ∃ o, h.get? b = some o ∧ ∀ v, o.data ≠ .cell v
  keep : ∀ i h h', tn i h → (∀ b ∈ fp, ∀ o, h.get? b = some o → h'.get? b = some o) → tn i h'
  item : ∀ (X : Cx), X.prog = P → X.w = w → X.K = K → X.calm = true → ∀ (i : Nat) (pins : List (Addr × Obj)) (s : Shared) (σ : St) (H : Hp) (E : Value → Shared → Prop), Inv X pins σ H s → (∀ b ∈ fp, FpOk X pins H b) → tn i s.heap → J.go i H →
    wpAny (model P w) X.A (pyNext (.ref it)) (fun r s1 => ∃ u, r = some u ∧
      wpAny (model P w) X.A (letOwnedTupleGo tg (.ref it) u) (fun _ s2 => ∃ x H', Inv X pins σ H' s2 ∧ RelV x u ∧ J.yld i H x H' ∧ tn (i + 1) s2.heap ∧ ∀ b ∈ fp, H' b = none) E s1) E s
  done : ∀ (X : Cx), X.prog = P → X.w = w → X.K = K → X.calm = true → ∀ (i : Nat) (pins : List (Addr × Obj)) (s : Shared) (σ : St) (H : Hp) (E : Value → Shared → Prop), Inv X pins σ H s → (∀ b ∈ fp, FpOk X pins H b) → tn i s.heap → J.stop i H →
    wpAny (model P w) X.A (pyNext (.ref it)) (fun r s1 => r = none ∧ Inv X pins σ H s1) E s
  self : ∀ (A : Around) (i : Nat) (s : Shared) (Q : Value → Shared → Prop) (E : Value → Shared → Prop), tn i s.heap → Q (.ref it) s → wpAny (model P w) A (pyIter (.ref it)) Q E s
abbrev TI := St → Hp → (It → Hp → Prop) → Prop
/-- an iterator has come -/
def PIE (X : Cx) (pins : List (Addr × Obj)) (σ : St) (tg : Expr) (R : It → Hp → Prop) (itv : Value) (s2 : Shared) : Prop :=
  ∃ (it : Addr) (fp : List Addr) (tn : Nat → Heap → Prop) (J : It) (H' : Hp), itv = .ref it ∧ Inv X pins σ H' s2 ∧ Turn X.prog X.w X.K tg J fp it tn ∧ tn 0 s2.heap ∧ (∀ b ∈ fp, FpOk X pins H' b) ∧ R J H'
def PI (X : Cx) (tg iter : Expr) (wi : TI) : Prop :=
  ∀ (pins : List (Addr × Obj)) (s : Shared) (σ : St) (H : Hp) (R : It → Hp → Prop), Inv X pins σ H s → wi σ H R →
    wpAny (model X.prog X.w) X.A (eval iter X.env) (fun v s1 => wpAny (model X.prog X.w) X.A (pyIter v) (PIE X pins σ tg R) X.xe s1) X.xe s
/-- the step ahead of the store is nothing for an iterator that keeps no tuple -/
theorem go_of {M : Model} {A : Around} {E : Value → Shared → Prop} {s : Shared} {tg : Expr} {it : Addr} {u : Value} {o : Obj} {n : String} {vs : Array Value} {Q : Unit → Shared → Prop} (ho : s.heap.get? it = some o) (hc : o.cls = .type n) (hd : o.data = .fields vs)
    (hn : ["enumerate", "zip", "dict_itemiterator", "dict_reverseitemiterator", "odict_iterator", "itertools.zip_longest", "itertools.pairwise"].contains n = false) (hQ : Q () s) : wpAny M A (letOwnedTupleGo tg (.ref it) u) Q E s := by
  unfold letOwnedTupleGo
  cases tg <;> first
    | exact wpAny_pure hQ
    | (cases u <;> first
        | exact wpAny_pure hQ
        | (refine wpAny_bind (wpAny_load ho ?_)
           rw [hc, hd]
           show wpAny M A (if (["enumerate", "zip", "dict_itemiterator", "dict_reverseitemiterator", "odict_iterator", "itertools.zip_longest", "itertools.pairwise"].contains n && vs[0]? == some (rawInt _)) = true then _ else _) Q E s
           rw [if_neg (by intro h; rw [hn, Bool.false_and] at h; cases h)]
           exact wpAny_pure hQ))
/-- lo, lo + 1, .. (n of them) -/
def Itr (lo : Int) (n : Nat) : It := ⟨fun i _ => i < n, fun i H x H' => H' = H ∧ x = .int (lo + i), fun i _ => n ≤ i⟩
theorem turn_range {P : Program} {w : World} {K : PySem.W.Frag} {tg : Expr} (it : Addr) (lo : Int) (n : Nat) : Turn P w K tg (Itr lo n) [it] it (fun i h => IsRangeIter h it (lo + (i : Nat) * 1) ((n : Int) - (i : Nat)) 1) where
  mem := by simp
  obj := fun i h st b hb => by
    have e : b = it := by simpa using hb
    subst e
    exact ⟨_, st, fun v z => by
      have z' : Data.fields _ = Data.cell v := z
      cases z'⟩
  keep := fun i h h' st k => k it (by simp) _ st
  item := by
    intro X hP hw hK hc i pins s σ H E I hf st hg
    subst hP hw hK
    obtain ⟨f0, f1, f2, f3, f4, f5⟩ := hf it (by simp)
    have W := Walks.range (prog := X.prog) (w := X.w) (I.ok.hd hc) it lo 1 n
    refine W.item i s _ _ hg st fun v h' tk hv st' kk => ?_
    obtain ⟨t, rfl⟩ := hv
    have I1 : Inv X pins σ H { s with heap := h', toks := tk } := I.turned (fun b o hb e => kk b o (by simpa using hb) e) f0 f1 f3 f4 f5
    refine ⟨_, rfl, go_of (s := { s with heap := h', toks := tk }) (n := "range_iterator") st' rfl rfl (by decide) ⟨.int (lo + i), H, I1, ⟨t, ?_⟩, ⟨rfl, rfl⟩, st', fun b hb => (hf b hb).1⟩⟩
    rw [Int.mul_one]
  done := by
    intro X hP hw hK hc i pins s σ H E I hf st hg
    subst hP hw hK
    obtain ⟨f0, f1, f2, f3, f4, f5⟩ := hf it (by simp)
    exact wpAny_pyNext_range_end (I.ok.hd hc) st (by have : n ≤ i := hg; omega) fun h' eb => ⟨rfl, I.turned (t' := s.toks) (fun b o hb e => eb b o hb e) f0 f1 f3 f4 f5⟩
  self := fun _ _ _ _ _ st h => wpAny_pyIter_rangeiter st h
end L2
namespace L2
open PySem PySem.Spec PyProof.Rows
section
variable {X : Cx} {tg : Expr}
/-- a range object just made, walked -/
theorem range_it {pins : List (Addr × Obj)} {σ : St} {H : Hp} {s : Shared} {R : It → Hp → Prop} {E : Value → Shared → Prop} {lo hi : Int} {t u v : Tok} {tk : Nat} (I : Inv X pins σ H s) (h1 : -(2 ^ 62) ≤ lo) (h2 : lo < 2 ^ 62) (h3 : -(2 ^ 62) ≤ hi) (h4 : hi < 2 ^ 62)
    (q : R (Itr lo (hi - lo).toNat) H) : wpAny (model X.prog X.w) X.A (pyIter (.ref s.heap.objs.size)) (PIE X pins σ tg R) E { s with heap := s.heap.push { cls := .type "range", data := .fields #[.int lo t, .int hi u, .int 1 v] }, toks := tk } := by
  refine wpAny_pyIter_range (IsRange.new ..) (small_one h1 h2 h3 h4) ?_
  have I1 : Inv X pins σ H { s with heap := s.heap.push { cls := .type "range", data := .fields #[.int lo t, .int hi u, .int 1 v] }, toks := tk } := I.kept fun b o e => Heap.get?_push_of_some _ e
  refine ⟨(s.heap.push { cls := .type "range", data := .fields #[.int lo t, .int hi u, .int 1 v] }).objs.size, [(s.heap.push { cls := .type "range", data := .fields #[.int lo t, .int hi u, .int 1 v] }).objs.size], _, _, H, rfl,
    I1.kept (t' := tk) fun b o e => Heap.get?_push_of_some _ e, turn_range _ lo (hi - lo).toNat, ?_, fun b hb => ?_, q⟩
  · have e1 : lo + ((0 : Nat) : Int) * 1 = lo := by simp
    have e2 : (((hi - lo).toNat : Nat) : Int) - ((0 : Nat) : Int) = Builtin.Range.rangeSize lo hi 1 := by rw [rangeSize_one]; split <;> omega
    show IsRangeIter _ _ (lo + ((0 : Nat) : Int) * 1) ((((hi - lo).toNat : Nat) : Int) - ((0 : Nat) : Int)) 1
    rw [e1, e2]
    exact Heap.get?_push_size _ rfl
  · have e : b = (s.heap.push { cls := .type "range", data := .fields #[.int lo t, .int hi u, .int 1 v] }).objs.size := by simpa using hb
    subst e
    exact I1.fpOk (Nat.le_refl _) (I1.hok.fresh (Nat.le_refl _))
def iRng1 (ta : TA) : TI := fun σ H R => ta σ H fun vs H1 => ∃ j : Int, vs = [.int j] ∧ -(2 ^ 62) ≤ j ∧ j < 2 ^ 62 ∧ R (Itr 0 j.toNat) H1
theorem pi_range1 {a : Expr} {ta : TA} {p pos : Pos} (hg : Gl X "range") (hm : X.mg "range" = none) (ha : PA X [a] ta) (hs : starEach [a] X.env = [(false, eval a X.env)] := by rfl) : PI X tg (.Call (.Name "range" p) [a] [] pos) (iRng1 ta) := by
  intro pins s σ H R I h
  refine Call_ (ld_blt I hg hm boot_range (PyProof.Rows.callWith_type1 (thn (ha pos pins s σ H _ I h) fun us s1 ⟨vs, H1, I1, r1, q1⟩ => ?_) hs rfl))
  obtain ⟨j, e, q1, q2, q⟩ := q1
  subst e
  cases r1 with
  | cons r rr =>
    cases rr
    obtain ⟨t, rfl⟩ := r
    exact call_range_1 (range_it I1 (by omega) (by omega) q1 q2 (by simpa using q))
/-- W: the invariant by the turn and a measure; N: what the body is to reach -/
def tFor (wi : TI) (g : TG) (tb : TS) : TS := fun D σ H => wi σ H fun J H1 => ∃ W : Nat → Nat → St → Hp → Prop, (∃ m, W 0 m σ H1) ∧ ∀ i m σ H, W i m σ H →
  (J.stop i H ∧ D.nx σ H) ∨ (J.go i H ∧ ∃ N : St → Hp → Prop, (∀ σ' H', N σ' H' → ∃ m', m' < m ∧ W (i + 1) m' σ' H') ∧ ∀ x H', J.yld i H x H' → g x σ H' fun σ2 H2 => tb { D with nx := N, ct := N, bk := D.nx } σ2 H2)
/-- the records at fp as they stand -/
def pinsAt (fp : List Addr) (h : Heap) : List (Addr × Obj) := fp.filterMap fun b => (h.get? b).map fun o => (b, o)
theorem mem_pinsAt {fp : List Addr} {h : Heap} {b : Addr} {o : Obj} (hb : b ∈ fp) (e : h.get? b = some o) : (b, o) ∈ pinsAt fp h := List.mem_filterMap.mpr ⟨b, hb, by rw [e]; rfl⟩
theorem of_pinsAt {fp : List Addr} {h : Heap} {p : Addr × Obj} (hp : p ∈ pinsAt fp h) : p.1 ∈ fp ∧ h.get? p.1 = some p.2 := by
  obtain ⟨b, hb, e⟩ := List.mem_filterMap.mp hp
  cases q : h.get? b with
  | none => rw [q] at e; cases e
  | some o =>
    rw [q] at e
    have e' : (b, o) = p := Option.some.inj e
    subst e'
    exact ⟨hb, q⟩
theorem Inv.pinned {pins : List (Addr × Obj)} {σ : St} {H : Hp} {s : Shared} {fp : List Addr} (I : Inv X pins σ H s) (hf : ∀ b ∈ fp, FpOk X pins H b) (ho : ∀ b ∈ fp, ∃ o, s.heap.get? b = some o ∧ ∀ v, o.data ≠ .cell v) : Inv X (pins ++ pinsAt fp s.heap) σ H s :=
  I.pins_of fun p hp => (List.mem_append.mp hp).elim (fun z => I.pin p (List.mem_append_right _ z)) fun z => by
    obtain ⟨hb, e⟩ := of_pinsAt z
    obtain ⟨f0, f1, f2, _⟩ := hf p.1 hb
    obtain ⟨o, e', d⟩ := ho p.1 hb
    rw [e] at e'; cases e'
    exact ⟨e, f0, f1, f2, d⟩
theorem Inv.unpinned {pins pl : List (Addr × Obj)} {σ : St} {H : Hp} {s : Shared} (I : Inv X (pins ++ pl) σ H s) : Inv X pins σ H s := I.pins_of fun p hp => I.pin p (List.mem_append_right _ (List.mem_append_left _ hp))
theorem ps_for {iter : Expr} {body : List Stmt} {wi : TI} {g : TG} {tb : TS} {pos : Pos} (hp : PassesOwn (model X.prog X.w) X.A X.env X.xe) (hc : X.calm = true) (hi : PI X tg iter wi) (hg : PG X tg g) (hb : PSs X body tb)
    (hs : ∀ x, foldedSetIterable iter X.env x = pure x := by intro _; rfl) : PS X (.For tg iter body [] pos) (tFor wi g tb) := by
  intro pins s σ H D I h
  refine wpAny_For (thn (hi pins s σ H _ I h) fun v s1 h1 => thn h1 fun itv s2 h2 => ?_) hs
  obtain ⟨it, fp, tn, J, H2, e, I2, T, st2, f2, W, ⟨m0, w0⟩, turn⟩ := h2
  subst e
  -- what stays true of the iterator's objects through the loop
  have stat : ∀ {H' : Hp}, (∀ b ∈ fp, H' b = none) → ∀ b ∈ fp, FpOk X pins H' b := fun hn b hb => ⟨hn b hb, (f2 b hb).2⟩
  refine codeAny_forLoop_any (fun n s' => ∃ i σ' H', Inv X pins σ' H' s' ∧ tn i s'.heap ∧ (∀ b ∈ fp, H' b = none) ∧ W i n σ' H') ?_ m0 ⟨0, σ, H2, I2, st2, fun b hb => (f2 b hb).1, w0⟩
  rintro n s3 ⟨i, σ3, H3, I3, st3, fr3, w3⟩
  rcases turn i n σ3 H3 w3 with ⟨stop, qn⟩ | ⟨go, N, hN, step⟩
  · refine wpAny_passesOwn hp (thn (T.done X rfl rfl rfl hc i pins s3 σ3 H3 X.xe I3 (stat fr3) st3 stop) fun r s4 ⟨hr, I4⟩ => ?_)
    subst hr
    exact wpAny_execs_nil ⟨σ3, H3, I4, qn⟩
  · refine wpAny_passesOwn hp (thn (T.item X rfl rfl rfl hc i pins s3 σ3 H3 X.xe I3 (stat fr3) st3 go) fun r s4 ⟨u, hr, h4⟩ => ?_)
    subst hr
    refine wpAny_passesOwn hp (thn h4 fun _ s5 ⟨x, H5, I5, r5, y5, st5, fr5⟩ => ?_)
    have I5' := I5.pinned (stat fr5) (T.obj _ _ st5)
    refine wpAny_passesOwn hp (thn (hg _ s5 σ3 H5 x u _ I5' r5 (step x H5 y5)) fun _ s6 ⟨σ6, H6, I6, q6⟩ => ?_)
    refine wpAny_passesOwn hp (thn (hb _ s6 σ6 H6 _ I6 q6) fun f s7 q7 => ?_)
    have again : ∀ {σ7 : St} {H7 : Hp}, Inv X (pins ++ pinsAt fp s5.heap) σ7 H7 s7 → N σ7 H7 → ∃ m, m < n ∧ ∃ i σ' H', Inv X pins σ' H' s7 ∧ tn i s7.heap ∧ (∀ b ∈ fp, H' b = none) ∧ W i m σ' H' := fun {σ7 H7} I7 n7 => by
      obtain ⟨m', hm, w7⟩ := hN σ7 H7 n7
      refine ⟨m', hm, i + 1, σ7, H7, I7.unpinned, T.keep _ _ _ st5 fun b hb o e => (I7.pin (b, o) (List.mem_append_right _ (List.mem_append_right _ (mem_pinsAt hb e)))).1, fun b hb => ?_, w7⟩
      obtain ⟨o, e, d⟩ := T.obj _ _ st5 b hb
      exact (I7.pin (b, o) (List.mem_append_right _ (List.mem_append_right _ (mem_pinsAt hb e)))).2.1
    cases f with
    | next => obtain ⟨σ7, H7, I7, n7⟩ := q7; exact again I7 n7
    | cont => obtain ⟨σ7, H7, I7, n7⟩ := q7; exact again I7 n7
    | brk => obtain ⟨σ7, H7, I7, q7⟩ := q7; exact ⟨σ7, H7, I7.unpinned, q7⟩
    | ret v => obtain ⟨x7, σ7, H7, I7, r7, q7⟩ := q7; exact ⟨x7, σ7, H7, I7.unpinned, r7, q7⟩
end
theorem for_range {lo : Int} {n : Nat} {g : TG} {tb : TS} {D : Ends} {σ : St} {H : Hp} (Pv : Nat → St → Hp → Prop) (h0 : Pv 0 σ H)
    (hs : ∀ i σ H, i < n → Pv i σ H → g (.int (lo + i)) σ H fun σ2 H2 => tb { D with nx := Pv (i + 1), ct := Pv (i + 1), bk := D.nx } σ2 H2) (hd : ∀ σ H, Pv n σ H → D.nx σ H) :
    ∃ W : Nat → Nat → St → Hp → Prop, (∃ m, W 0 m σ H) ∧ ∀ i m σ H, W i m σ H →
      ((Itr lo n).stop i H ∧ D.nx σ H) ∨ ((Itr lo n).go i H ∧ ∃ N : St → Hp → Prop, (∀ σ' H', N σ' H' → ∃ m', m' < m ∧ W (i + 1) m' σ' H') ∧ ∀ x H', (Itr lo n).yld i H x H' → g x σ H' fun σ2 H2 => tb { D with nx := N, ct := N, bk := D.nx } σ2 H2) := by
  refine ⟨fun i m σ H => m = n - i ∧ i ≤ n ∧ Pv i σ H, ⟨n, by simp, Nat.zero_le _, h0⟩, ?_⟩
  rintro i m σ H ⟨rfl, hi, p⟩
  by_cases hlt : i < n
  · refine .inr ⟨hlt, Pv (i + 1), fun σ' H' p' => ⟨n - (i + 1), by omega, rfl, hlt, p'⟩, fun x H' y => ?_⟩
    obtain ⟨e, y⟩ := y
    subst e y
    exact hs i σ _ hlt p
  · have e : i = n := by omega
    subst e
    exact .inl ⟨Nat.le_refl _, hd σ H p⟩
/-- while, by a word and a measure of the state -/
theorem while_by {c : TT} {tb : TS} {D : Ends} {σ : St} {H : Hp} (Pv : St → Hp → Prop) (μ : St → Hp → Nat) (h0 : Pv σ H)
    (hs : ∀ σ H, Pv σ H → c σ H fun b H1 => if b = true then tb { D with nx := fun σ' H' => Pv σ' H' ∧ μ σ' H' < μ σ H, ct := fun σ' H' => Pv σ' H' ∧ μ σ' H' < μ σ H, bk := D.nx } σ H1 else D.nx σ H1)
    (mono : ∀ σ H Q Q', (∀ b H1, Q b H1 → Q' b H1) → c σ H Q → c σ H Q') : tWhile c tb D σ H := by
  refine ⟨fun m σ H => m = μ σ H ∧ Pv σ H, ⟨_, rfl, h0⟩, ?_⟩
  rintro m σ H ⟨rfl, p⟩
  refine mono σ H _ _ (fun b H1 q => ?_) (hs σ H p)
  cases b with
  | true => exact ⟨_, fun σ' H' ⟨p', l⟩ => ⟨_, l, rfl, p'⟩, q⟩
  | false => exact q
end L2
namespace L2
open PySem PySem.Spec PyProof.Rows
abbrev R2 := V → V → Hp → VK → Prop
/-- a two-place operation on values: f is binaryOp op, inplaceOp op or compareOp op -/
def OpR (X : Cx) (f : Value → Value → Sem Value) (r : R2) : Prop :=
  ∀ (pins : List (Addr × Obj)) (s : Shared) (σ : St) (H : Hp) (x y : V) (v u : Value) (Q : VK), Inv X pins σ H s → RelV x v → RelV y u → r x y H Q →
    wpAny (model X.prog X.w) X.A (f v u) (EP X pins σ Q) X.xe s
/-- a one-place operation -/
def UnR (X : Cx) (f : Value → Sem Value) (r : V → Hp → VK → Prop) : Prop :=
  ∀ (pins : List (Addr × Obj)) (s : Shared) (σ : St) (H : Hp) (x : V) (v : Value) (Q : VK), Inv X pins σ H s → RelV x v → r x H Q →
    wpAny (model X.prog X.w) X.A (f v) (EP X pins σ Q) X.xe s
/-- a call of a value that is known (a builtin, a type) with values -/
def CallR (X : Cx) (f : Value) (r : List V → Hp → VK → Prop) : Prop :=
  ∀ (pins : List (Addr × Obj)) (s : Shared) (σ : St) (H : Hp) (xs : List V) (us : List Value) (Q : VK), Inv X pins σ H s → Vals xs us → r xs H Q →
    wpAny (model X.prog X.w) X.A (call f us) (EP X pins σ Q) X.xe s
def tOp (r : R2) (ta tb : TE) : TE := fun σ H Q => ta σ H fun x H1 => tb σ H1 fun y H2 => r x y H2 Q
def tUn (r : V → Hp → VK → Prop) (ta : TE) : TE := fun σ H Q => ta σ H fun x H1 => r x H1 Q
/-- ints in, under C, and a value out -/
def rI (C : Int → Int → Prop) (g : Int → Int → V) : R2 := fun x y H Q => ∃ i j, x = .int i ∧ y = .int j ∧ C i j ∧ Q (g i j) H
def rI0 (g : Int → Int → V) : R2 := fun x y H Q => ∃ i j, x = .int i ∧ y = .int j ∧ Q (g i j) H
def rU (g : Int → V) : V → Hp → VK → Prop := fun x H Q => ∃ i, x = .int i ∧ Q (g i) H
section
variable {X : Cx} {a b c : Expr} {ta tb tc : TE} {pos : Pos}
theorem binT (ha : PE X a ta) (hb : PE X b tb) {pins : List (Addr × Obj)} {s : Shared} {σ : St} {H : Hp} {R : V → V → Hp → Prop} (I : Inv X pins σ H s)
    (h : ta σ H fun x H1 => tb σ H1 fun y H2 => R x y H2) {Q : Value → Shared → Prop} {f : Value → Value → Sem Value}
    (hf : ∀ v u s2 x y H2, Inv X pins σ H2 s2 → RelV x v → RelV y u → R x y H2 → wpAny (model X.prog X.w) X.A (f v u) Q X.xe s2) :
    wpAny (model X.prog X.w) X.A (eval a X.env) (fun v s₁ => wpAny (model X.prog X.w) X.A (eval b X.env) (fun u s₂ => wpAny (model X.prog X.w) X.A (f v u) Q X.xe s₂) X.xe s₁) X.xe s := by
  refine thn (ha pins s σ H _ I h) fun v s1 ⟨x, H1, I1, r1, q1⟩ => ?_
  refine thn (hb pins s1 σ H1 _ I1 q1) fun u s2 ⟨y, H2, I2, r2, q2⟩ => ?_
  exact hf v u s2 x y H2 I2 r1 r2 q2
theorem pe_op {op : Operator} {r : R2} (ho : OpR X (binaryOp op) r) (ha : PE X a ta) (hb : PE X b tb) : PE X (.BinOp a op b pos) (tOp r ta tb) := by
  intro pins s σ H Q I h
  exact wpAny_BinOp (binT ha hb I h fun v u s2 x y H2 I2 rx ry q => ho pins s2 σ H2 x y v u Q I2 rx ry q)
theorem pe_un {op : UnaryOp} {r : V → Hp → VK → Prop} (ho : UnR X (unaryOp op) r) (ha : PE X a ta) : PE X (.UnaryOp op a pos) (tUn r ta) := by
  intro pins s σ H Q I h
  exact UnaryOp_ (thn (ha pins s σ H _ I h) fun v s1 ⟨x, H1, I1, r1, q1⟩ => ho pins s1 σ H1 x v Q I1 r1 q1)
/-! ### ints -/
theorem opI {f : Value → Value → Sem Value} {C : Int → Int → Prop} {g : Int → Int → Int}
    (rule : ∀ (i j : Int) (t u : Tok) (s : Shared) (Q : Value → Shared → Prop) (E : Value → Shared → Prop), C i j → Q (.int (g i j) s.toks) { s with toks := s.toks + 1 } → wpAny (model X.prog X.w) X.A (f (.int i t) (.int j u)) Q E s) :
    OpR X f (rI C fun i j => .int (g i j)) := by
  intro pins s σ H x y v u Q I rx ry h
  obtain ⟨i, j, rfl, rfl, hc, q⟩ := h
  obtain ⟨t, rfl⟩ := rx
  obtain ⟨t', rfl⟩ := ry
  exact rule i j t t' s _ _ hc ⟨.int (g i j), H, I.tok _, ⟨_, rfl⟩, q⟩
theorem opI0 {f : Value → Value → Sem Value} {g : Int → Int → Int}
    (rule : ∀ (i j : Int) (t u : Tok) (s : Shared) (Q : Value → Shared → Prop) (E : Value → Shared → Prop), Q (.int (g i j) s.toks) { s with toks := s.toks + 1 } → wpAny (model X.prog X.w) X.A (f (.int i t) (.int j u)) Q E s) :
    OpR X f (rI0 fun i j => .int (g i j)) := by
  intro pins s σ H x y v u Q I rx ry h
  obtain ⟨i, j, rfl, rfl, q⟩ := h
  obtain ⟨t, rfl⟩ := rx
  obtain ⟨t', rfl⟩ := ry
  exact rule i j t t' s _ _ ⟨.int (g i j), H, I.tok _, ⟨_, rfl⟩, q⟩
theorem opB0 {f : Value → Value → Sem Value} {g : Int → Int → Bool}
    (rule : ∀ (i j : Int) (t u : Tok) (s : Shared) (Q : Value → Shared → Prop) (E : Value → Shared → Prop), Q (.bool (g i j)) s → wpAny (model X.prog X.w) X.A (f (.int i t) (.int j u)) Q E s) :
    OpR X f (rI0 fun i j => .bl (g i j)) := by
  intro pins s σ H x y v u Q I rx ry h
  obtain ⟨i, j, rfl, rfl, q⟩ := h
  obtain ⟨t, rfl⟩ := rx
  obtain ⟨t', rfl⟩ := ry
  exact rule i j t t' s _ _ ⟨.bl (g i j), H, I, rfl, q⟩
def CPow (i j : Int) : Prop := 0 ≤ j ∧ j ≤ 1000000 ∧ i.natAbs < 2 ^ 64
def CMul (i j : Int) : Prop := (-(2 ^ 64) < i ∧ i < 2 ^ 64) ∨ (-(2 ^ 64) < j ∧ j < 2 ^ 64)
theorem CMul.ok {i j : Int} (h : CMul i j) : IntMulOk i j := by
  rcases h with ⟨h1, h2⟩ | ⟨h1, h2⟩
  · exact .of_left (intBits_le_64 h1 h2)
  · exact .of_right (intBits_le_64 h1 h2)
theorem op_add : OpR X (binaryOp .Add) (rI0 fun i j => .int (i + j)) := opI0 fun _ _ _ _ _ _ _ q => add_int q
theorem op_sub : OpR X (binaryOp .Sub) (rI0 fun i j => .int (i - j)) := opI0 fun _ _ _ _ _ _ _ q => sub_int q
/-- % by a positive divisor of any size -/
theorem op_mod : OpR X (binaryOp .Mod) (rI (fun _ j => 0 < j) fun i j => .int (i % j)) := opI fun i j _ _ _ _ _ hc q => by
  have h1 : (0 : Int) < j := hc
  exact mod_int' (by omega) (by rw [Int.fmod_eq_emod_of_nonneg i (by omega)]; exact q)
theorem op_shl : OpR X (binaryOp .LShift) (rI CPow fun i j => .int (i * 2 ^ j.toNat)) := opI fun _ _ _ _ _ _ _ hc q => lshift_int_small hc.1 hc.2.1 hc.2.2 q
theorem unI {f : Value → Sem Value} {g : Int → Int}
    (rule : ∀ (i : Int) (t : Tok) (s : Shared) (Q : Value → Shared → Prop) (E : Value → Shared → Prop), Q (.int (g i) s.toks) { s with toks := s.toks + 1 } → wpAny (model X.prog X.w) X.A (f (.int i t)) Q E s) :
    UnR X f (rU fun i => .int (g i)) := by
  intro pins s σ H x v Q I rx h
  obtain ⟨i, rfl, q⟩ := h
  obtain ⟨t, rfl⟩ := rx
  exact rule i t s _ _ ⟨.int (g i), H, I.tok _, ⟨_, rfl⟩, q⟩
theorem un_neg : UnR X (unaryOp .USub) (rU fun i => .int (-i)) := unI fun _ _ _ _ _ q => neg_int q
end
/-- the scalars that == tells apart as data does -/
def scal : V → V → Bool
  | .non, .non => true | .non, .int _ => true | .int _, .non => true | .non, .bl _ => true | .bl _, .non => true | .non, .str _ => true | .str _, .non => true
  | .int _, .int _ => true | .bl _, .bl _ => true | .str _, .str _ => true | .byt _, .byt _ => true
  | .int _, .str _ => true | .str _, .int _ => true | .bl _, .str _ => true | .str _, .bl _ => true
  | _, _ => false
def rEq : R2 := fun x y H Q => scal x y = true ∧ Q (.bl (decide (x = y))) H
def rNe : R2 := fun x y H Q => scal x y = true ∧ Q (.bl (!decide (x = y))) H
theorem dec_int {i j : Int} : decide (V.int i = V.int j) = (i == j) := by
  rw [Bool.eq_iff_iff]
  simp
theorem dec_bl {i j : Bool} : decide (V.bl i = V.bl j) = (i == j) := by
  rw [Bool.eq_iff_iff]
  simp
theorem dec_str {i j : Str} : decide (V.str i = V.str j) = (i == j) := by
  rw [Bool.eq_iff_iff]
  simp
theorem dec_byt {i j : Array UInt8} : decide (V.byt i = V.byt j) = (i.toList == j.toList) := by
  rw [Bool.eq_iff_iff]
  cases i
  cases j
  simp
section
variable {X : Cx} {a b c : Expr} {ta tb tc : TE} {pos : Pos}
theorem fin_bl {pins : List (Addr × Obj)} {σ : St} {H : Hp} {s : Shared} {Q : VK} {k k' : Bool} (I : Inv X pins σ H s) (q : Q (.bl k) H) (e : k = k') : EP X pins σ Q (.bool k') s := by
  subst e
  exact ⟨.bl k, H, I, rfl, q⟩
theorem op_eq : OpR X (compareOp .Eq) rEq := by
  intro pins s σ H x y v u Q I rx ry h
  obtain ⟨hs, q⟩ := h
  cases x with
  | non =>
    cases rx
    cases y with
    | non => cases ry; exact PySem.EqNone.eq_none_none (fin_bl I q (by simp))
    | bl j => cases ry; exact PySem.EqNone.eq_none_bool (fin_bl I q (by simp))
    | int j => obtain ⟨t', rfl⟩ := ry; exact PySem.EqNone.eq_none_int (fin_bl I q (by simp))
    | str j => obtain ⟨t', rfl⟩ := ry; exact PySem.EqNone.eq_none_str (fin_bl I q (by simp))
    | _ => exact absurd (show false = true from hs) Bool.false_ne_true
  | bl i =>
    cases rx
    cases y with
    | non => cases ry; exact PySem.EqNone.eq_bool_none (fin_bl I q (by simp))
    | bl j => cases ry; exact eq_bool (fin_bl I q dec_bl)
    | str j => obtain ⟨t', rfl⟩ := ry; exact PySem.EqMixed.eq_bool_str (fin_bl I q (by simp))
    | _ => exact absurd (show false = true from hs) Bool.false_ne_true
  | int i =>
    obtain ⟨t, rfl⟩ := rx
    cases y with
    | non => cases ry; exact PySem.EqNone.eq_int_none (fin_bl I q (by simp))
    | int j => obtain ⟨t', rfl⟩ := ry; exact eq_int (fin_bl I q dec_int)
    | str j => obtain ⟨t', rfl⟩ := ry; exact PySem.EqMixed.eq_int_str (fin_bl I q (by simp))
    | _ => exact absurd (show false = true from hs) Bool.false_ne_true
  | str i =>
    obtain ⟨t, rfl⟩ := rx
    cases y with
    | non => cases ry; exact PySem.EqNone.eq_str_none (fin_bl I q (by simp))
    | bl j => cases ry; exact PySem.EqMixed.eq_str_bool (fin_bl I q (by simp))
    | int j => obtain ⟨t', rfl⟩ := ry; exact PySem.EqMixed.eq_str_int (fin_bl I q (by simp))
    | str j => obtain ⟨t', rfl⟩ := ry; exact eq_str (fin_bl I q dec_str)
    | _ => exact absurd (show false = true from hs) Bool.false_ne_true
  | byt i =>
    obtain ⟨t, rfl⟩ := rx
    cases y with
    | byt j => obtain ⟨t', rfl⟩ := ry; exact PySem.W.eq_bytes (fin_bl I q dec_byt)
    | _ => exact absurd (show false = true from hs) Bool.false_ne_true
  | _ => cases y <;> exact absurd (show false = true from hs) Bool.false_ne_true
theorem op_ne : OpR X (compareOp .NotEq) rNe := by
  intro pins s σ H x y v u Q I rx ry h
  obtain ⟨hs, q⟩ := h
  cases x with
  | non =>
    cases rx
    cases y with
    | non => cases ry; exact PySem.EqNone.ne_none_none (fin_bl I q (by simp))
    | bl j => cases ry; exact PySem.EqNone.ne_none_bool (fin_bl I q (by simp))
    | int j => obtain ⟨t', rfl⟩ := ry; exact PySem.EqNone.ne_none_int (fin_bl I q (by simp))
    | str j => obtain ⟨t', rfl⟩ := ry; exact PySem.EqNone.ne_none_str (fin_bl I q (by simp))
    | _ => exact absurd (show false = true from hs) Bool.false_ne_true
  | bl i =>
    cases rx
    cases y with
    | non => cases ry; exact PySem.EqNone.ne_bool_none (fin_bl I q (by simp))
    | bl j => cases ry; exact ne_bool (fin_bl I q (congrArg not dec_bl))
    | str j => obtain ⟨t', rfl⟩ := ry; exact PySem.EqMixed.ne_bool_str (fin_bl I q (by simp))
    | _ => exact absurd (show false = true from hs) Bool.false_ne_true
  | int i =>
    obtain ⟨t, rfl⟩ := rx
    cases y with
    | non => cases ry; exact PySem.EqNone.ne_int_none (fin_bl I q (by simp))
    | int j => obtain ⟨t', rfl⟩ := ry; exact ne_int (fin_bl I q (congrArg not dec_int))
    | str j => obtain ⟨t', rfl⟩ := ry; exact PySem.EqMixed.ne_int_str (fin_bl I q (by simp))
    | _ => exact absurd (show false = true from hs) Bool.false_ne_true
  | str i =>
    obtain ⟨t, rfl⟩ := rx
    cases y with
    | non => cases ry; exact PySem.EqNone.ne_str_none (fin_bl I q (by simp))
    | bl j => cases ry; exact PySem.EqMixed.ne_str_bool (fin_bl I q (by simp))
    | int j => obtain ⟨t', rfl⟩ := ry; exact PySem.EqMixed.ne_str_int (fin_bl I q (by simp))
    | str j => obtain ⟨t', rfl⟩ := ry; exact ne_str (fin_bl I q (congrArg not dec_str))
    | _ => exact absurd (show false = true from hs) Bool.false_ne_true
  | byt i =>
    obtain ⟨t, rfl⟩ := rx
    cases y with
    | byt j => obtain ⟨t', rfl⟩ := ry; exact PySem.W.ne_bytes (fin_bl I q (congrArg not dec_byt))
    | _ => exact absurd (show false = true from hs) Bool.false_ne_true
  | _ => cases y <;> exact absurd (show false = true from hs) Bool.false_ne_true
theorem op_lt : OpR X (compareOp .Lt) (rI0 fun i j => .bl (decide (i < j))) := opB0 fun _ _ _ _ _ _ _ q => lt_int q
theorem op_le : OpR X (compareOp .LtE) (rI0 fun i j => .bl (decide (i ≤ j))) := opB0 fun _ _ _ _ _ _ _ q => le_int q
theorem op_gt : OpR X (compareOp .Gt) (rI0 fun i j => .bl (decide (j < i))) := opB0 fun _ _ _ _ _ _ _ q => gt_int q
theorem op_ge : OpR X (compareOp .GtE) (rI0 fun i j => .bl (decide (j ≤ i))) := opB0 fun _ _ _ _ _ _ _ q => ge_int q
theorem op_notN : OpR X (compareOp .IsNot) (fun x y H Q => y = .non ∧ Q (.bl (!decide (x = .non))) H) := by
  intro pins s σ H x y v u Q I rx ry h
  obtain ⟨rfl, q⟩ := h
  cases ry
  refine isnot_none_gen (fin_bl I q ?_)
  cases x <;> first
    | (cases rx; rfl)
    | (obtain ⟨t, rfl⟩ := rx; rfl)
/-- two rules for one operation: by cases -/
theorem OpR.or {f : Value → Value → Sem Value} {r r' : R2} (h : OpR X f r) (h' : OpR X f r') : OpR X f (fun x y H Q => r x y H Q ∨ r' x y H Q) := by
  intro pins s σ H x y v u Q I rx ry q
  rcases q with q | q
  · exact h pins s σ H x y v u Q I rx ry q
  · exact h' pins s σ H x y v u Q I rx ry q
theorem nomark (b : Expr) {op : CmpOp} (h : op ≠ .In := by decide) (h2 : op ≠ .NotIn := by decide) : behindInMarks op b = false := by
  have e1 : (op == CmpOp.In) = false := by cases op <;> first | rfl | exact absurd rfl h
  have e2 : (op == CmpOp.NotIn) = false := by cases op <;> first | rfl | exact absurd rfl h2
  cases b <;> simp [behindInMarks, e1, e2]
/-- a comparison as a value; hm: nomark b, or (for in, not in) by with_unfolding_all rfl -/
theorem pe_cmpR {op : CmpOp} {r : R2} (ho : OpR X (compareOp op) r) (ha : PE X a ta) (hb : PE X b tb) (hm : behindInMarks op b = false) : PE X (.Compare a [op] [b] pos) (tOp r ta tb) := by
  intro pins s σ H Q I h
  exact wpAny_Compare1 (binT ha hb I h fun v u s2 x y H2 I2 rx ry q => ho pins s2 σ H2 x y v u Q I2 rx ry q) hm
/-- a reading of a value as a test -/
def tTest (t : TE) : TT := fun σ H Q => t σ H fun x H' => ∃ k, x = .bl k ∧ Q k H'
theorem pt_cmpR {op : CmpOp} {r : R2} (ho : OpR X (compareOp op) r) (ha : PE X a ta) (hb : PE X b tb) (hm : behindInMarks op b = false) : PT X (.Compare a [op] [b] pos) (tTest (tOp r ta tb)) := by
  intro pins s σ H Q I h
  refine wpAny_isTrue_Compare1 (thn (ha pins s σ H _ I h) fun v s1 ⟨x, H1, I1, r1, q1⟩ => thn (hb pins s1 σ H1 _ I1 q1) fun u s2 ⟨y, H2, I2, r2, q2⟩ =>
    thn (ho pins s2 σ H2 x y v u _ I2 r1 r2 q2) fun c s3 ⟨z, H3, I3, r3, k, e, q3⟩ => ?_) hm
  subst e
  cases r3
  exact wpAny_truthy_bool ⟨H3, I3, q3⟩
theorem line63 : (sizeLine : Nat) < 2 ^ 63 := by rw [sizeLine_eq]; decide
/-! ### scalar builtins, by CallR -/
theorem vals1 {x : V} {us : List Value} (r : Vals [x] us) : ∃ u, us = [u] ∧ RelV x u := by
  cases r with
  | cons r1 r2 => cases r2; exact ⟨_, rfl, r1⟩
theorem vals2 {x y : V} {us : List Value} (r : Vals [x, y] us) : ∃ u w', us = [u, w'] ∧ RelV x u ∧ RelV y w' := by
  cases r with
  | cons r1 r2 =>
    cases r2 with
    | cons r3 r4 => cases r4; exact ⟨_, _, rfl, r1, r3⟩
theorem call_abs : CallR X (.builtin "abs") (fun xs H Q => ∃ i, xs = [.int i] ∧ Q (.int (if i < 0 then -i else i)) H) := by
  intro pins s σ H xs us Q I r h
  obtain ⟨i, rfl, q⟩ := h
  obtain ⟨u, rfl, t, rfl⟩ := vals1 r
  exact call_abs_int fun u tk => ⟨.int (if i < 0 then -i else i), H, I.tok _, ⟨_, rfl⟩, q⟩
theorem call_max2 (hc : X.calm = true) : CallR X (.builtin "max") (fun xs H Q => ∃ i j, xs = [.int i, .int j] ∧ Q (.int (if j > i then j else i)) H) := by
  intro pins s σ H xs us Q I r h
  obtain ⟨i, j, rfl, q⟩ := h
  obtain ⟨u, w', rfl, ⟨t, rfl⟩, ⟨t', rfl⟩⟩ := vals2 r
  refine max_two_ints (I.ok.hd hc) fun h' tk k => ⟨_, H, I.kept k, ?_, q⟩
  by_cases hj : j > i
  · rw [if_pos hj, if_pos hj]; exact ⟨_, rfl⟩
  · rw [if_neg hj, if_neg hj]; exact ⟨_, rfl⟩
theorem call_min2 (hc : X.calm = true) : CallR X (.builtin "min") (fun xs H Q => ∃ i j, xs = [.int i, .int j] ∧ Q (.int (if j < i then j else i)) H) := by
  intro pins s σ H xs us Q I r h
  obtain ⟨i, j, rfl, q⟩ := h
  obtain ⟨u, w', rfl, ⟨t, rfl⟩, ⟨t', rfl⟩⟩ := vals2 r
  refine min_two_ints (I.ok.hd hc) fun h' tk k => ⟨_, H, I.kept k, ?_, q⟩
  by_cases hj : j < i
  · rw [if_pos hj, if_pos hj]; exact ⟨_, rfl⟩
  · rw [if_neg hj, if_neg hj]; exact ⟨_, rfl⟩
theorem call_int1 : CallR X (.type "int") (fun xs H Q => (∃ i, xs = [.int i] ∧ Q (.int i) H) ∨ ∃ k, xs = [.bl k] ∧ Q (.int (if k then 1 else 0)) H) := by
  intro pins s σ H xs us Q I r h
  rcases h with ⟨i, rfl, q⟩ | ⟨k, rfl, q⟩
  · obtain ⟨u, rfl, t, rfl⟩ := vals1 r
    exact call_int_int ⟨.int i, H, I, ⟨_, rfl⟩, q⟩
  · obtain ⟨u, rfl, r1⟩ := vals1 r
    cases r1
    exact call_int_bool ⟨.int (if k then 1 else 0), H, I.tok _, ⟨_, rfl⟩, q⟩
end
end L2
namespace L2
open PySem PySem.Spec PyProof.Rows
/-! ### an instance, its attributes a map -/
structure ObjM (h : Heap) (x dx C : Addr) (mA : Str → Option Value) : Prop where
  obj : h.get? x = some (PySem.W.instObj C dx)
  ns : h.Ns1 dx mA
  ne : dx ≠ x
theorem lookIn_ns {h : Heap} {dx : Addr} {mA : Str → Option Value} (n : h.Ns1 dx mA) : ∃ od, h.get? dx = some od ∧ ∀ name, PySem.W.lookIn name od = some (mA name) := by
  obtain ⟨o, es, ep, ho, hd, hk, _, hm⟩ := n
  refine ⟨o, ho, fun name => ?_⟩
  have e := hm name
  unfold nsFind findBy at e
  rw [← Array.find?_toList] at e
  unfold PySem.W.lookIn
  rw [hd]
  dsimp only
  split
  · rename_i y q
    rw [q] at e
    exact congrArg some e
  · rename_i q
    rw [q] at e
    have a : es.toList.any (·.refKey) = false := by
      rw [List.any_eq_false]
      intro y hy
      obtain ⟨z, t, hkey⟩ := hk y (Array.mem_toList_iff.mp hy)
      simp [DictEntry.refKey, hkey]
    have a' : ¬ es.toList.any (·.refKey) = true := by rw [a]; exact Bool.false_ne_true
    rw [if_neg a']
    exact congrArg some e
theorem ObjM.look {h : Heap} {x dx C : Addr} {mA : Str → Option Value} (I : ObjM h x dx C mA) : ∃ od, PySem.W.InstAt h x (PySem.W.instObj C dx) C (some od) ∧ ∀ name, PySem.W.lookIn name od = some (mA name) :=
  let ⟨od, ho, hl⟩ := lookIn_ns I.ns
  ⟨od, ⟨I.obj, rfl, rfl, ho⟩, hl⟩
section
variable {P : Program} {w : World} {H H' : Hp} {h h' : Heap} {a C dx : Addr} {fs fs' : List (Str × V)}
theorem ins_get (hok : HOk P w H h) (e : H a = some (.ins C dx fs)) : ∃ mA, ObjM h a dx C mA ∧ (∀ f, RelO (fs.lookup f) (mA f)) ∧ PySem.Within mA (fs.map (·.1)) ∧ fs.length ≤ 1000 ∧ H dx = some (.own a) := by
  obtain ⟨d, z, ne, ob, mA, n, r, q⟩ := (show ObjOk P w H h a (.ins C dx fs) from hok a _ e)
  exact ⟨mA, ⟨ob, n, ne⟩, r, q, z, d⟩
end
/-! ### what of the text a class must have -/
structure Cls (K : PySem.W.Frag) (C : Addr) : Prop where
  pg : PySem.W.plainGet K C Str.empty = true
  hd : PySem.W.hasDictIn K C = true
  po : PySem.W.plainOver K C = true
  sa : PySem.W.findIn K (.ref C) "__setattr__" = some (some (.builtin "object.__setattr__"))
theorem Cls.get {K : PySem.W.Frag} {C : Addr} (c : Cls K C) (f : Str) : PySem.W.plainGet K C f = true := c.pg
section
variable {X : Cx} {pins : List (Addr × Obj)} {σ : St} {H : Hp} {s : Shared} {a C dx : Addr} {fs : List (Str × V)} {f : Str} {v : V} {A : Around} {E : Value → Shared → Prop}
/-- a new instance, tracked, without attributes -/
theorem Inv.made (I : Inv X pins σ H s) : Inv X pins σ (upd (upd H s.heap.objs.size (.own (s.heap.objs.size + 1))) (s.heap.objs.size + 1) (.ins C s.heap.objs.size []))
    { s with heap := (s.heap.push PySem.W.emptyDict).push (PySem.W.instObj C s.heap.objs.size) } := by
  have e1 : (s.heap.push PySem.W.emptyDict).get? s.heap.objs.size = some PySem.W.emptyDict := Heap.get?_push_size s.heap rfl
  have e2 : ((s.heap.push PySem.W.emptyDict).push (PySem.W.instObj C s.heap.objs.size)).get? (s.heap.objs.size + 1) = some (PySem.W.instObj C s.heap.objs.size) := by
    have := Heap.get?_push_size (s.heap.push PySem.W.emptyDict) (o := PySem.W.instObj C s.heap.objs.size) rfl
    rwa [Heap.size_push] at this
  have e3 : (s.heap.push PySem.W.emptyDict).Ns s.heap.objs.size (fun _ => none) := ⟨PySem.W.emptyDict, #[], _, e1, rfl, (fun e he => absurd he (by simp)), fun _ => rfl⟩
  have I1 := I.laid (a := s.heap.objs.size) (o := .own (s.heap.objs.size + 1)) (h' := s.heap.push PySem.W.emptyDict) (t' := s.toks) (fun b u q => Heap.get?_push_of_some _ q) (Nat.le_refl _) ⟨_, e1⟩
  refine I1.laid (a := s.heap.objs.size + 1) (o := .ins C s.heap.objs.size []) (t' := s.toks) (fun b u q => Heap.get?_push_of_some _ q) (Nat.le_of_eq (Heap.size_push _ _)) ?_
  have ne : s.heap.objs.size ≠ s.heap.objs.size + 1 := Nat.ne_of_lt (Nat.lt_succ_self _)
  refine ⟨by rw [upd_ne ne, upd_same], Nat.zero_le _, ne, e2, fun _ => none, (Heap.Ns1.of_empty e3).at fun o q => Heap.get?_push_of_some _ q, fun _ => True.intro, fun y hy => absurd rfl hy⟩
end
section
variable {X : Cx} {pins : List (Addr × Obj)} {σ : St} {H : Hp} {s : Shared} {A : Around} {E : Value → Shared → Prop} {Q : Value → Shared → Prop} {c : Value} {b : Bool}
/-- the type of a value, as the fragment's deciders take it; for an instance its class -/
inductive TyOf (K : PySem.W.Frag) (H : Hp) : V → Value → Prop where
  | non : TyOf K H .non (.type "NoneType")
  | bl (x : Bool) : TyOf K H (.bl x) (.type "bool")
  | int (i : Int) : TyOf K H (.int i) (.type "int")
  | str (x : Str) : TyOf K H (.str x) (.type "str")
  | flt (x : UInt64) : TyOf K H (.flt x) (.type "float")
  | lst {a : Addr} {xs : List V} (e : H a = some (.lst xs)) : TyOf K H (.ref a) (.type "list")
  | frz {a : Addr} {o : Obj} {xs : List V} (e : H a = some (.frz o (.lst xs))) : TyOf K H (.ref a) (.type "list")
  | tup {a : Addr} {xs : List V} (e : H a = some (.tup xs)) : TyOf K H (.ref a) (.type "tuple")
  | dK {a : Addr} {kvs : List (Key × V)} (e : H a = some (.dK kvs)) : TyOf K H (.ref a) (.type "dict")
  | dT {a : Addr} {kvs : List (List Key × V)} (e : H a = some (.dT kvs)) : TyOf K H (.ref a) (.type "dict")
  | ins {a C dx : Addr} {fs : List (Str × V)} (e : H a = some (.ins C dx fs)) (cl : Cls K C) (ha : PySem.W.findIn K (.ref C) "__class__" = some (some (.builtin "object.__class__")))
      (hn : PySem.W.specialIn K (.builtin "object.__class__") "__get__" = some (some (.builtin "getset_descriptor.__get__"))) (htk : PySem.W.takesIn K (.builtin "object.__class__") = some true)
      (hm : PySem.W.mroIn K C (.type "object") = some true) : TyOf K H (.ref a) (.ref C)
/-- isinstance(x, c) for one class c, a built-in or an own one: kitOne's answer -/
theorem isinst_ok {x : V} {u t : Value} (I : Inv X pins σ H s) (rx : RelV x u) (ty : TyOf X.K H x t) (e : PySem.W.kitOne X.K t c = some b) (h : ∀ tk, Q (.bool b) { s with toks := tk }) :
    wpAny (model X.prog X.w) A (call (.builtin "isinstance") [u, c]) Q E s := by
  cases ty with
  | non => cases (show u = Value.none from rx); exact PySem.W.kia_one PySem.W.kitx_none I.kIn True.intro e (fun z => nomatch z) h
  | bl y => cases (show u = Value.bool y from rx); exact PySem.W.kia_one PySem.W.kitx_bool I.kIn True.intro e (fun z => nomatch z) h
  | int i => obtain ⟨t, q⟩ := (show ∃ t, u = Value.int i t from rx); cases q; exact PySem.W.kia_one PySem.W.kitx_int I.kIn True.intro e (fun z => nomatch z) h
  | str y => obtain ⟨t, q⟩ := (show ∃ t, u = Value.str y t from rx); cases q; exact PySem.W.kia_one PySem.W.kitx_str I.kIn True.intro e (fun z => nomatch z) h
  | flt y => obtain ⟨t, q⟩ := (show ∃ t, u = Value.float y t from rx); cases q; exact PySem.W.kia_one PySem.W.kitx_float I.kIn True.intro e (fun z => nomatch z) h
  | @lst a xs ea =>
    cases (show u = Value.ref a from rx)
    obtain ⟨_, _, n, _, h1⟩ := (show ObjOk X.prog X.w H s.heap a (.lst xs) from I.hok a _ ea)
    exact PySem.W.kia_one PySem.W.kitx_list I.kIn ⟨_, h1, rfl⟩ e (fun z => nomatch z) h
  | @frz a ob xs ea =>
    cases (show u = Value.ref a from rx)
    obtain ⟨_, _, _, n, _, h1⟩ := (show ObjOk X.prog X.w H s.heap a (.frz ob (.lst xs)) from I.hok a _ ea)
    exact PySem.W.kia_one PySem.W.kitx_list I.kIn ⟨_, h1, rfl⟩ e (fun z => nomatch z) h
  | @tup a xs ea =>
    cases (show u = Value.ref a from rx)
    obtain ⟨_, _, _, p⟩ := (show ObjOk X.prog X.w H s.heap a (.tup xs) from I.hok a _ ea)
    obtain ⟨o, h1, h2, _⟩ := p
    exact PySem.W.kia_one PySem.W.kitx_tuple I.kIn ⟨o, h1, h2⟩ e (fun z => nomatch z) h
  | @dK a kvs ea =>
    cases (show u = Value.ref a from rx)
    obtain ⟨_, _, vs, _, p⟩ := (show ObjOk X.prog X.w H s.heap a (.dK kvs) from I.hok a _ ea)
    obtain ⟨o, es, ep, h1, h2, _⟩ := p
    exact PySem.W.kia_one PySem.W.kitx_dict I.kIn ⟨o, h1, h2.1⟩ e (fun z => nomatch z) h
  | @dT a kvs ea =>
    cases (show u = Value.ref a from rx)
    obtain ⟨_, _, xs, _, o, es, ep, h1, h2, _⟩ := (show ObjOk X.prog X.w H s.heap a (.dT kvs) from I.hok a _ ea)
    exact PySem.W.kia_one PySem.W.kitx_dict I.kIn ⟨o, h1, h2.1⟩ e (fun z => nomatch z) h
  | @ins a C dx fs ea cl ha hn htk hm =>
    cases (show u = Value.ref a from rx)
    obtain ⟨mA, O, _⟩ := ins_get I.hok ea
    obtain ⟨od, J, _⟩ := O.look
    exact PySem.W.kia_one (PySem.W.kitx_own (cl.get _) cl.hd ha hn htk hm) I.kIn J e (fun z => nomatch z) h
end
end L2
namespace L2
open PySem PySem.Spec PyProof.Rows
/-! ### room -/
structure Room (k : Nat) (A : Around) : Prop where
  hd : A.handled = none
  dp : A.depth + 3 * k + 5 < recursionLimit
  un : A.units + 16 * k + 200 < cLine
theorem Room.mono {j k : Nat} {A : Around} (r : Room k A) (h : j ≤ k) : Room j A := ⟨r.hd, by have := r.dp; omega, by have := r.un; omega⟩
theorem Room.deeper {k : Nat} {A : Around} (r : Room (k + 1) A) (env : Env) : Room k (A.deeper env) :=
  ⟨r.hd, by have := r.dp; show A.depth + 1 + 3 * k + 5 < _; omega, by have := r.un; show A.units + 3 + 16 * k + 200 < _; omega⟩
theorem Room.in1 {k : Nat} {A : Around} (r : Room (k + 1) A) : Room k A.in1 :=
  ⟨r.hd, by have := r.dp; show A.depth + 3 * k + 5 < _; omega, by have := r.un; show A.units + 1 + 16 * k + 200 < _; omega⟩
theorem Room.depth {k : Nat} {A : Around} (r : Room k A) : A.depth < recursionLimit := by have := r.dp; omega
theorem Room.units {k : Nat} {A : Around} (r : Room k A) : A.units + 64 < cLine := by have := r.un; omega
/-! ### argument lists and displays -/
def tNil : TA := fun _ H Q => Q [] H
def tCons (ta : TE) (tr : TA) : TA := fun σ H Q => ta σ H fun x H1 => tr σ H1 fun xs H2 => Q (x :: xs) H2
section
variable {X : Cx} {e : Expr} {es : List Expr} {te : TE} {t : TA} {pos : Pos}
theorem pa_nil : PA X [] tNil := fun _ _ _ _ H Q I h => Calls.spliced_nil ⟨[], H, I, .nil, h⟩
theorem pa_cons (ha : PE X e te) (hr : PA X es t) (hs : starEach (e :: es) X.env = (false, eval e X.env) :: starEach es X.env := by rfl) : PA X (e :: es) (tCons te t) := by
  intro pos pins s σ H Q I h
  rw [hs]
  show wpAny _ _ (spliced ((false, eval e X.env) :: backTo pos (starEach es X.env))) _ _ s
  refine Calls.spliced_cons (thn (ha pins s σ H _ I h) fun u s1 ⟨x, H1, I1, r1, q1⟩ => ?_)
  exact thn (hr pos pins s1 σ H1 _ I1 q1) fun us s2 ⟨xs, H2, I2, r2, q2⟩ => ⟨x :: xs, H2, I2, .cons r1 r2, q2⟩
/-- a tuple, a list of written items -/
def tTup (t : TA) : TE := fun σ H Q => t σ H fun xs H1 => xs.length ≤ sizeLine ∧ ∀ p, H1 p = none → Q (.ref p) (upd H1 p (.tup xs))
def tLst (t : TA) : TE := fun σ H Q => t σ H fun xs H1 => xs.length ≤ sizeLine ∧ ∀ p, H1 p = none → Q (.ref p) (upd H1 p (.lst xs))
theorem pe_tup {x1} (h : PA X es t) : PE X (.Tuple es x1 pos) (tTup t) := by
  intro pins s σ H Q I hq
  refine wpAny_Tuple_spliced (thn (h pos pins s σ H _ I hq) fun us s1 ⟨xs, H1, I1, r, z, q⟩ => ⟨by rw [← r.length]; exact z, ?_⟩)
  have hf : H1 s1.heap.objs.size = none := I1.hok.fresh (Nat.le_refl _)
  refine ⟨.ref s1.heap.objs.size, upd H1 s1.heap.objs.size (.tup xs), I1.laid (t' := s1.toks) (fun b u e => Heap.get?_push_of_some _ e) (Nat.le_refl _) ?_, rfl, q _ hf⟩
  exact ⟨z, us, r, ⟨_, Heap.get?_push_size _ rfl, rfl, rfl, _, rfl⟩⟩
theorem pe_lst (h : PA X es t) : PE X (.List es pos) (tLst t) := by
  intro pins s σ H Q I hq
  refine wpAny_List_spliced (thn (h pos pins s σ H _ I hq) fun us s1 ⟨xs, H1, I1, r, z, q⟩ => ⟨by rw [← r.length]; exact z, ?_⟩)
  have hf : H1 s1.heap.objs.size = none := I1.hok.fresh (Nat.le_refl _)
  refine ⟨.ref s1.heap.objs.size, upd H1 s1.heap.objs.size (.lst xs), I1.laid (t' := s1.toks) (fun b u e => Heap.get?_push_of_some _ e) (Nat.le_refl _) ?_, rfl, q _ hf⟩
  exact ⟨z, us, 0, r, Heap.get?_push_size _ rfl⟩
end
/-- a def's promise: the bound arguments in the parameters' order, the heap, the wanted end, the wanted exception -/
abbrev Sp := List V → Hp → VK → XK → Prop
/-- how an exception lies behind a call (file 08 gives it): the callers' frames, abstract heap and state ahead of the call, the wish, the exception, the state -/
abbrev CXT := List Env → Hp → Shared → XK → Value → Shared → Prop
/-- the state at a call -/
structure Env0 (P : Program) (w : World) (K : PySem.W.Frag) (mg : Str → Option Value) (base : Heap) (A : Around) (outer : List Env) (s : Shared) (H : Hp) : Prop where
  frames : A.frames = some outer
  mod : Mod K mg base
  bs : ∀ b o, base.get? b = some o → s.heap.get? b = some o ∧ H b = none
  bsz : base.objs.size ≤ s.heap.objs.size
  funs : s.heap.FunFrames base outer
  frf : ∀ b ∈ frs outer, H b = none
  hok : HOk P w H s.heap
  bare : AllBare s.gens
/-- a call's end -/
def CE (outer : List Env) (P : Program) (w : World) (H : Hp) (s : Shared) (Q : VK) (u : Value) (s' : Shared) : Prop :=
  ∃ v H', s'.os = s.os ∧ AllBare s'.gens ∧ Un (frs outer) [] H H' s.heap s'.heap ∧ HOk P w H' s'.heap ∧ RelV v u ∧ Q v H'
def CR (CX : CXT) (outer : List Env) (P : Program) (w : World) (H : Hp) (s : Shared) (Q : VK) (E : XK) (r : Result) (s' : Shared) : Prop :=
  match r with
  | .ok (.ret u) => CE outer P w H s Q u s'
  | .ok _ => False
  | .error e => CX outer H s E e s'
structure FnOk (P : Program) (w : World) (K : PySem.W.Frag) (mg : Str → Option Value) (base : Heap) (CX : CXT) (k : Nat) (f : Addr) (fd : FuncData) (ps : List Str) (sp : Sp) : Prop where
  len : ∀ vs H Q E, sp vs H Q E → vs.length = ps.length
  run : ∀ (A : Around) (outer : List Env) (s : Shared) (H : Hp) (args : Args) (us : List Value) (vs : List V) (Q : VK) (E : XK), Room k A → Env0 P w K mg base A outer s H → BindsTo s fd args (ps.zip us) → Vals vs us → sp vs H Q E →
    codeAny (model P w) A (.call (.ref f) args) (CR CX outer P w H s Q E) s
theorem FnOk.mono {P : Program} {w : World} {K : PySem.W.Frag} {mg : Str → Option Value} {base : Heap} {CX : CXT} {j k : Nat} {f : Addr} {fd : FuncData} {ps : List Str} {sp : Sp} (F : FnOk P w K mg base CX j f fd ps sp) (h : j ≤ k) :
    FnOk P w K mg base CX k f fd ps sp := ⟨F.len, fun A outer s H args us vs Q E hr => F.run A outer s H args us vs Q E (hr.mono h)⟩
/-- a weaker promise -/
theorem FnOk.imp {P : Program} {w : World} {K : PySem.W.Frag} {mg : Str → Option Value} {base : Heap} {CX : CXT} {k : Nat} {f : Addr} {fd : FuncData} {ps : List Str} {sp sp' : Sp} (F : FnOk P w K mg base CX k f fd ps sp)
    (h : ∀ vs H Q E, sp' vs H Q E → sp vs H Q E) : FnOk P w K mg base CX k f fd ps sp' :=
  ⟨fun vs H Q E q => F.len vs H Q E (h _ _ _ _ q), fun A outer s H args us vs Q E hr he hb hv hs => F.run A outer s H args us vs Q E hr he hb hv (h _ _ _ _ hs)⟩
theorem Env0.in1 {P : Program} {w : World} {K : PySem.W.Frag} {mg : Str → Option Value} {base : Heap} {A : Around} {outer : List Env} {s : Shared} {H : Hp} (e : Env0 P w K mg base A outer s H) :
    Env0 P w K mg base A.in1 outer s H := ⟨e.frames, e.mod, e.bs, e.bsz, e.funs, e.frf, e.hok, e.bare⟩
section
variable {X : Cx} {pins : List (Addr × Obj)} {σ : St} {H : Hp} {s s' : Shared}
/-- from a body: what a callee wants -/
theorem Inv.env0 (I : Inv X pins σ H s) : Env0 X.prog X.w X.K X.mg X.base X.A X.stack s H :=
  ⟨I.ok.frames, I.ok.mod, I.bs, Nat.le_trans I.ok.bsz I.sz, I.stack, I.stkFree, I.hok, I.bare⟩
/-- behind a call -/
theorem Inv.after {Q : VK} {u : Value} (I : Inv X pins σ H s) (h : CE X.stack X.prog X.w H s Q u s') : EP X pins σ Q u s' := by
  obtain ⟨v, H', os, bare, un, hok, r, q⟩ := h
  obtain ⟨hh, g, d, t, os'⟩ := s'
  obtain rfl : os' = s.os := os
  exact ⟨v, H', I.call (h' := hh) (g' := g) (d' := d) (t' := t) (ch := []) un hok bare (fun b z => absurd z (by simp)), r, q⟩
end
/-- f(..): the written arguments, then the defaults dvs; E: what is wanted of an exception -/
def tCall (sp : Sp) (dvs : List V) (E : XK) (t : TA) : TE := fun σ H Q => t σ H fun vs H1 => sp (vs ++ dvs) H1 Q E
/-- how the parameters are bound: us the positional arguments, kw the keywords' values by name, ds the defaults that fill up -/
def Binds (K : PySem.W.Frag) (fd : FuncData) (ps : List Str) (ds : List Value) : Prop :=
  ∀ (s : Shared) (us : List Value), K.In s.heap → (us ++ ds).length = ps.length → BindsTo s fd ⟨us, []⟩ (ps.zip (us ++ ds))
/-- every parameter is given -/
theorem Binds.all {K : PySem.W.Frag} {fd : FuncData} {ps : List Str} (h : ∀ us : List Value, us.length = ps.length → bindArgs fd ⟨us, []⟩ = pure (ps.zip us)) : Binds K fd ps [] := fun s us _ hl => by
  rw [List.append_nil] at hl ⊢
  exact .of_eq (h us hl)
/-- an exception of a callee reaches what this body wants of exceptions -/
def Passes (CX : CXT) (X : Cx) (E : XK) : Prop := ∀ (pins : List (Addr × Obj)) (σ : St) (H : Hp) (s : Shared) (e : Value) (s' : Shared), Inv X pins σ H s → CX X.stack H s E e s' → X.xe e s'
section
variable {X : Cx} {CX : CXT} {k : Nat} {f C : Addr} {fd : FuncData} {ps : List Str} {sp : Sp} {dvs : List V} {ds : List Value} {E : XK} {x m : Str} {p pos apos : Pos} {e o : Expr} {es : List Expr} {ta : TE} {t : TA}
/-- the callee runs -/
theorem run_fn {pins : List (Addr × Obj)} {σ : St} {H : Hp} {s : Shared} {Q : VK} {us : List Value} {vs : List V} (F : FnOk X.prog X.w X.K X.mg X.base CX k f fd ps sp) (hr : Room k X.A) (hb : Binds X.K fd ps ds) (hd : Vals dvs ds) (hx : Passes CX X E)
    (I : Inv X pins σ H s) (r : Vals vs us) (h : sp (vs ++ dvs) H Q E) : wpAny (model X.prog X.w) X.A (call (.ref f) us) (EP X pins σ Q) X.xe s := by
  have r2 : Vals (vs ++ dvs) (us ++ ds) := r.append hd
  have hl : (us ++ ds).length = ps.length := by rw [← r2.length]; exact F.len _ _ _ _ h
  refine wpAny_call (codeAny_mono (F.run X.A X.stack s H ⟨us, []⟩ (us ++ ds) (vs ++ dvs) Q E hr I.env0 (hb s us I.kIn hl) r2 h) fun r s' hq => ?_)
  cases r with
  | error e => exact hx pins σ H s e s' I hq
  | ok fl =>
    cases fl with
    | ret u => exact I.after hq
    | next => exact False.elim hq
    | brk => exact False.elim hq
    | cont => exact False.elim hq
theorem pe_call (F : FnOk X.prog X.w X.K X.mg X.base CX k f fd ps sp) (hr : Room k X.A) (hg : Gl X x) (hm : X.mg x = some (.ref f)) (hk : PySem.W.keepIn X.K (.ref f) = true) (hb : Binds X.K fd ps ds) (hd : Vals dvs ds) (hx : Passes CX X E)
    (ha : PA X (e :: es) t) (hdb : (x == ("__debug__" : Str)) = false := by decide) (he : starEach (e :: es) X.env = (false, eval e X.env) :: starEach es X.env := by rfl) (hpl : (backTo pos (starEach es X.env)).any (·.1) = false := by rfl) :
    PE X (.Call (.Name x p) (e :: es) [] pos) (tCall sp dvs E t) := by
  intro pins s σ H Q I h
  refine wpAny_Call_Name_kw (ld_glob I hg hm ?_ hdb)
  refine PySem.W.callWith_K (h₀ := X.base) I.ok.mod.kin hk (thn (ha pos pins s σ H _ I h) fun us s1 ⟨vs, H1, I1, r, q⟩ => ⟨I1.kIn, ?_⟩) he hpl
  exact run_fn F hr hb hd hx I1 r q
end
/-- names: the parameters first -/
structure FnScope (N P : List Str) (sc : Scope) : Prop where
  kind : sc.kind = .function
  co : sc.isCoroutine = false
  gen : sc.isGenerator = false
  nd : N.Nodup
  pre : N.take P.length = P
  par : ∀ x ∈ P, sc.names.lookup x = some .local ∨ sc.names.lookup x = some .cell
  nofree : ∀ y ∈ sc.names, y.2 ≠ .free
theorem bindL_out {kindOf : Str → Option NameKind} {x : Str} : ∀ {binds : List (Str × Value)} {m : Str → Option Value}, (∀ v, (x, v) ∉ binds) → bindL kindOf binds m x = m x
  | [], _, _ => rfl
  | (n, v) :: r, m, h => by
    unfold bindL
    rw [bindL_out fun w hw => h w (List.mem_cons_of_mem _ hw)]
    split
    · have : x ≠ n := by rintro rfl; exact h v List.mem_cons_self
      simp [this]
    · rfl
theorem bindC_out {kindOf : Str → Option NameKind} {x : Str} : ∀ {binds : List (Str × Value)} {m : Str → Option Value}, (∀ v, (x, v) ∉ binds) → bindC kindOf binds m x = m x
  | [], _, _ => rfl
  | (n, v) :: r, m, h => by
    unfold bindC
    rw [bindC_out fun w hw => h w (List.mem_cons_of_mem _ hw)]
    split
    · rfl
    · have : x ≠ n := by rintro rfl; exact h v List.mem_cons_self
      simp [this]
theorem bindL_get {kindOf : Str → Option NameKind} {x : Str} {v : Value} : ∀ {P : List Str} {vs : List Value} {i : Nat} {m : Str → Option Value}, P.Nodup → P[i]? = some x → vs[i]? = some v → kindOf x = some .local →
    bindL kindOf (P.zip vs) m x = some v
  | [], _, _, _, _, h, _, _ => by simp at h
  | _ :: _, [], _, _, _, _, h, _ => by simp at h
  | p :: P, w :: vs, 0, m, nd, h1, h2, hk => by
    simp at h1 h2; subst h1; subst h2
    show bindL kindOf ((p, w) :: P.zip vs) m p = _
    unfold bindL
    rw [bindL_out fun v hv => (List.nodup_cons.mp nd).1 (List.of_mem_zip hv).1, if_pos hk]
    simp
  | p :: P, w :: vs, i + 1, m, nd, h1, h2, hk => by
    show bindL kindOf ((p, w) :: P.zip vs) m x = _
    unfold bindL
    exact bindL_get (i := i) (List.nodup_cons.mp nd).2 (by simpa using h1) (by simpa using h2) hk
theorem bindC_get {kindOf : Str → Option NameKind} {x : Str} {v : Value} : ∀ {P : List Str} {vs : List Value} {i : Nat} {m : Str → Option Value}, P.Nodup → P[i]? = some x → vs[i]? = some v → kindOf x ≠ some .local →
    bindC kindOf (P.zip vs) m x = some v
  | [], _, _, _, _, h, _, _ => by simp at h
  | _ :: _, [], _, _, _, _, h, _ => by simp at h
  | p :: P, w :: vs, 0, m, nd, h1, h2, hk => by
    simp at h1 h2; subst h1; subst h2
    show bindC kindOf ((p, w) :: P.zip vs) m p = _
    unfold bindC
    rw [bindC_out fun v hv => (List.nodup_cons.mp nd).1 (List.of_mem_zip hv).1, if_neg hk]
    simp
  | p :: P, w :: vs, i + 1, m, nd, h1, h2, hk => by
    show bindC kindOf ((p, w) :: P.zip vs) m x = _
    unfold bindC
    exact bindC_get (i := i) (List.nodup_cons.mp nd).2 (by simpa using h1) (by simpa using h2) hk
/-- the names' values at the entry -/
def start (N : List Str) (vs : List V) : St := vs.map some ++ List.replicate (N.length - vs.length) none
/-- the context of a def's body, at its entry; an exception leaves the frame, then lies as CX says -/
def cxOf (CX : CXT) (P : Program) (w : World) (K : PySem.W.Frag) (mg : Str → Option Value) (base : Heap) (N : List Str) (qual : Str) (scope : Scope) (f : Addr) (cd : Value) (A : Around) (outer : List Env) (s : Shared) (H : Hp) (E : XK) : Cx where
  prog := P
  w := w
  K := K
  mg := mg
  base := base
  A := A.deeper (envOfC qual scope s.heap.objs.size f cd)
  N := N
  s_0 := s
  H_0 := H
  env := envOfC qual scope s.heap.objs.size f cd
  outer := outer
  stack := envOfC qual scope s.heap.objs.size f cd :: outer
  ex := []
  calm := true
  fn := fun _ => true
  pn := []
  xe := fun e s' => wpAny (model P w) (A.deeper (envOfC qual scope s.heap.objs.size f cd)) (leaving (envOfC qual scope s.heap.objs.size f cd) e) (fun _ s'' => CX outer H s E e s'') (fun e' s'' => CX outer H s E e' s'') s'
theorem cell_has {sc : Scope} {n : Nat} {x : Str} (h : sc.names.lookup x = some .cell) : ∃ c, (cellsFrom n sc.names []).lookup x = some c := by
  have q := PySem.W.cellsFrom_some sc.names n [] (.inl h)
  exact Option.isSome_iff_exists.mp q
theorem inv_start {CX : CXT} {P : Program} {w : World} {K : PySem.W.Frag} {mg : Str → Option Value} {base : Heap} {N ps : List Str} {qual : Str} {scope : Scope} {f : Addr} {cd : Value} {A : Around} {outer : List Env} {s s1 : Shared} {H : Hp} {E : XK} {us : List Value} {vs : List V}
    (S : FnScope N ps scope) (hd : A.handled = none) (e0 : Env0 P w K mg base A outer s H) (hl : vs.length = ps.length) (r : Vals vs us)
    (x : InCallC s s.heap.objs.size (bindL (envOfC qual scope s.heap.objs.size f cd).kindOf (ps.zip us) fun _ => none) (cellsFrom (s.heap.objs.size + 1) scope.names []) (bindC (envOfC qual scope s.heap.objs.size f cd).kindOf (ps.zip us) fun _ => none) s1) :
    Inv (cxOf CX P w K mg base N qual scope f cd A outer s H E) [] (start N vs) H s1 := by
  have hpl : ps.length ≤ N.length := by have := congrArg List.length S.pre; rw [List.length_take] at this; omega
  obtain ⟨h1, tk, rfl, hk⟩ := x.done
  have noA : ∀ b : Addr, b ∉ (cxOf CX P w K mg base N qual scope f cd A outer s H E).ex := fun b z => absurd (show b ∈ ([] : List Addr) from z) (by simp)
  refine ⟨⟨e0.mod, S.kind, rfl, rfl, Nat.le_refl _, fun y z c h1 h2 => ?_, fun y hy => ?_, fun y c _ h => ?_, fun _ => hd, Around.frames_deeper e0.frames, .inr ⟨rfl, rfl⟩, fun b z => absurd z (noA b), e0.bs, e0.bsz, fun b _ _ => noA b, fun b z => absurd z (noA b), e0.funs, e0.frf⟩,
    rfl, e0.bare, Un.kept hk, ⟨_, x.toInCall.ns, fun i y v h1 h2 h3 => ?_⟩, fun y c h => ⟨_, x.cell y c h⟩, e0.hok.fresh (Nat.le_refl _), fun y c h => ?_, fun p hp => absurd (show p ∈ ([] : List (Addr × Obj)) from hp) (by simp), e0.hok.kept hk, ?_⟩
  · exact name_of_addr x.apart (PySem.mem_of_lookup h1) (PySem.mem_of_lookup h2)
  · have hy : scope.names.lookup y = some .cell ∨ scope.names.lookup y = some .free := hy
    rcases hy with hy | hy
    · exact cell_has hy
    · exact absurd rfl (S.nofree _ (PySem.mem_of_lookup hy))
  · exact Nat.le_of_lt (x.above y c (PySem.mem_of_lookup h))
  · have hi : i < vs.length := by
      unfold start at h2
      by_cases hi : i < vs.length
      · exact hi
      · rw [List.getElem?_append_right (by simpa using hi)] at h2
        rw [List.getElem?_replicate] at h2
        split at h2 <;> cases h2
    have ha : vs[i]? = some v := by
      unfold start at h2
      rw [List.getElem?_append_left (by simpa using hi), List.getElem?_map] at h2
      cases e : vs[i]? with
      | none => rw [e] at h2; cases h2
      | some a => rw [e] at h2; cases h2; rfl
    obtain ⟨u, hu, rv⟩ := r.get ha
    have hp : ps[i]? = some y := by
      rw [← S.pre, List.getElem?_take_of_lt (by omega)]; exact h1
    have ndP : ps.Nodup := by rw [← S.pre]; exact S.nd.sublist (List.take_sublist _ _)
    refine ⟨u, rv, ?_⟩
    rcases S.par y (List.mem_of_getElem? hp) with k | k
    · exact .inl ⟨k, bindL_get ndP hp hu k⟩
    · obtain ⟨c, e⟩ := cell_has (n := s.heap.objs.size + 1) k
      refine .inr ⟨.inl k, c, e, ?_⟩
      have q := x.cell y c e
      rw [bindC_get ndP hp hu (by show scope.names.lookup y ≠ _; rw [k]; decide)] at q
      exact q
  · exact e0.hok.fresh (Nat.le_of_lt (x.above y c (PySem.mem_of_lookup h)))
  · unfold start
    show _ = N.length
    rw [List.length_append, List.length_map, List.length_replicate]
    omega
/-- THE RULE: a def (or a method) of the text, by its body. The body's reading t is chosen for each entry; it is run at the parameters' values -/
theorem fn_of {CX : CXT} {P : Program} {w : World} {K : PySem.W.Frag} {mg : Str → Option Value} {base : Heap} {k : Nat} {f : Addr} {name qual : Str} {params : Arguments} {body : List Stmt} {scope : Scope} {dV kV doc pm cdv ct oc : Value} {an od : Option Addr}
    {osl : Array (Option Value)} {N ps : List Str} {sp : Sp} (lk : K.lookup f = some ⟨oc, od, .func (PySem.W.fnOf name qual params body scope dV kV doc pm an cdv ct), osl⟩) (hcd : PySem.W.codeIn K cdv qual = true) (S : FnScope N ps scope)
    (len : ∀ vs H Q E, sp vs H Q E → vs.length = ps.length)
    (hbody : ∀ (A : Around) (outer : List Env) (s : Shared) (H : Hp) (vs : List V) (Q : VK) (E : XK), Room k (A.deeper (envOfC qual scope s.heap.objs.size f cdv)) → sp vs H Q E →
      ∃ t, PSs (cxOf CX P w K mg base N qual scope f cdv A outer s H E) body t ∧ t { nx := fun _ H' => Q .non H', rt := Q } (start N vs) H) :
    FnOk P w K mg base CX (k + 1) f (PySem.W.fnOf name qual params body scope dV kV doc pm an cdv ct) ps sp := by
  refine ⟨len, fun A outer s H args us vs Q E hr e0 hb r hsp => ?_⟩
  have hl := len _ _ _ _ hsp
  have KX : K.In s.heap := e0.mod.kin.keeps fun b o e => (e0.bs b o e).1
  have lim : s.heap.NoLimit := e0.mod.nolimit.keeps fun b o e => (e0.bs b o e).1
  have hkind : ∀ y ∈ ps.zip us, scope.names.lookup y.1 = some .local ∨ (scope.names.lookup y.1 = some .cell ∧ ((cellsFrom (s.heap.objs.size + 1) scope.names []).lookup y.1).isSome = true) := fun ⟨n, v⟩ hy => by
    rcases S.par n (List.of_mem_zip hy).1 with q | q
    · exact .inl q
    · exact .inr ⟨q, PySem.W.cellsFrom_some _ _ _ (.inl q)⟩
  refine codeAny_call_function hr.depth (KX _ _ lk) rfl S.co S.gen rfl (PySem.W.codeRec_of KX hcd) (hb _ _ _ _ ?_)
  refine wpAny_newFunctionEnv_cells S.kind hkind fun env he s1 x => ?_
  subst he
  refine ⟨lim.keeps x.toInCall.keep, codeAny_func ?_⟩
  obtain ⟨t, ht, hq⟩ := hbody A outer s H vs Q E (hr.deeper _) hsp
  have I : Inv (cxOf CX P w K mg base N qual scope f cdv A outer s H E) [] (start N vs) H s1 := inv_start S hr.hd e0 hl r x
  refine wpAny_mono (ht [] s1 (start N vs) H _ I hq) (fun fl s' hs => ?_) fun e s' hs => hs
  have fin : ∀ {σ' : St} {H' : Hp} {v : V} {u : Value}, Inv (cxOf CX P w K mg base N qual scope f cdv A outer s H E) [] σ' H' s' → RelV v u → Q v H' → CE outer P w H s Q u s' :=
    fun {σ' H' v u} J rv q => ⟨v, H', J.os, J.bare, J.base, J.hok, rv, q⟩
  cases fl with
  | ret u =>
    obtain ⟨v, σ', H', J, rv, q⟩ := hs
    exact fin J rv q
  | next =>
    obtain ⟨σ', H', J, q⟩ := hs
    exact fin (v := V.non) (u := Value.none) J rfl q
  | brk =>
    obtain ⟨_, _, _, q⟩ := hs
    exact False.elim q
  | cont =>
    obtain ⟨_, _, _, q⟩ := hs
    exact False.elim q
end L2
namespace L2
open PySem PySem.Spec PyProof.Rows
section
variable {X : Cx} {x : Str} {p pos : Pos} {e : Expr} {es : List Expr} {t : TA} {id T : String} {r : List V → Hp → VK → Prop}
def tCB (r : List V → Hp → VK → Prop) (t : TA) : TE := fun σ H Q => t σ H fun vs H1 => r vs H1 Q
/-- f(e, ..), f a built-in function -/
theorem pe_callB (hc : CallR X (.builtin id) r) (hg : Gl X x) (hm : X.mg x = none) (hv : bootBuiltins x = some (.builtin id)) (ha : PA X (e :: es) t) (hn : x ≠ "__name__" := by decide) (hdb : (x == ("__debug__" : Str)) = false := by decide)
    (he : starEach (e :: es) X.env = (false, eval e X.env) :: starEach es X.env := by rfl) (hpl : (backTo pos (starEach es X.env)).any (·.1) = false := by rfl) : PE X (.Call (.Name x p) (e :: es) [] pos) (tCB r t) := by
  intro pins s σ H Q I h
  refine wpAny_Call_Name_kw (ld_blt I hg hm hv ?_ hn hdb)
  exact PyProof.Rows.callWith_builtin1 (thn (ha pos pins s σ H _ I h) fun us s1 ⟨vs, H1, I1, r1, q1⟩ => hc pins s1 σ H1 vs us Q I1 r1 q1) he hpl
/-- T(e, ..), T a built-in type -/
theorem pe_callTy (hc : CallR X (.type T) r) (hg : Gl X x) (hm : X.mg x = none) (hv : bootBuiltins x = some (.type T)) (ha : PA X (e :: es) t) (hn : x ≠ "__name__" := by decide) (hdb : (x == ("__debug__" : Str)) = false := by decide)
    (he : starEach (e :: es) X.env = (false, eval e X.env) :: starEach es X.env := by rfl) (hpl : (backTo pos (starEach es X.env)).any (·.1) = false := by rfl) : PE X (.Call (.Name x p) (e :: es) [] pos) (tCB r t) := by
  intro pins s σ H Q I h
  refine wpAny_Call_Name_kw (ld_blt I hg hm hv ?_ hn hdb)
  exact PyProof.Rows.callWith_type1 (thn (ha pos pins s σ H _ I h) fun us s1 ⟨vs, H1, I1, r1, q1⟩ => hc pins s1 σ H1 vs us Q I1 r1 q1) he hpl
end
end L2
namespace HT
open PySem PyProof.Rows
section
open PySem.SeqAt
open PySem.AutoSeq1 (wpAny_loadPart')
open PySem.MeetsSeq PySem.MeetsSeq2 PySem.MeetsSeq3
end
section
variable {prog : Program} {w : World} {A : Around} {E : Value → Shared → Prop} {s : Shared}
/-- a slice's bound as a place among n (d where it is left out) -/
def sIx (n d : Nat) : Option Int → Nat
  | none => d
  | some v => if v < 0 then (v + (n : Int)).toNat else min v.toNat n
theorem sIx_none (n d : Nat) : sIx n d none = d := rfl
end
end HT
namespace L2
open PySem PySem.Spec PyProof.Rows
/-! ### the parts of a slice -/
abbrev TO := St → Hp → (Option Int → Hp → Prop) → Prop
section
variable {X : Cx} {e : Expr} {te : TE} {lo hi : Option Expr} {tl th : TO} {pos p2 : Pos}
/-- what a slice of a value is, by values: the slice object stands at sl -/
def SlR (X : Cx) (r : V → Option Int → Option Int → Hp → VK → Prop) : Prop :=
  ∀ (pins : List (Addr × Obj)) (s : Shared) (σ : St) (H : Hp) (x : V) (v vl vu : Value) (lo hi : Option Int) (sl : Addr) (Q : VK), Inv X pins σ H s → RelV x v → s.heap.IsSliceOf sl vl vu .none → IsPart vl lo → IsPart vu hi → r x lo hi H Q →
    ∃ T id, typeLookup (.type T) "__getitem__" = pure (some (.builtin id)) ∧ s.TypeIs v T ∧ wpAny (model X.prog X.w) X.A (getItem v (.ref sl)) (EP X pins σ Q) X.xe s
theorem SlR.or {r r' : V → Option Int → Option Int → Hp → VK → Prop} (h : SlR X r) (h' : SlR X r') : SlR X (fun x lo hi H Q => r x lo hi H Q ∨ r' x lo hi H Q) := by
  intro pins s σ H x v vl vu lo hi sl Q I rx hs pl pu q
  rcases q with q | q
  · exact h pins s σ H x v vl vu lo hi sl Q I rx hs pl pu q
  · exact h' pins s σ H x v vl vu lo hi sl Q I rx hs pl pu q
/-- the items of xs[lo:hi] -/
def cutV (xs : List V) (lo hi : Option Int) : List V := (xs.drop (HT.sIx xs.length 0 lo)).take (HT.sIx xs.length xs.length hi - HT.sIx xs.length 0 lo)
end
end L2
namespace L2
open PySem PySem.Spec PyProof.Rows
/-- the place that an index of any sign means -/
def ixN (n : Nat) (i : Int) : Option Nat := if 0 ≤ i then (if i < n then some i.toNat else none) else if -(n : Int) ≤ i then some (i + n).toNat else none
def atI {α : Type} (xs : List α) (i : Int) : Option α := (ixN xs.length i).bind fun j => xs[j]?
theorem ixN_seq {n : Nat} {i : Int} {j : Nat} (h : ixN n i = some j) : seqIndex? i n = some j ∧ j < n ∧ -(n : Int) ≤ i ∧ i < n := by
  unfold ixN at h
  by_cases h0 : 0 ≤ i
  · rw [if_pos h0] at h
    by_cases h1 : i < n
    · rw [if_pos h1] at h
      have e : i.toNat = j := Option.some.inj h
      exact ⟨by rw [seqIndex_of h0 h1, e], by omega, by omega, h1⟩
    · rw [if_neg h1] at h; cases h
  · rw [if_neg h0] at h
    by_cases h1 : -(n : Int) ≤ i
    · rw [if_pos h1] at h
      have e : (i + n).toNat = j := Option.some.inj h
      exact ⟨by rw [seqIndex_neg (by omega) h1, e], by omega, h1, by omega⟩
    · rw [if_neg h1] at h; cases h
theorem atI_get {α : Type} {xs : List α} {i : Int} {v : α} (h : atI xs i = some v) : ∃ j, seqIndex? i xs.length = some j ∧ xs[j]? = some v ∧ j < xs.length ∧ -(xs.length : Int) ≤ i ∧ i < xs.length := by
  unfold atI at h
  cases e : ixN xs.length i with
  | none => rw [e] at h; cases h
  | some j =>
    rw [e] at h
    obtain ⟨h1, h2, h3, h4⟩ := ixN_seq e
    exact ⟨j, h1, h, h2, h3, h4⟩
theorem atI_nat {α : Type} {xs : List α} {j : Nat} {v : α} (h : xs[j]? = some v) : atI xs (j : Int) = some v := by
  have hj : j < xs.length := (List.getElem?_eq_some_iff.mp h).1
  have e : ixN xs.length (j : Int) = some j := by
    unfold ixN
    rw [if_pos (by omega), if_pos (by omega)]; simp
  unfold atI; rw [e]; exact h
theorem atI_last {α : Type} (xs : List α) (v : α) : atI (xs ++ [v]) (-1) = some v := by
  have hl : (xs ++ [v]).length = xs.length + 1 := by simp
  have e : ixN (xs ++ [v]).length (-1) = some xs.length := by
    unfold ixN
    rw [hl, if_neg (by decide), if_pos (by omega)]
    congr 1
    omega
  unfold atI
  rw [e]
  show (xs ++ [v])[xs.length]? = some v
  simp
/-- what stands as an index of a plain subscript -/
def PlainIx (b : Expr) : Prop := ∀ o i, subscripted b false o i = operate [o, i] (getItem o i)
/-- a subscript by values -/
def IxR (X : Cx) (r : R2) : Prop :=
  ∀ (value slice : Expr) (pins : List (Addr × Obj)) (s : Shared) (σ : St) (H : Hp) (x y : V) (v u : Value) (Q : VK), Inv X pins σ H s → RelV x v → RelV y u → r x y H Q →
    subscripted slice false v u = operate [v, u] (getItem v u) → wpAny (model X.prog X.w) X.A (subscriptTail value slice v u) (EP X pins σ Q) X.xe s
/-- a call of a builtin's method by values: the receiver, the arguments -/
def MtR (X : Cx) (id : String) (r : V → List V → Hp → VK → Prop) : Prop :=
  ∀ (pins : List (Addr × Obj)) (s : Shared) (σ : St) (H : Hp) (x : V) (xs : List V) (v : Value) (us : List Value) (Q : VK), Inv X pins σ H s → RelV x v → Vals xs us → r x xs H Q →
    wpAny (model X.prog X.w) X.A (call (.builtin id) (v :: us)) (EP X pins σ Q) X.xe s
section
variable {X : Cx} {a b : Expr} {ta tb : TE} {pos : Pos}
theorem IxR.or {r r' : R2} (h : IxR X r) (h' : IxR X r') : IxR X (fun x y H Q => r x y H Q ∨ r' x y H Q) := by
  intro value slice pins s σ H x y v u Q I rx ry q hs
  rcases q with q | q
  · exact h value slice pins s σ H x y v u Q I rx ry q hs
  · exact h' value slice pins s σ H x y v u Q I rx ry q hs
theorem MtR.or {id : String} {r r' : V → List V → Hp → VK → Prop} (h : MtR X id r) (h' : MtR X id r') : MtR X id (fun x xs H Q => r x xs H Q ∨ r' x xs H Q) := by
  intro pins s σ H x xs v us Q I rx rs q
  rcases q with q | q
  · exact h pins s σ H x xs v us Q I rx rs q
  · exact h' pins s σ H x xs v us Q I rx rs q
/-- a[b] -/
theorem pe_ix {r : R2} (hr : IxR X r) (ha : PE X a ta) (hb : PE X b tb) (hs : PlainIx b) : PE X (.Subscript a b pos) (tOp r ta tb) := by
  intro pins s σ H Q I h
  exact Subscript_ (binT ha hb I h fun v u s2 x y H2 I2 rx ry q => hr a b pins s2 σ H2 x y v u Q I2 rx ry q (hs _ _))
def rIxL (K : PySem.W.Frag) : R2 := fun x y H Q => ∃ p xs i v, x = .ref p ∧ y = .int i ∧ SqL K H p xs ∧ atI xs i = some v ∧ Q v H
def rIxT (K : PySem.W.Frag) : R2 := fun x y H Q => ∃ p xs i v, x = .ref p ∧ y = .int i ∧ SqT K H p xs ∧ atI xs i = some v ∧ Q v H
theorem ix_list : IxR X (rIxL X.K) := by
  intro value slice pins s σ H x y v u Q I rx ry h hs
  obtain ⟨p, xs, i, z, rfl, rfl, hq, he, q⟩ := h
  cases rx
  obtain ⟨t, rfl⟩ := ry
  obtain ⟨its, r, pl, hz⟩ := I.list hq
  obtain ⟨j, h1, h2, h3, h4, h5⟩ := atI_get he
  obtain ⟨w, ew, rw'⟩ := r.get h2
  have hl := r.length
  have hn := line63
  have fin : EP X pins σ Q w s := ⟨z, H, I, rw', q⟩
  by_cases h0 : 0 ≤ i
  · have hj : i.toNat = j := by
      rw [seqIndex_of h0 h5] at h1
      exact Option.some.inj h1
    exact item_listR pl.isList h0 (by omega) (by rw [hj]; simpa using ew) fin hs
  · have hj : (i + (its.toArray.size : Int)).toNat = j := by
      rw [seqIndex_neg (by omega) h4] at h1
      rw [List.size_toArray, ← hl]
      exact Option.some.inj h1
    exact subscriptTail_builtinR (x := w) pl.isList.typeIs slot_list_getitem.lookup
      (wpAny_getItem_list_neg (Q := fun r s' => r = w ∧ EP X pins σ Q r s') pl.isList (by omega) (by rw [List.size_toArray] <;> omega) (by omega) (by rw [hj]; simpa using ew) ⟨rfl, fin⟩) hs
theorem ix_tup : IxR X (rIxT X.K) := by
  intro value slice pins s σ H x y v u Q I rx ry h hs
  obtain ⟨p, xs, i, z, rfl, rfl, hq, he, q⟩ := h
  cases rx
  obtain ⟨t, rfl⟩ := ry
  obtain ⟨its, r, pl, hz⟩ := I.tuple hq
  obtain ⟨j, h1, h2, h3, h4, h5⟩ := atI_get he
  obtain ⟨w, ew, rw'⟩ := r.get h2
  have hl := r.length
  have hn := line63
  have fin : EP X pins σ Q w s := ⟨z, H, I, rw', q⟩
  exact subscriptTail_builtinR (x := w) pl.typeIs slot_tuple_getitem.lookup
    (getItem_tuple (j := j) (Q := fun r s' => r = w ∧ EP X pins σ Q r s') pl (by omega) (by omega) (by rw [List.size_toArray, ← hl]; exact h1) (by simpa using ew) ⟨rfl, fin⟩) hs
/-- the list's object behind a store -/
theorem mapSeq_set (its : List Value) (n j : Nat) (u : Value) : Obj.mapSeq (·.setIfInBounds j u) { cls := .type "list", data := .seq its.toArray n } = { cls := .type "list", data := .seq (its.set j u).toArray n } := by
  simp [Obj.mapSeq]
theorem Inv.lst {pins : List (Addr × Obj)} {σ : St} {H : Hp} {s : Shared} {p : Addr} {xs : List V} (I : Inv X pins σ H s) (h : H p = some (.lst xs)) :
    ∃ (its : List Value) (n : Nat), Vals xs its ∧ s.heap.get? p = some { cls := .type "list", data := .seq its.toArray n } ∧ xs.length ≤ sizeLine := by
  obtain ⟨z, its, n, r, e⟩ := I.hok p _ h
  exact ⟨its, n, r, e, z⟩
/-- the list at p is written by an update of its object -/
theorem Inv.lstUpd {pins : List (Addr × Obj)} {σ : St} {H : Hp} {s : Shared} {p : Addr} {xs ys : List V} {its its' : List Value} {n n' : Nat} {f : Obj → Obj} (I : Inv X pins σ H s) (h : H p = some (.lst xs))
    (ho : s.heap.get? p = some { cls := .type "list", data := .seq its.toArray n }) (hf : f { cls := .type "list", data := .seq its.toArray n } = { cls := .type "list", data := .seq its'.toArray n' }) (r : Vals ys its') (hz : ys.length ≤ sizeLine) (t : Nat) :
    Inv X pins σ (upd H p (.lst ys)) { s with heap := s.heap.update p f, toks := t } := by
  have e : (s.heap.update p f).get? p = some { cls := .type "list", data := .seq its'.toArray n' } := by
    rw [Heap.get?_update_self f ho (by rw [hf] <;> rfl), hf]
  refine I.write (x := p) (e := p) (by rw [h]; trivial) (.inl rfl) (fun b u hb q => (Heap.get?_update_other _ _ (Ne.symm hb)).trans q) ⟨_, e⟩ ?_
  exact ⟨hz, its', n', r, e⟩
def rSetL : V → V → V → Hp → (Hp → Prop) → Prop := fun o i v H Q => ∃ p xs k j, o = .ref p ∧ i = .int k ∧ H p = some (.lst xs) ∧ ixN xs.length k = some j ∧ Q (upd H p (.lst (xs.set j v)))
theorem set_list : PSet X rSetL := by
  intro pins s σ H o i v ov iv u Q I ro ri rv h
  obtain ⟨p, xs, k, j, rfl, rfl, hp, hj, q⟩ := h
  cases ro
  obtain ⟨t, rfl⟩ := ri
  obtain ⟨its, n, r, ho, hz⟩ := I.lst hp
  obtain ⟨h1, h2, h3, h4⟩ := ixN_seq hj
  have hl := r.length
  have hn := line63
  have I' : Inv X pins σ (upd H p (.lst (xs.set j v))) { s with heap := s.heap.update p (Obj.mapSeq (·.setIfInBounds j u)) } :=
    I.lstUpd hp ho (mapSeq_set its n j u) (r.set rv j) (by rw [List.length_set]; exact hz) s.toks
  by_cases h0 : 0 ≤ k
  · have hk : k.toNat = j := by
      rw [seqIndex_of h0 h4] at h1
      exact Option.some.inj h1
    exact PySem.W.ki_setAt ho h0 (by omega) (by rw [List.size_toArray, ← hl]; exact h4) (by rw [hk]; exact ⟨_, I', q⟩)
  · have hk : (k + (its.toArray.size : Int)).toNat = j := by
      rw [seqIndex_neg (by omega) h3] at h1
      rw [List.size_toArray, ← hl]
      exact Option.some.inj h1
    exact PySem.W.ki_setBack ho (by omega) (by rw [List.size_toArray, ← hl]; exact h3) (by omega) (by rw [hk]; exact ⟨_, I', q⟩)
/-! ### in, not in: flat items -/
def flatV : V → Bool
  | .non => true
  | .bl _ => true
  | .int _ => true
  | .str _ => true
  | _ => false
/-- == of flat values -/
def eqV : V → V → Bool
  | .non, .non => true
  | .bl a, .bl b => a == b
  | .bl a, .int b => (if a then 1 else 0) == b
  | .int a, .bl b => a == (if b then 1 else 0)
  | .int a, .int b => a == b
  | .str a, .str b => a == b
  | _, _ => false
theorem eqAt_V {A : Around} {s : Shared} {y x : V} {u v : Value} (ry : RelV y u) (rx : RelV x v) (fy : flatV y = true) (fx : flatV x = true) : SeqAt.EqAt A s u v (eqV y x) := by
  cases y with
  | non =>
    cases ry
    cases x with
    | non => cases rx; exact SeqAt.EqAt.same _
    | bl b => cases rx; exact SeqAt.EqAt.none_bool b
    | int b => obtain ⟨t, rfl⟩ := rx; exact SeqAt.EqAt.none_int b t
    | str b => obtain ⟨t, rfl⟩ := rx; exact SeqAt.EqAt.none_str b t
    | _ => exact absurd (show false = true from fx) Bool.false_ne_true
  | bl a =>
    cases ry
    cases x with
    | non => cases rx; exact SeqAt.EqAt.bool_none a
    | bl b => cases rx; exact SeqAt.EqAt.bool_bool a b
    | int b => obtain ⟨t, rfl⟩ := rx; exact SeqAt.EqAt.bool_int a b t
    | str b => obtain ⟨t, rfl⟩ := rx; exact SeqAt.EqAt.bool_str a b t
    | _ => exact absurd (show false = true from fx) Bool.false_ne_true
  | int a =>
    obtain ⟨t', rfl⟩ := ry
    cases x with
    | non => cases rx; exact SeqAt.EqAt.int_none a t'
    | bl b => cases rx; exact SeqAt.EqAt.int_bool a t' b
    | int b => obtain ⟨t, rfl⟩ := rx; exact SeqAt.EqAt.int_int a t' b t
    | str b => obtain ⟨t, rfl⟩ := rx; exact SeqAt.EqAt.int_str a t' b t
    | _ => exact absurd (show false = true from fx) Bool.false_ne_true
  | str a =>
    obtain ⟨t', rfl⟩ := ry
    cases x with
    | non => cases rx; exact SeqAt.EqAt.str_none a t'
    | bl b => cases rx; exact SeqAt.EqAt.str_bool a t' b
    | int b => obtain ⟨t, rfl⟩ := rx; exact SeqAt.EqAt.str_int a t' b t
    | str b => obtain ⟨t, rfl⟩ := rx; exact SeqAt.EqAt.str_str a t' b t
    | _ => exact absurd (show false = true from fx) Bool.false_ne_true
  | _ => exact absurd (show false = true from fy) Bool.false_ne_true
/-- the items' answers, read off the values (a value's own answer does not lean on its token) -/
def eqU (x : V) (u : Value) : Bool := match u with
  | .none => eqV .non x
  | .bool b => eqV (.bl b) x
  | .int i _ => eqV (.int i) x
  | .str z _ => eqV (.str z) x
  | _ => false
theorem eqU_of {x y : V} {u : Value} (r : RelV y u) (f : flatV y = true) : eqU x u = eqV y x := by
  cases y with
  | non => cases r; rfl
  | bl b => cases r; rfl
  | int i => obtain ⟨t, rfl⟩ := r; rfl
  | str z => obtain ⟨t, rfl⟩ := r; rfl
  | _ => exact absurd (show false = true from f) Bool.false_ne_true
theorem mem_eqAt {A : Around} {s : Shared} {x : V} {v : Value} (rx : RelV x v) (fx : flatV x = true) : ∀ {xs : List V} {us : List Value}, Vals xs us → xs.all flatV = true → ∀ u ∈ us, SeqAt.EqAt A s u v (eqU x u)
  | _, _, .nil, _ => fun u hu => by cases hu
  | y :: xs, u :: us, .cons r t, f => fun u' hu => by
    rw [List.all_cons, Bool.and_eq_true] at f
    rcases List.mem_cons.mp hu with rfl | hu
    · rw [eqU_of r f.1]; exact eqAt_V r rx f.1 fx
    · exact mem_eqAt rx fx t f.2 u' hu
/-! ### len, list(x), tuple(x) of any list or tuple that is read -/
theorem call_len_seq : CallR X (.builtin "len") (fun xs H Q => ∃ p ys, xs = [.ref p] ∧ (SqL X.K H p ys ∨ SqT X.K H p ys) ∧ Q (.int ys.length) H) := by
  intro pins s σ H xs us Q I r h
  obtain ⟨p, ys, rfl, hq, q⟩ := h
  obtain ⟨u, rfl, rx⟩ := vals1 r
  cases rx
  have hn := line63
  rcases hq with hq | hq
  · obtain ⟨its, r', pl, hz⟩ := I.list hq
    have hlen := r'.length
    exact Calls.call_len_list pl.isList (by simp only [List.size_toArray] <;> omega) ⟨.int ys.length, H, I.tok _, ⟨s.toks + 1, by rw [List.size_toArray, hlen]⟩, q⟩
  · obtain ⟨its, r', pl, hz⟩ := I.tuple hq
    have hlen := r'.length
    exact len_tuple pl (by simp only [List.size_toArray] <;> omega) ⟨.int ys.length, H, I.tok _, ⟨s.toks + 1, by rw [List.size_toArray, hlen]⟩, q⟩
theorem CallR.or {f : Value} {r r' : List V → Hp → VK → Prop} (h : CallR X f r) (h' : CallR X f r') : CallR X f (fun xs H Q => r xs H Q ∨ r' xs H Q) := by
  intro pins s σ H xs us Q I rs q
  rcases q with q | q
  · exact h pins s σ H xs us Q I rs q
  · exact h' pins s σ H xs us Q I rs q
/-- the value is of that builtin type -/
def tyV (K : PySem.W.Frag) (T : String) (x : V) (H : Hp) : Prop := match x with
  | .str _ => T = "str"
  | .int _ => T = "int"
  | .ref p => (T = "list" ∧ ∃ xs, SqL K H p xs) ∨ (T = "tuple" ∧ ∃ o, K.lookup p = some o ∧ o.cls = .type "tuple" ∧ o.dict = none) ∨
      (T = "dict" ∧ ((∃ kvs, H p = some (.dK kvs)) ∨ ∃ kvs, H p = some (.dT kvs))) ∨ (T = "set" ∧ ∃ S n, H p = some (.set S n))
  | _ => False
theorem tyV_is {pins : List (Addr × Obj)} {σ : St} {H : Hp} {s : Shared} {T : String} {x : V} {v : Value} (I : Inv X pins σ H s) (r : RelV x v) (ty : tyV X.K T x H) :
    s.TypeIs v T ∧ ∀ a, v = .ref a → ∃ ob, s.heap.get? a = some ob ∧ ob.dict = none := by
  cases x with
  | str z =>
    obtain ⟨t, rfl⟩ := r
    cases (show T = "str" from ty)
    exact ⟨typeIs_str s z t, fun _ e => nomatch e⟩
  | int i =>
    obtain ⟨t, rfl⟩ := r
    cases (show T = "int" from ty)
    exact ⟨typeIs_int s i t, fun _ e => nomatch e⟩
  | ref p =>
    cases r
    rcases ty with ⟨rfl, xs, hq⟩ | ⟨rfl, o, hk, hc, hd⟩ | ⟨rfl, hk⟩ | ⟨rfl, S, n, hk⟩
    · obtain ⟨its, _, pl, _⟩ := I.list hq
      refine ⟨pl.isList.typeIs, fun a e => ?_⟩
      cases e
      obtain ⟨o, n, e, c, hd, _⟩ := pl
      exact ⟨o, e, hd⟩
    · refine ⟨⟨o, I.kIn p o hk, hc⟩, fun a e => ?_⟩
      cases e
      exact ⟨o, I.kIn _ o hk, hd⟩
    · have z : ∃ o, s.heap.get? p = some o ∧ o.ExactDict := by
        rcases hk with ⟨kvs, hk⟩ | ⟨kvs, hk⟩
        · obtain ⟨_, _, _, _, o, _, _, e, ex, _⟩ := I.hok p _ hk
          exact ⟨o, e, ex⟩
        · obtain ⟨_, _, _, _, o, _, _, e, ex, _⟩ := I.hok p _ hk
          exact ⟨o, e, ex⟩
      obtain ⟨o, e, ex⟩ := z
      refine ⟨⟨o, e, ex.1⟩, fun a e2 => ?_⟩
      cases e2
      exact ⟨o, e, ex.2.1⟩
    · obtain ⟨o, _, _, _, e, ex, _⟩ := I.hok p _ hk
      refine ⟨⟨o, e, ex.1⟩, fun a e2 => ?_⟩
      cases e2
      exact ⟨o, e, ex.2.1⟩
  | _ => exact False.elim ty
def tBM0 (K : PySem.W.Frag) (T : String) (r : V → List V → Hp → VK → Prop) (to : TE) : TE := fun σ H Q => to σ H fun x H1 => tyV K T x H1 ∧ r x [] H1 Q
def tBM (K : PySem.W.Frag) (T : String) (r : V → List V → Hp → VK → Prop) (to : TE) (t : TA) : TE := fun σ H Q => to σ H fun x H1 => tyV K T x H1 ∧ t σ H1 fun xs H2 => r x xs H2 Q
variable {o e : Expr} {es : List Expr} {to : TE} {t : TA} {name : Str} {apos cpos : Pos} {T id : String} {r : V → List V → Hp → VK → Prop}
theorem pe_bm0 (pa : PlainAttrs T) (slot : Slot T name id) (hty : typeOf (.builtin id) = pure (.type "method_descriptor")) (hm : MtR X id r) (ho : PE X o to)
    (hbase : attributeBase o name X.env (eval o X.env) = eval o X.env := by rfl) (hline : (apos.endLine == cpos.line) = true := by rfl) : PE X (.Call (.Attribute o name apos) [] [] cpos) (tBM0 X.K T r to) := by
  intro pins s σ H Q I h
  refine wpAny_Call_method0_late hbase hline (thn (ho pins s σ H _ I h) fun v s1 ⟨x, H1, I1, r1, ty, q1⟩ => ?_)
  obtain ⟨h1, h2⟩ := tyV_is I1 r1 ty
  exact ⟨T, id, pa, slot, hty, h1, h2, Calls.callWith_builtin rfl (PySem.evalArgs_none (hm pins s1 σ H1 x [] v [] Q I1 r1 .nil q1))⟩
theorem pe_bm (pa : PlainAttrs T) (slot : Slot T name id) (hty : typeOf (.builtin id) = pure (.type "method_descriptor")) (hm : MtR X id r) (ho : PE X o to) (ha : PA X (e :: es) t)
    (hbase : attributeBase o name X.env (eval o X.env) = eval o X.env := by rfl)
    (hfew : ((backTo cpos (starEach (e :: es) X.env)).all (fun x => !x.1) && (backToKw cpos (keywordEach [] X.env)).all (fun x => x.1.isSome)
      && decide ((e :: es).length + ([] : List Keyword).length + (if ([] : List Keyword).isEmpty then 0 else 1) < 30)) = true := by rfl)
    (hline : (apos.endLine == cpos.line) = true := by rfl) (hs : starEach (e :: es) X.env = (false, eval e X.env) :: starEach es X.env := by rfl) (hplain : (backTo cpos (starEach es X.env)).any (·.1) = false := by rfl) :
    PE X (.Call (.Attribute o name apos) (e :: es) [] cpos) (tBM X.K T r to t) := by
  intro pins s σ H Q I h
  refine wpAny_Call_method_late hbase hfew hline rfl (thn (ho pins s σ H _ I h) fun v s1 ⟨x, H1, I1, r1, ty, q1⟩ => ?_)
  obtain ⟨h1, h2⟩ := tyV_is I1 r1 ty
  refine ⟨T, id, pa, slot, hty, h1, h2, ?_⟩
  have hA := ha cpos pins s1 σ H1 _ I1 q1
  rw [hs] at hA ⊢
  refine Calls.callWith_builtin (by show (false || (backTo cpos (starEach es X.env)).any (·.1)) = false; rw [hplain] <;> rfl) (Calls.evalArgs_plain ?_)
  exact thn hA fun us s2 ⟨vs, H2, I2, r2, q2⟩ => hm pins s2 σ H2 x vs v us Q I2 r1 r2 q2
end
end L2
namespace L2
open PySem PySem.Spec PyProof.Rows
def MtM (X : Cx) (id : String) (r : V → List V → Hp → VK → Prop) : Prop :=
  ∀ (pins : List (Addr × Obj)) (s : Shared) (σ : St) (H : Hp) (x : V) (xs : List V) (v : Value) (us : List Value) (Q : VK), Inv X pins σ H s → RelV x v → Vals xs us → r x xs H Q →
    wpAny (model X.prog X.w) X.A (call (.builtin id) (v :: us)) (EP X pins σ Q) X.xe s
/-! ### lists of values -/
theorem Vals.one : ∀ {x : V} {us : List Value}, Vals [x] us → ∃ u, us = [u] ∧ RelV x u
  | _, _, .cons r .nil => ⟨_, rfl, r⟩
theorem Vals.two : ∀ {x y : V} {us : List Value}, Vals [x, y] us → ∃ u v, us = [u, v] ∧ RelV x u ∧ RelV y v
  | _, _, _, .cons r (.cons q .nil) => ⟨_, _, rfl, r, q⟩
theorem Vals.zero : ∀ {us : List Value}, Vals [] us → us = []
  | _, .nil => rfl
theorem Vals.dropLast {xs : List V} {us : List Value} (h : Vals xs us) : Vals xs.dropLast us.dropLast := by
  induction h with
  | nil => exact .nil
  | cons r t ih =>
    cases t with
    | nil => exact .nil
    | cons q t' => exact .cons r ih
theorem Vals.eraseIdx : ∀ {xs : List V} {us : List Value} (i : Nat), Vals xs us → Vals (xs.eraseIdx i) (us.eraseIdx i)
  | _, _, _, .nil => .nil
  | _, _, 0, .cons _ t => t
  | _, _, i + 1, .cons r t => .cons r (Vals.eraseIdx i t)
theorem Vals.reverse {xs : List V} {us : List Value} (h : Vals xs us) : Vals xs.reverse us.reverse := by
  induction h with
  | nil => exact .nil
  | cons r t ih => rw [List.reverse_cons, List.reverse_cons]; exact Vals.append ih (.cons r .nil)
section
variable {X : Cx} {pins : List (Addr × Obj)} {σ : St} {H : Hp} {s : Shared} {l b : Addr} {xs ys zs : List V}
/-! ### the two steps: a tracked list is rewritten, a new list is laid -/
theorem Inv.lset {its its' : List Value} {n : Nat} {f : Array Value → Array Value} {t' : Nat} (I : Inv X pins σ H s) (hH : H l = some (.lst xs))
    (e : s.heap.get? l = some { cls := .type "list", data := .seq its.toArray n }) (hf : f its.toArray = its'.toArray) (hv : Vals ys its') (hz : ys.length ≤ sizeLine) :
    Inv X pins σ (upd H l (.lst ys)) { s with heap := s.heap.update l (Obj.mapSeq f), toks := t' } := by
  have q := PySem.IsL.update e f
  rw [hf] at q
  refine I.write (x := l) (e := l) (by rw [hH]; exact trivial) (.inl rfl) (fun b' u hb hu => (Heap.get?_update_other s.heap (Obj.mapSeq f) (Ne.symm hb)).trans hu) ⟨_, q⟩ ?_
  exact ⟨hz, its', _, hv, q⟩
theorem Inv.fresh (I : Inv X pins σ H s) : H s.heap.objs.size = none := I.hok.fresh (Nat.le_refl _)
theorem Inv.lstM (I : Inv X pins σ H s) (hH : H l = some (.lst xs)) : xs.length ≤ sizeLine ∧ ∃ (its : List Value) (n : Nat), Vals xs its ∧ xs.length = its.length ∧ s.heap.get? l = some { cls := .type "list", data := .seq its.toArray n } := by
  obtain ⟨z, its, n, r, e⟩ := I.hok l _ hH
  exact ⟨z, its, n, r, r.length, e⟩
end
section
variable {X : Cx}
/-! ### methods -/
def rAppend : V → List V → Hp → VK → Prop := fun x vs H Q => ∃ l xs y, x = .ref l ∧ vs = [y] ∧ H l = some (.lst xs) ∧ xs.length < sizeLine ∧ Q .non (upd H l (.lst (xs ++ [y])))
theorem mt_append : MtM X "list.append" rAppend := by
  intro pins s σ H x vs v us Q I rx rv h
  obtain ⟨l, xs, y, rfl, rfl, hH, hz, q⟩ := h
  cases rx
  obtain ⟨u, rfl, ru⟩ := rv.one
  obtain ⟨z, its, n, r, hl, e⟩ := I.lstM hH
  refine call_meets F.slot_list_append ⟨_, e, rfl⟩ F.entry_list_append (F.args_list_append_2 _ _) (PySem.list_append l its.toArray n u (by rw [List.size_toArray]; omega)) ⟨e, ?_⟩
  refine ⟨.non, _, I.lset (its' := its ++ [u]) hH e (by simp) (r.append (.cons ru .nil)) ?_, rfl, q⟩
  rw [List.length_append, List.length_singleton]
  omega
end
section
variable {prog : Program} {w : World} {A : Around} {E : Value → Shared → Prop} {s : Shared}
set_option maxRecDepth 100000 in
end
end L2
namespace L2
open PySem PySem.Spec PyProof.Rows
theorem Vals.ints : ∀ {ns : List Int} {us : List Value}, Vals (ns.map V.int) us → IntsAre us ns
  | [], us, h => by
    rw [List.map_nil] at h
    cases h
    exact IntsAre.nil
  | n :: ns, us, h => by
    rw [List.map_cons] at h
    cases h with
    | cons r t =>
      obtain ⟨k, rfl⟩ := r
      exact IntsAre.cons n k (Vals.ints t)
section
variable {X : Cx}
theorem flat_at {ys : List V} (f : ys.all flatV = true) {j : Nat} {z : V} (h : ys[j]? = some z) : flatV z = true := List.all_eq_true.mp f z (List.mem_of_getElem? h)
end
mutual
inductive Dp (K : PySem.W.Frag) (H : Hp) : V → PyData → Prop
  | non : Dp K H .non .none
  | bl (b : Bool) : Dp K H (.bl b) (.bool b)
  | int (i : Int) : Dp K H (.int i) (.int i)
  | str (x : Str) : Dp K H (.str x) (.str x)
  | lst {a : Addr} {xs : List V} {ds : List PyData} : SqL K H a xs → DpAll K H xs ds → Dp K H (.ref a) (.list ds)
  | tup {a : Addr} {xs : List V} {ds : List PyData} : SqT K H a xs → DpAll K H xs ds → Dp K H (.ref a) (.tuple ds)
inductive DpAll (K : PySem.W.Frag) (H : Hp) : List V → List PyData → Prop
  | nil : DpAll K H [] []
  | cons {v : V} {vs : List V} {d : PyData} {ds : List PyData} : Dp K H v d → DpAll K H vs ds → DpAll K H (v :: vs) (d :: ds)
end
section
variable {X : Cx} {pins : List (Addr × Obj)} {σ : St} {H : Hp} {s : Shared}
mutual
theorem Dp.reads (I : Inv X pins σ H s) : ∀ (d : PyData) (v : V) (u : Value), Dp X.K H v d → RelV v u → ∃ as, Reads s.heap u d as
  | .none, _, _, h, r => by
    cases h
    cases r
    exact ⟨_, Reads.none⟩
  | .bool b, _, _, h, r => by
    cases h
    cases r
    exact ⟨_, Reads.bool b⟩
  | .int i, _, _, h, r => by
    cases h
    obtain ⟨t, rfl⟩ := r
    exact ⟨_, Reads.int i t⟩
  | .str x, _, _, h, r => by
    cases h
    obtain ⟨t, rfl⟩ := r
    exact ⟨_, Reads.str x t⟩
  | .list ds, _, _, h, r => by
    cases h with
    | lst hs ha =>
      cases r
      obtain ⟨its, rv, ⟨o, n, ho, hc, _, hd⟩, _⟩ := I.list hs
      obtain ⟨as, hr⟩ := Dp.readsAll I ds _ its ha rv
      exact ⟨_, Reads.list ho hc hd hr⟩
  | .tuple ds, _, _, h, r => by
    cases h with
    | tup hs ha =>
      cases r
      obtain ⟨its, rv, ⟨o, ho, hc, n, hd⟩, _⟩ := I.tuple hs
      obtain ⟨as, hr⟩ := Dp.readsAll I ds _ its ha rv
      exact ⟨_, Reads.tuple ho hc hd hr⟩
  | .dict _, _, _, h, _ => by cases h
theorem Dp.readsAll (I : Inv X pins σ H s) : ∀ (ds : List PyData) (vs : List V) (us : List Value), DpAll X.K H vs ds → Vals vs us → ∃ as, ReadsAll s.heap us ds as
  | [], _, _, h, r => by
    cases h
    cases r
    exact ⟨_, ReadsAll.nil⟩
  | d :: ds, _, _, h, r => by
    cases h with
    | cons h1 h2 =>
      cases r with
      | cons r1 r2 =>
        obtain ⟨as, q1⟩ := Dp.reads I d _ _ h1 r1
        obtain ⟨bs, q2⟩ := Dp.readsAll I ds _ _ h2 r2
        exact ⟨_, ReadsAll.cons q1 q2⟩
end
end
section
variable {X : Cx}
def rEqD (K : PySem.W.Frag) : R2 := fun x y H Q => ∃ d e, Dp K H x d ∧ Dp K H y e ∧ SeqAt.shaped d = true ∧ SeqAt.shaped e = true ∧ Q (.bl (PyData.eqv d e)) H
def rNeD (K : PySem.W.Frag) : R2 := fun x y H Q => ∃ d e, Dp K H x d ∧ Dp K H y e ∧ SeqAt.shaped d = true ∧ SeqAt.shaped e = true ∧ Q (.bl (!PyData.eqv d e)) H
theorem op_eqD (hu : X.A.units + 64 < cLine) : OpR X (compareOp .Eq) (rEqD X.K) := by
  intro pins s σ H x y v u Q I rx ry h
  obtain ⟨d, e, hd, he, sd, se, q⟩ := h
  obtain ⟨as, r1⟩ := Dp.reads I d x v hd rx
  obtain ⟨bs, r2⟩ := Dp.reads I e y u he ry
  exact SeqAt.compareEq_shaped r1 r2 sd se hu ⟨.bl _, H, I, rfl, q⟩
theorem op_neD (hu : X.A.units + 64 < cLine) : OpR X (compareOp .NotEq) (rNeD X.K) := by
  intro pins s σ H x y v u Q I rx ry h
  obtain ⟨d, e, hd, he, sd, se, q⟩ := h
  obtain ⟨as, r1⟩ := Dp.reads I d x v hd rx
  obtain ⟨bs, r2⟩ := Dp.reads I e y u he ry
  exact SeqAt.compareNe_shaped r1 r2 sd se hu ⟨.bl _, H, I, rfl, q⟩
end
end L2
namespace L2
open PySem PySem.Spec PyProof.Rows
abbrev CellAt (h : Heap) (c : Addr) (v : Option Value) : Prop := h.IsCell c v
def relS (scope sc : Scope) : Scope :=
  { scope with names := scope.names.map fun (n, k) => if (k == .free && sc.kind == .function && sc.names.lookup n == some .cell) then (n, .cell) else (n, k) }
def cloFrom (cells : List (Str × Addr)) : List (Str × NameKind) → List (Str × Addr) → List (Str × Addr)
  | [], acc => acc
  | (n, k) :: r, acc => if k == .free then cloFrom cells r ((n, (cells.lookup n).getD 0) :: acc) else cloFrom cells r acc
theorem closure_loop (env : Env) (f : Str × NameKind → List (Str × Addr) → Sem (ForInStep (List (Str × Addr))))
    (hf : ∀ n k c, f (n, k) c = if k == .free then (do let a ← cellOf env n; pure (.yield ((n, a) :: c))) else pure (.yield c)) :
    ∀ (names : List (Str × NameKind)) (acc : List (Str × Addr)), (∀ y ∈ names, y.2 = .free → ∃ c, env.cells.lookup y.1 = some c) → forIn names acc f = pure (cloFrom env.cells names acc)
  | [], acc, _ => by rw [List.forIn_nil]; rfl
  | (n, k) :: r, acc, h => by
    rw [List.forIn_cons, hf]
    have ih := fun acc => closure_loop env f hf r acc fun y hy => h y (List.mem_cons_of_mem _ hy)
    unfold cloFrom
    by_cases hk : (k == NameKind.free) = true
    · rw [if_pos hk, if_pos hk]
      obtain ⟨c, hc⟩ := h (n, k) List.mem_cons_self (by simpa using hk)
      have e : cellOf env n = pure c := by unfold cellOf; rw [hc]
      rw [e]
      have e2 : (env.cells.lookup n).getD 0 = c := by rw [hc]; rfl
      rw [e2]
      exact ih _
    · rw [if_neg hk, if_neg hk]
      exact ih _
theorem closure_ok {scope : Scope} {env : Env} (h : ∀ y ∈ scope.names, y.2 = .free → ∃ c, env.cells.lookup y.1 = some c) : closureFor scope env = pure (cloFrom env.cells scope.names []) := by
  simp only [closureFor]
  rw [closure_loop env _ (fun n k c => rfl) scope.names [] h]
  rfl
theorem mem_lookup {α : Type} : ∀ {l : List (Str × α)} {n : Str} {c : α}, (n, c) ∈ l → ∃ c', l.lookup n = some c'
  | (k, v) :: r, n, c, h => by
    rw [List.lookup_cons]
    cases hb : n == k with
    | true => exact ⟨_, rfl⟩
    | false =>
      rcases List.mem_cons.mp h with e | h
      · cases e; simp at hb
      · exact mem_lookup h
theorem cloFrom_mem {cells : List (Str × Addr)} : ∀ {names : List (Str × NameKind)} {acc : List (Str × Addr)} {n : Str} {c : Addr}, (n, c) ∈ cloFrom cells names acc → (n, c) ∈ acc ∨ ((n, .free) ∈ names ∧ c = (cells.lookup n).getD 0)
  | [], _, _, _, h => .inl h
  | (m, k) :: r, acc, n, c, h => by
    unfold cloFrom at h
    split at h
    · rename_i hk
      have hk : k = .free := by simpa using hk
      rcases cloFrom_mem h with h | ⟨h1, h2⟩
      · rcases List.mem_cons.mp h with e | h
        · cases e; exact .inr ⟨hk ▸ List.mem_cons_self, rfl⟩
        · exact .inl h
      · exact .inr ⟨List.mem_cons_of_mem _ h1, h2⟩
    · rcases cloFrom_mem h with h | ⟨h1, h2⟩
      · exact .inl h
      · exact .inr ⟨List.mem_cons_of_mem _ h1, h2⟩
theorem cloFrom_acc {cells : List (Str × Addr)} : ∀ {names : List (Str × NameKind)} {acc : List (Str × Addr)} {p : Str × Addr}, p ∈ acc → p ∈ cloFrom cells names acc
  | [], _, _, h => h
  | (m, k) :: r, acc, p, h => by
    unfold cloFrom
    split
    · exact cloFrom_acc (List.mem_cons_of_mem _ h)
    · exact cloFrom_acc h
theorem cloFrom_has {cells : List (Str × Addr)} : ∀ {names : List (Str × NameKind)} {acc : List (Str × Addr)} {n : Str}, (n, .free) ∈ names → (n, (cells.lookup n).getD 0) ∈ cloFrom cells names acc
  | (m, k) :: r, acc, n, h => by
    unfold cloFrom
    rcases List.mem_cons.mp h with e | h
    · cases e
      exact cloFrom_acc List.mem_cons_self
    · split
      · exact cloFrom_has h
      · exact cloFrom_has h
theorem cells_mem : ∀ {names : List (Str × NameKind)} {h : Heap} {acc : List (Str × Addr)} {x : Str} {c : Addr}, (x, c) ∈ cellsFrom h.objs.size names acc →
    (x, c) ∈ acc ∨ ((x, .cell) ∈ names ∧ h.objs.size ≤ c ∧ CellAt (pushCells h names) c none)
  | [], _, _, _, _, h => .inl h
  | (n, k) :: r, h, acc, x, c, hm => by
    unfold cellsFrom at hm
    unfold pushCells
    split at hm
    · rename_i hk
      rw [if_pos hk]
      have hk : k = .cell := by simpa using hk
      rw [← Heap.size_push h { cls := .type "cell", data := .cell none }] at hm
      rcases cells_mem hm with hm | ⟨h1, h2, h3⟩
      · rcases List.mem_cons.mp hm with e | hm
        · cases e
          exact .inr ⟨hk ▸ List.mem_cons_self, Nat.le_refl _, _, pushCells_keeps r _ _ _ (Heap.get?_push_size _ rfl), rfl⟩
        · exact .inl hm
      · rw [Heap.size_push] at h2
        exact .inr ⟨List.mem_cons_of_mem _ h1, Nat.le_of_succ_le h2, h3⟩
    · rename_i hk
      rw [if_neg hk]
      rcases cells_mem hm with hm | ⟨h1, h2, h3⟩
      · exact .inl hm
      · exact .inr ⟨List.mem_cons_of_mem _ h1, h2, h3⟩
theorem cells_acc : ∀ {names : List (Str × NameKind)} {n : Nat} {acc : List (Str × Addr)} {p : Str × Addr}, p ∈ acc → p ∈ cellsFrom n names acc
  | [], _, _, _, h => h
  | (m, k) :: r, n, acc, p, h => by
    unfold cellsFrom
    split
    · exact cells_acc (List.mem_cons_of_mem _ h)
    · exact cells_acc h
theorem cells_has : ∀ {names : List (Str × NameKind)} {n : Nat} {acc : List (Str × Addr)} {x : Str}, (x, .cell) ∈ names → ∃ c, (x, c) ∈ cellsFrom n names acc
  | (m, k) :: r, n, acc, x, h => by
    unfold cellsFrom
    rcases List.mem_cons.mp h with e | h
    · cases e
      exact ⟨n, cells_acc List.mem_cons_self⟩
    · split
      · exact cells_has h
      · exact cells_has h
theorem cells_inj : ∀ {names : List (Str × NameKind)} {h : Heap} {acc : List (Str × Addr)} {x y : Str} {c : Addr}, (∀ p ∈ acc, p.2 < h.objs.size) → (∀ x y c, (x, c) ∈ acc → (y, c) ∈ acc → x = y) →
    (x, c) ∈ cellsFrom h.objs.size names acc → (y, c) ∈ cellsFrom h.objs.size names acc → x = y
  | [], _, _, _, _, _, _, hi, h1, h2 => hi _ _ _ h1 h2
  | (n, k) :: r, h, acc, x, y, c, hl, hi, h1, h2 => by
    unfold cellsFrom at h1 h2
    split at h1
    · rename_i hk
      rw [if_pos hk] at h2
      rw [← Heap.size_push h { cls := .type "cell", data := .cell none }] at h1 h2
      refine cells_inj (h := h.push _) (fun p hp => ?_) (fun x y c a b => ?_) h1 h2
      · rw [Heap.size_push]
        rcases List.mem_cons.mp hp with rfl | hp
        · exact Nat.lt_succ_self _
        · exact Nat.lt_succ_of_lt (hl p hp)
      · rcases List.mem_cons.mp a with e | a <;> rcases List.mem_cons.mp b with e' | b
        · cases e; cases e'; rfl
        · cases e; exact absurd (hl _ b) (Nat.lt_irrefl _)
        · cases e'; exact absurd (hl _ a) (Nat.lt_irrefl _)
        · exact hi _ _ _ a b
    · rename_i hk
      rw [if_neg hk] at h2
      exact cells_inj hl hi h1 h2
theorem newEnv_comp {M : Model} {A : Around} {E : Value → Shared → Prop} {s : Shared} {scope : Scope} {globals : Addr} {closure : List (Str × Addr)} {qual : Str} {func : Option Addr} {code : Value} {around : Env} {builtins : Addr} {Q : Env → Shared → Prop}
    (h : Q (newEnv scope s.heap.objs.size globals (cellsFrom (s.heap.objs.size + 1) scope.names closure) qual func code (some around) builtins)
      { s with heap := pushCells (s.heap.push { cls := .type "dict", data := .dict #[] }) scope.names }) :
    wpAny M A (newFunctionEnv scope globals closure [] qual func code (some around) builtins) Q E s := by
  simp only [newFunctionEnv, Option.isSome_some, if_true]
  refine wpAny_bind (wpAny_alloc ?_)
  refine wpAny_bind (wpAny_layCells _ (fun n k c => rfl) scope.names closure _ _ ?_)
  rw [show ({ s with heap := s.heap.push { cls := .type "dict", data := .dict #[] } } : Shared).heap.objs.size = s.heap.objs.size + 1 from Heap.size_push ..]
  rw [List.forIn_nil]
  exact wpAny_bind (wpAny_pure (wpAny_pure h))
/-- every name of the written scope, in the scope that runs -/
theorem lookup_relS {sc : Scope} : ∀ {names : List (Str × NameKind)} {x : Str} {k : NameKind},
    (names.map fun (n, k) => if (k == NameKind.free && sc.kind == .function && sc.names.lookup n == some .cell) then (n, NameKind.cell) else (n, k)).lookup x = some k →
    ∃ k', names.lookup x = some k' ∧ (k = k' ∨ (k' = .free ∧ k = .cell))
  | [], _, _, h => by simp at h
  | (n, k₀) :: r, x, k, h => by
    have ih := @lookup_relS sc r x k
    have h' : List.lookup x ((if (k₀ == NameKind.free && sc.kind == .function && sc.names.lookup n == some .cell) = true then (n, NameKind.cell) else (n, k₀)) :: (r.map _)) = some k := h
    cases hx : x == n with
    | true =>
      simp only [List.lookup_cons, hx]
      by_cases hc : (k₀ == NameKind.free && sc.kind == .function && sc.names.lookup n == some .cell) = true
      · rw [if_pos hc] at h'
        simp only [List.lookup_cons, hx] at h'
        cases h'
        simp only [Bool.and_eq_true, beq_iff_eq] at hc
        exact ⟨k₀, rfl, .inr ⟨hc.1.1, rfl⟩⟩
      · rw [if_neg hc] at h'
        simp only [List.lookup_cons, hx] at h'
        cases h'
        exact ⟨_, rfl, .inl rfl⟩
    | false =>
      simp only [List.lookup_cons, hx]
      by_cases hc : (k₀ == NameKind.free && sc.kind == .function && sc.names.lookup n == some .cell) = true
      · rw [if_pos hc] at h'
        simp only [List.lookup_cons, hx] at h'
        exact ih h'
      · rw [if_neg hc] at h'
        simp only [List.lookup_cons, hx] at h'
        exact ih h'
/-- the names of a comprehension's block: its own (with their places in N), or captured -/
structure BlkOk (N : List Str) (sc scope : Scope) (own : List (Str × Nat)) : Prop where
  kind : scope.kind = .function
  uniq : ∀ y ∈ scope.names, scope.names.lookup y.1 = some y.2
  ix : ∀ p ∈ own, N[p.2]? = some p.1
  free : ∀ y ∈ scope.names, y.2 = .free → sc.names.lookup y.1 = some .cell ∨ sc.names.lookup y.1 = some .free
  own : ∀ y ∈ scope.names, y.2 = .local ∨ y.2 = .cell → y.1 ∈ own.map (·.1) ∨ y.1 ∉ N
/-- the slots of the block's own names forgotten -/
def wipe (σ : St) : List Nat → St
  | [] => σ
  | v :: vs => (wipe σ vs).set v none
theorem wipe_length (σ : St) : ∀ vs : List Nat, (wipe σ vs).length = σ.length
  | [] => rfl
  | v :: vs => by unfold wipe; rw [List.length_set, wipe_length σ vs]
theorem wipe_some {σ : St} {i : Nat} {x : V} : ∀ {vs : List Nat}, (wipe σ vs)[i]? = some (some x) → σ[i]? = some (some x) ∧ i ∉ vs
  | [], h => ⟨h, by simp⟩
  | v :: vs, h => by
    unfold wipe at h
    by_cases hi : v = i
    · subst hi
      by_cases hv : v < (wipe σ vs).length
      · rw [List.getElem?_set_self hv] at h; cases h
      · rw [List.getElem?_eq_none (by simpa using hv)] at h; cases h
    · rw [List.getElem?_set_ne hi] at h
      obtain ⟨h1, h2⟩ := wipe_some h
      exact ⟨h1, by simp only [List.mem_cons, not_or]; exact ⟨fun e => hi e.symm, h2⟩⟩
/-- the context of a block that starts at s, its iterator's objects at fp -/
abbrev Cx.blk (X : Cx) (s : Shared) (H : Hp) (scope : Scope) (cenv : Env) (fp : List Addr) : Cx := { X with s_0 := s, H_0 := H, env := cenv, outer := X.stack, ex := fp, fn := fun x => scope.names.lookup x == some .cell, pn := [], xe := fun _ _ => False }
section
variable {X : Cx} {pins : List (Addr × Obj)} {σ : St} {H : Hp} {s : Shared}
theorem block_start {scope : Scope} {own : List (Str × Nat)} {fp : List Addr} (I : Inv X pins σ H s) (ok : BlkOk X.N X.env.scope scope own) (hN : X.N.Nodup) (hfp : ∀ b ∈ fp, FpOk X pins H b ∧ b < s.heap.objs.size) :
    Inv (X.blk s H scope (compEnvC scope (cellsFrom (s.heap.objs.size + 1) scope.names (cloFrom X.env.cells scope.names [])) s.heap.objs.size X.env) fp) [] (wipe σ (own.map (·.2))) H { s with heap := pushCells (s.heap.push { cls := .type "dict", data := .dict #[] }) scope.names } := by
  have hfree : ∀ y ∈ scope.names, y.2 = .free → ∃ c, X.env.cells.lookup y.1 = some c := fun y hy e => by
    rcases ok.free y hy e with k | k
    · exact I.ok.has _ (.inl k)
    · exact I.ok.has _ (.inr k)
  generalize hcenv : compEnvC scope (cellsFrom (s.heap.objs.size + 1) scope.names (cloFrom X.env.cells scope.names [])) s.heap.objs.size X.env = cenv
  have kp : ∀ b o, s.heap.get? b = some o → (pushCells (s.heap.push { cls := .type "dict", data := .dict #[] }) scope.names).get? b = some o := fun b o e => pushCells_keeps _ _ _ _ (Heap.get?_push_of_some _ e)
  have hL : cenv.locals = s.heap.objs.size := by rw [← hcenv]; rfl
  have hcl : cenv.cells = cellsFrom (s.heap.objs.size + 1) scope.names (cloFrom X.env.cells scope.names []) := by rw [← hcenv]; rfl
  have hsc : cenv.scope = relS scope X.env.scope := by rw [← hcenv]; rfl
  rw [← Heap.size_push s.heap { cls := .type "dict", data := .dict #[] }] at hcl
  have cm : ∀ {y c}, (y, c) ∈ cloFrom X.env.cells scope.names [] → X.env.cells.lookup y = some c ∧ c < s.heap.objs.size := fun {y c} hm => by
    rcases cloFrom_mem hm with hm | ⟨h1, rfl⟩
    · cases hm
    · obtain ⟨c, hc⟩ := hfree _ h1 rfl
      rw [hc]
      obtain ⟨w, z⟩ := I.cell _ _ hc
      exact ⟨rfl, z.lt⟩
  have mem : ∀ {y c}, cenv.cells.lookup y = some c → (X.env.cells.lookup y = some c ∧ c < s.heap.objs.size) ∨ (s.heap.objs.size + 1 ≤ c ∧ CellAt (pushCells (s.heap.push { cls := .type "dict", data := .dict #[] }) scope.names) c none) := fun {y c} e => by
    rw [hcl] at e
    rcases cells_mem (PySem.mem_of_lookup e) with hm | ⟨_, h2, h3⟩
    · exact .inl (cm hm)
    · rw [Heap.size_push] at h2; exact .inr ⟨h2, h3⟩
  have look : ∀ {y}, scope.names.lookup y = some .free → ∃ c, cenv.cells.lookup y = some c ∧ X.env.cells.lookup y = some c := fun {y} hl => by
    have hy : (y, NameKind.free) ∈ scope.names := PySem.mem_of_lookup hl
    obtain ⟨c', e'⟩ := mem_lookup (cells_acc (names := scope.names) (n := (s.heap.push { cls := .type "dict", data := .dict #[] }).objs.size) (cloFrom_has (cells := X.env.cells) (acc := []) hy))
    rw [← hcl] at e'
    refine ⟨c', e', ?_⟩
    rw [hcl] at e'
    rcases cells_mem (PySem.mem_of_lookup e') with hm | ⟨h1, _, _⟩
    · exact (cm hm).1
    · have := ok.uniq _ h1
      rw [hl] at this; cases this
  have okB : (X.blk s H scope cenv fp).Ok := by
    refine ⟨I.ok.mod, by show cenv.scope.kind = _; rw [hsc]; exact ok.kind, by show cenv.globals = _; rw [← hcenv]; exact I.ok.glob, by show cenv.builtins = _; rw [← hcenv]; exact I.ok.blt, by show s.heap.objs.size ≤ cenv.locals; rw [hL]; exact Nat.le_refl _,
      fun y z c e1 e2 => ?_, fun y hy => ?_, fun y c z e => ?_, I.ok.hd, I.ok.frames, .inl rfl, fun b hb => ⟨?_, fun y c e z => ?_⟩, I.bs, Nat.le_trans I.ok.bsz I.sz, fun b o e hb => ?_, fun b hb z => ?_, I.stack, I.stkFree⟩
    · have e1 : cenv.cells.lookup y = some c := e1
      have e2 : cenv.cells.lookup z = some c := e2
      rw [hcl] at e1 e2
      refine cells_inj (fun p hp => ?_) (fun y z c a b => I.ok.inj y z c (cm a).1 (cm b).1) (PySem.mem_of_lookup e1) (PySem.mem_of_lookup e2)
      rw [Heap.size_push]
      exact Nat.lt_succ_of_lt (cm (y := p.1) (c := p.2) hp).2
    · show ∃ c, cenv.cells.lookup y = some c
      have key : ∀ k, cenv.kindOf y = some k → (k = .cell ∨ k = .free) → ∃ c, cenv.cells.lookup y = some c := fun k hk hk' => by
        unfold Env.kindOf at hk
        rw [hsc] at hk
        obtain ⟨k', e, r⟩ := lookup_relS hk
        have : k' = .cell ∨ k' = .free := by
          rcases r with rfl | ⟨rfl, _⟩
          · exact hk'
          · exact .inr rfl
        rcases this with rfl | rfl
        · obtain ⟨c, hm⟩ := cells_has (n := (s.heap.push { cls := .type "dict", data := .dict #[] }).objs.size) (acc := cloFrom X.env.cells scope.names []) (PySem.mem_of_lookup e)
          obtain ⟨c', e'⟩ := mem_lookup hm
          exact ⟨c', by rw [hcl]; exact e'⟩
        · obtain ⟨c, h1, _⟩ := look e
          exact ⟨c, h1⟩
      rcases hy with hy | hy
      · exact key _ hy (.inl rfl)
      · exact key _ hy (.inr rfl)
    · have z : (scope.names.lookup y == some NameKind.cell) = true := z
      have z : scope.names.lookup y = some .cell := by simpa using z
      have e : cenv.cells.lookup y = some c := e
      rw [hcl] at e
      rcases cells_mem (PySem.mem_of_lookup e) with hm | ⟨_, h2, _⟩
      · rcases cloFrom_mem hm with hm | ⟨h1, _⟩
        · cases hm
        · have q := ok.uniq _ h1
          rw [z] at q; cases q
      · rw [Heap.size_push] at h2
        exact Nat.le_of_succ_le h2
    · show b ≠ cenv.locals
      rw [hL]; exact Nat.ne_of_lt (hfp b hb).2
    · have e : cenv.cells.lookup y = some c := e
      rcases mem e with ⟨h1, _⟩ | ⟨h1, _⟩
      · exact (hfp b hb).1.2.2.2.2.1 y c h1 z
      · have h2 : s.heap.objs.size + 1 ≤ b := by rw [← z]; exact h1
        exact absurd (Nat.lt_of_lt_of_le (hfp b hb).2 (Nat.le_of_succ_le h2)) (Nat.lt_irrefl _)
    · rcases (hfp b hb).1.2.2.2.1 with z | z
      · exact I.ok.noex b o e z
      · exact absurd (Nat.lt_of_lt_of_le (Heap.lt_size e) (Nat.le_trans I.ok.bsz z)) (Nat.lt_irrefl _)
    · rcases List.mem_cons.mp (I.stkSub b z) with z | z
      · exact (hfp b hb).1.2.1 z
      · exact (hfp b hb).1.2.2.1 z
  refine ⟨okB, rfl, I.bare, Un.kept kp, ⟨fun _ => none, ?_, fun i y av e1 e2 e3 => ?_⟩, fun y c e => ?_, ?_, fun y c e => ?_, fun p hp => ?_, I.hok.kept kp, by rw [wipe_length]; exact I.len⟩
  · show Heap.Ns _ cenv.locals _
    rw [hL]
    exact Heap.Ns.keeps (Heap.Ns.new ..) fun b o e => pushCells_keeps _ _ _ _ e
  · obtain ⟨e2, hne⟩ := wipe_some e2
    have hfr : scope.names.lookup y = some .free ∧ (cenv.kindOf y = some .cell ∨ cenv.kindOf y = some .free) := by
      have key : ∀ k, cenv.scope.names.lookup y = some k → k = .local ∨ k = .cell ∨ k = .free → scope.names.lookup y = some .free ∧ (cenv.kindOf y = some .cell ∨ cenv.kindOf y = some .free) := fun k hk hk' => by
        have hk0 := hk
        rw [hsc] at hk
        obtain ⟨k', e, r⟩ := lookup_relS hk
        have no : ¬ (k' = .local ∨ k' = .cell) := fun hh => by
          rcases ok.own _ (PySem.mem_of_lookup e) hh with e' | e'
          · obtain ⟨p, hp, hpy⟩ := List.mem_map.mp e'
            have e3 := ok.ix p hp
            have : p.1 = y := hpy
            rw [this] at e3
            exact hne (List.mem_map.mpr ⟨p, hp, nodup_ix hN e3 e1⟩)
          · exact e' (List.mem_of_getElem? e1)
        rcases r with rfl | ⟨rfl, rfl⟩
        · rcases hk' with rfl | rfl | rfl
          · exact absurd (.inl rfl) no
          · exact absurd (.inr rfl) no
          · exact ⟨e, .inr hk0⟩
        · exact ⟨e, .inl hk0⟩
      have e3 : Vis cenv.scope y := e3
      rcases e3 with e3 | e3 | e3
      · exact key _ e3 (.inl rfl)
      · exact key _ e3 (.inr (.inl rfl))
      · exact key _ e3 (.inr (.inr rfl))
    obtain ⟨m, hn, hl⟩ := I.loc
    have hvis : Vis X.env.scope y := (ok.free _ (PySem.mem_of_lookup hfr.1) rfl).elim (fun k => .inr (.inl k)) (fun k => .inr (.inr k))
    obtain ⟨w, r, q⟩ := hl i y av e1 e2 hvis
    refine ⟨w, r, .inr ⟨hfr.2, ?_⟩⟩
    obtain ⟨c, h1, h2⟩ := look hfr.1
    rcases q with ⟨k, _⟩ | ⟨_, c', e', z⟩
    · have k : X.env.scope.names.lookup y = some .local := k
      rcases ok.free _ (PySem.mem_of_lookup hfr.1) rfl with k' | k' <;> rw [show X.env.scope.names.lookup y = _ from k'] at k <;> cases k
    · rw [h2] at e'; cases e'
      exact ⟨c, h1, z.keeps kp⟩
  · have e : cenv.cells.lookup y = some c := e
    rcases mem e with ⟨h1, _⟩ | ⟨_, z⟩
    · obtain ⟨w, z⟩ := I.cell y c h1
      exact ⟨w, z.keeps kp⟩
    · exact ⟨_, z⟩
  · show H cenv.locals = none
    rw [hL]; exact I.hok.fresh (Nat.le_refl _)
  · have e : cenv.cells.lookup y = some c := e
    rcases mem e with ⟨h1, _⟩ | ⟨h1, _⟩
    · exact I.freeC y c h1
    · exact I.hok.fresh (Nat.le_of_succ_le h1)
  · exact absurd (show p ∈ ([] : List (Addr × Obj)) ++ [] from hp) (by simp)
/-- an item appended to a tracked list -/
theorem app_ok {E : Value → Shared → Prop} {D : Addr} {xs : List V} {y : V} {v : Value} {Q : Value → Shared → Prop} (I : Inv X pins σ H s) (hD : H D = some (.lst xs)) (hz : xs.length < sizeLine) (r : RelV y v)
    (h : ∀ s', Inv X pins σ (upd H D (.lst (xs ++ [y]))) s' → Q .none s') : wpAny (model X.prog X.w) X.A (call (.builtin "list.append") [.ref D, v]) Q E s := by
  obtain ⟨hz', its, n, ri, e⟩ := I.hok D _ hD
  have hl := ri.length
  refine append_at (hsz := by rw [List.size_toArray]; omega) e fun h' sb ho' => ?_
  refine h { s with heap := h' } (I.write (t' := s.toks) (by rw [hD]; trivial) (.inl rfl) (fun b u hb q => (sb.2 b hb).trans q) ⟨_, ho'⟩ ⟨by rw [List.length_append]; exact hz, its ++ [v], n + 1, ri.append (.cons r .nil), ?_⟩)
  rw [ho']
  simp
/-- a clause's tests -/
def PTs (X : Cx) (ifs : List Expr) (t : TT) : Prop :=
  ∀ (pins : List (Addr × Obj)) (s : Shared) (σ : St) (H : Hp) (Q : Bool → Hp → Prop), Inv X pins σ H s → t σ H Q →
    wpAny (model X.prog X.w) X.A (forIn ifs true fun c r => if r = true then do let ok ← isTrue c X.env (eval c X.env); pure (ForInStep.yield ok) else pure (ForInStep.yield r)) (TP X pins σ Q) X.xe s
def tYes : TT := fun _ H Q => Q true H
theorem pts_nil : PTs X [] tYes := fun _ _ _ H _ I h => wpAny_tests_nil ⟨H, I, h⟩
end
theorem thnF {α : Type} {t : Sem α} {Q Q' : α → Shared → Prop} {M : Model} {A : Around} {E : Value → Shared → Prop} {s : Shared} (h : wpAny M A t Q (fun _ _ => False) s) (hQ : ∀ a s, Q a s → Q' a s) : wpAny M A t Q' E s := wpAny_mono h hQ fun _ _ z => False.elim z
/-- the loop of a list comprehension's block, the target of any form (codeAny_compLoop_tests asks a target that no tuple goes to; statement and proof follow it, PyProof/CompMap.lean:41-61, with the step letOwnedTupleGo kept) -/
theorem compLoop_any {prog : Program} {w : World} {A : Around} {R : Result → Shared → Prop} {s : Shared} {elt target iter : Expr} {ifs : List Expr} {scope : Scope} {pos : Pos} {it acc : Value} {env : Env} (I : Nat → Shared → Prop)
    (turn : ∀ n s, I n s → wpAny (model prog w) A (pyNext it) (fun r s₁ => match r with
      | none => R (.ok .next) s₁
      | some v => wpAny (model prog w) A (letOwnedTupleGo target it v) (fun _ s₁' => wpAny (model prog w) A (assign target env v) (fun _ s₂ =>
          wpAny (model prog w) A (forIn ifs true fun c r => if r = true then do let ok ← isTrue c env (eval c env); pure (ForInStep.yield ok) else pure (ForInStep.yield r)) (fun ok s₃ =>
            if ok = true then wpAny (model prog w) A (eval elt env) (fun x s₄ =>
              wpAny (model prog w) A (call (.builtin "list.append") [acc, x]) (fun _ s₅ => ∃ m, m < n ∧ I m s₅) (notedBy (model prog w) A env fun e s' => R (.error e) s') s₄) (notedBy (model prog w) A env fun e s' => R (.error e) s') s₃
            else ∃ m, m < n ∧ I m s₃) (notedBy (model prog w) A env fun e s' => R (.error e) s') s₂) (notedBy (model prog w) A env fun e s' => R (.error e) s') s₁') (notedBy (model prog w) A env fun e s' => R (.error e) s') s₁) (notedBy (model prog w) A env fun e s' => R (.error e) s') s)
    (n : Nat) (h : I n s) :
    codeAny (model prog w) A (.compLoop (.ListComp elt [⟨target, iter, ifs, 0⟩] scope pos) 0 it acc env) R s := by
  refine codeAny_loop rfl I (fun n s hI => ?_) n h
  show wpAny _ A ((compTurn (.ListComp elt [⟨target, iter, ifs, 0⟩] scope pos) 0 it acc env).onRaise (fun x => do noteFrame x env; theTreesLotGoes x)) _ _ s
  refine wpAny_noted ?_
  rw [compTurn_list]
  refine wpAny_bind (wpAny_standAt (wpAny_bind (wpAny_mono (turn n s hI) (fun r s₁ h₁ => ?_) fun _ _ h' => h')))
  cases r with
  | none => exact wpAny_pure h₁
  | some v =>
    refine wpAny_bind (wpAny_mono h₁ (fun _ s₁' h₁' => ?_) fun _ _ h' => h')
    refine wpAny_bind (wpAny_mono h₁' (fun _ s₂ h₂ => wpAny_bind (wpAny_mono h₂ (fun ok s₃ h₃ => ?_) fun _ _ h' => h')) fun _ _ h' => h')
    cases ok with
    | false => exact wpAny_pure ⟨rfl, h₃⟩
    | true =>
      exact wpAny_bind (wpAny_bind (wpAny_mono h₃ (fun x s₄ h₄ => wpAny_bind (wpAny_mono h₄ (fun _ s₅ h₅ => wpAny_pure (wpAny_pure ⟨rfl, h₅⟩)) fun _ _ h' => h')) fun _ _ h' => h'))
section
variable {X : Cx}
/-- [elt for target in iter if ..]: D the new list; W by the turn and a measure, Nx what a turn is to reach -/
def tLc (wi : TI) (g : TG) (tt : TT) (te : TE) (vs : List Nat) : TE := fun σ H Q => wi σ H fun J H1 => ∀ D, H1 D = none → ∃ W : Nat → Nat → Hp → Prop, (∃ m, W 0 m (upd H1 D (.lst []))) ∧ ∀ i m H, W i m H →
  (J.stop i H ∧ Q (.ref D) H) ∨ (J.go i H ∧ ∃ Nx : Hp → Prop, (∀ H', Nx H' → ∃ m', m' < m ∧ W (i + 1) m' H') ∧ ∀ x H', J.yld i H x H' → g x (wipe σ vs) H' fun σ2 H2 => wipe σ2 vs = wipe σ vs ∧ tt σ2 H2 fun b H3 =>
    if b = true then te σ2 H3 fun y H4 => ∃ acc, H4 D = some (.lst acc) ∧ acc.length < sizeLine ∧ Nx (upd H4 D (.lst (acc ++ [y]))) else Nx H3)
theorem lc_core {pins : List (Addr × Obj)} {s : Shared} {σ : St} {H : Hp} {Q : VK} {elt tg iter : Expr} {ifs : List Expr} {scope : Scope} {own : List (Str × Nat)} {pos pos' : Pos} {wi : TI} {g : TG} {tt : TT} {te : TE} {use : Option (Value → Sem Unit)} {Qf : Value → Shared → Prop}
    (hc : X.calm = true) (hN : X.N.Nodup) (I : Inv X pins σ H s) (hi : PI X tg iter wi) (ok : BlkOk X.N X.env.scope scope own)
    (hg : ∀ (s : Shared) (H : Hp) (C : Addr) (cl : List (Str × Addr)) (fp : List Addr), PG (X.blk s H scope (compEnvC scope cl C X.env) fp) tg g) (ht : ∀ (s : Shared) (H : Hp) (C : Addr) (cl : List (Str × Addr)) (fp : List Addr), PTs (X.blk s H scope (compEnvC scope cl C X.env) fp) ifs tt)
    (he : ∀ (s : Shared) (H : Hp) (C : Addr) (cl : List (Str × Addr)) (fp : List Addr), PE (X.blk s H scope (compEnvC scope cl C X.env) fp) elt te) (hs : ∀ x, foldedSetIterable iter X.env x = pure x)
    (h : tLc wi g tt te (own.map (·.2)) σ H Q)
    (hRR : ∀ D C s' m H', Inv X pins σ H' s' → Q (.ref D) H' → s'.heap.Ns C m → FpOk X pins H' C → compPost (model X.prog X.w) X.A X.xe use Qf (.ref D) C (.ok .next) s') :
    wpAny (model X.prog X.w) X.A (comprehension (.ListComp elt [⟨tg, iter, ifs, 0⟩] scope pos) scope X.env pos' (newList []) false (eval iter X.env) use) Qf X.xe s := by
  have hfree : ∀ y ∈ scope.names, y.2 = .free → ∃ c, X.env.cells.lookup y.1 = some c := fun y hy e => by
    rcases ok.free y hy e with k | k
    · exact I.ok.has _ (.inl k)
    · exact I.ok.has _ (.inr k)
  refine wpAny_comprehension_free (use := use) rfl hs (closure_ok hfree) ok.kind (fun y hy e => by rw [ok.uniq y hy, e])
    (thn (hi pins s σ H _ I h) fun xv s1 hx => thn hx fun itv s2 h2 => ?_)
  obtain ⟨it, fp, tn, J, H2, e, I2, T, st2, f2, q⟩ := h2
  subst e
  refine wpAny_newObj_type (newEnv_comp ?_) (by show 0 ≤ sizeLine; decide)
  generalize hD : s2.heap.objs.size = D
  have hDn : H2 D = none := I2.hok.fresh (Nat.le_of_eq hD)
  obtain ⟨W, ⟨m0, w0⟩, turn⟩ := q D hDn
  -- the new list
  generalize hs3 : ({ s2 with heap := s2.heap.push { cls := .type "list", data := .seq ([] : List Value).toArray } } : Shared) = s3
  have I3 : Inv X pins σ (upd H2 D (.lst [])) s3 := by
    rw [← hs3]
    refine I2.laid (t' := s2.toks) (fun b o e => Heap.get?_push_of_some _ e) (Nat.le_of_eq hD) ⟨Nat.zero_le _, [], 0, .nil, ?_⟩
    rw [← hD]
    exact Heap.get?_push_size _ rfl
  have h3 : s3.heap = s2.heap.push { cls := .type "list", data := .seq ([] : List Value).toArray } := by rw [← hs3]
  have sz : ∀ b ∈ fp, b < s2.heap.objs.size := fun b hb => by
    obtain ⟨o, e, _⟩ := T.obj _ _ st2 b hb
    exact Heap.lt_size e
  have f3 : ∀ b ∈ fp, FpOk X pins (upd H2 D (.lst [])) b ∧ b < s3.heap.objs.size := fun b hb => by
    have hlt := sz b hb
    refine ⟨⟨?_, (f2 b hb).2⟩, by rw [h3, Heap.size_push]; exact Nat.lt_succ_of_lt hlt⟩
    rw [upd_ne (by rw [← hD]; exact Nat.ne_of_lt hlt)]
    exact (f2 b hb).1
  have st3 : tn 0 s3.heap := T.keep _ _ _ st2 fun b _ o e => by rw [h3]; exact Heap.get?_push_of_some _ e
  have I4 := block_start I3 ok hN f3
  have pg := hg s3 (upd H2 D (.lst [])) s3.heap.objs.size (cellsFrom (s3.heap.objs.size + 1) scope.names (cloFrom X.env.cells scope.names [])) fp
  have pt := ht s3 (upd H2 D (.lst [])) s3.heap.objs.size (cellsFrom (s3.heap.objs.size + 1) scope.names (cloFrom X.env.cells scope.names [])) fp
  have pe := he s3 (upd H2 D (.lst [])) s3.heap.objs.size (cellsFrom (s3.heap.objs.size + 1) scope.names (cloFrom X.env.cells scope.names [])) fp
  show codeAny _ _ (.compStart (.ListComp elt [⟨tg, iter, ifs, 0⟩] scope pos) 0 (.ref it) (.ref D) (compEnvC scope (cellsFrom (s3.heap.objs.size + 1) scope.names (cloFrom X.env.cells scope.names [])) s3.heap.objs.size X.env)) (compPost (model X.prog X.w) X.A X.xe use Qf (.ref D) s3.heap.objs.size) { s3 with heap := pushCells (s3.heap.push { cls := .type "dict", data := .dict #[] }) scope.names }
  have nfp : ∀ b ∈ fp, (upd H2 D (.lst [])) b = none := fun b hb => (f3 b hb).1.1
  generalize hce : compEnvC scope (cellsFrom (s3.heap.objs.size + 1) scope.names (cloFrom X.env.cells scope.names [])) s3.heap.objs.size X.env = ce at I4 pg pt pe ⊢
  have cL : ce.locals = s3.heap.objs.size := by subst hce; rfl
  generalize hH3 : upd H2 D (.lst []) = H3 at I3 I4 pg pt pe w0 nfp f3
  generalize hs4 : ({ s3 with heap := pushCells (s3.heap.push { cls := .type "dict", data := .dict #[] }) scope.names } : Shared) = s4 at I4 ⊢
  have st4 : tn 0 s4.heap := T.keep _ _ _ st3 fun b _ o e => by rw [← hs4]; exact pushCells_keeps _ _ _ _ (Heap.get?_push_of_some _ e)
  have stat : ∀ {σ' : St} {H' : Hp} {s' : Shared}, Inv (X.blk s3 H3 scope ce fp) [] σ' H' s' → (∀ b ∈ fp, H' b = none) → ∀ b ∈ fp, FpOk (X.blk s3 H3 scope ce fp) [] H' b := fun {σ' H' s'} I' hn b hb =>
    ⟨hn b hb, (I'.ok.exf b hb).1, I'.ok.exfs b hb, .inl hb, fun x c e => (I'.ok.exf b hb).2 x c e, fun p hp => absurd (show p ∈ ([] : List (Addr × Obj)) ++ [] from hp) (by simp)⟩
  have loop : codeAny (model X.prog X.w) X.A (.compLoop (.ListComp elt [⟨tg, iter, ifs, 0⟩] scope pos) 0 (.ref it) (.ref D) ce) (compPost (model X.prog X.w) X.A X.xe use Qf (.ref D) s3.heap.objs.size) s4 := by
    refine compLoop_any (fun n s' => ∃ i H', Inv (X.blk s3 H3 scope ce fp) [] (wipe σ (own.map (·.2))) H' s' ∧ tn i s'.heap ∧ (∀ b ∈ fp, H' b = none) ∧ W i n H') ?_ m0 ⟨0, H3, I4, st4, nfp, w0⟩
    rintro n s5 ⟨i, H5, I5, st5, n5, w5⟩
    rcases turn i n H5 w5 with ⟨stop, qq⟩ | ⟨go, Nx, hNx, step⟩
    · have td := T.done (X.blk s3 H3 scope ce fp) rfl rfl rfl hc i [] s5 _ H5 (fun _ _ => False) I5 (stat I5 n5) st5 stop
      refine thnF td fun r s6 ⟨hr, I6⟩ => ?_
      subst hr
      -- back in the def's context
      have I7 : Inv X pins σ H5 s6 := I3.call' (ch := fp) I6.os I6.base I6.hok I6.bare fun b hb => ⟨(f3 b hb).1.2.2.2.1, (f3 b hb).1.2.1, (f3 b hb).1.2.2.2.2.1, (f3 b hb).1.2.2.2.2.2⟩
      have nC : H5 s3.heap.objs.size = none := by
        have z : H5 ce.locals = none := I6.free
        rw [cL] at z
        exact z
      obtain ⟨m, hn, _⟩ := I6.loc
      have hn : s6.heap.Ns ce.locals m := hn
      rw [cL] at hn
      exact hRR D s3.heap.objs.size s6 m H5 I7 qq hn (I3.fpOk (Nat.le_refl _) nC)
    · have ti := T.item (X.blk s3 H3 scope ce fp) rfl rfl rfl hc i [] s5 _ H5 (fun _ _ => False) I5 (stat I5 n5) st5 go
      refine thnF ti fun r s6 ⟨u, hr, h6⟩ => ?_
      subst hr
      refine thnF h6 fun _ s7 ⟨x, H7, I7, r7, y7, st7, n7⟩ => ?_
      have I7' := I7.pinned (stat I7 n7) (T.obj _ _ st7)
      refine thnF (pg _ s7 _ H7 x u _ I7' r7 (step x H7 y7)) fun _ s8 ⟨σ8, H8, I8, hw8, q8⟩ => ?_
      refine thnF (pt _ s8 σ8 H8 _ I8 q8) fun b s9 ⟨H9, I9, q9⟩ => ?_
      -- the turn's end
      have fin : ∀ {s' : Shared} {H' : Hp}, Inv (X.blk s3 H3 scope ce fp) ([] ++ pinsAt fp s7.heap) σ8 H' s' → Nx H' → ∃ m, m < n ∧ ∃ i H', Inv (X.blk s3 H3 scope ce fp) [] (wipe σ (own.map (·.2))) H' s' ∧ tn i s'.heap ∧ (∀ b ∈ fp, H' b = none) ∧ W i m H' := fun {s' H'} I' nx => by
        obtain ⟨m', hm, w'⟩ := hNx H' nx
        have pin' : ∀ b ∈ fp, ∀ o, s7.heap.get? b = some o → s'.heap.get? b = some o ∧ H' b = none := fun b hb o e =>
          let z := I'.pin (b, o) (List.mem_append_right _ (List.mem_append_right _ (mem_pinsAt hb e)))
          ⟨z.1, z.2.1⟩
        have hl : (wipe σ (own.map (·.2))).length = σ8.length := by rw [← hw8, wipe_length]
        refine ⟨m', hm, i + 1, H', (I'.unpinned (pins := [])).weak hl (fun j v e => ?_), T.keep _ _ _ st7 fun b hb o e => (pin' b hb o e).1, fun b hb => ?_, w'⟩
        · rw [← hw8] at e
          exact (wipe_some e).1
        · obtain ⟨o, e, _⟩ := T.obj _ _ st7 b hb
          exact (pin' b hb o e).2
      cases b with
      | false =>
        simp only [Bool.false_eq_true, if_false] at q9 ⊢
        exact fin I9 q9
      | true =>
        simp only [if_true] at q9 ⊢
        refine thnF (pe _ s9 σ8 H9 _ I9 q9) fun z s10 ⟨yv, H10, I10, r10, acc, hD10, hz10, nx⟩ => ?_
        exact app_ok (X := X.blk s3 H3 scope ce fp) I10 hD10 hz10 r10 fun s11 I11 => fin I11 nx
  exact codeAny_compStart_list loop (T.self X.A 0 _ _ _ st4 loop)
/-- as a value -/
theorem pe_lc {elt tg iter : Expr} {ifs : List Expr} {scope : Scope} {own : List (Str × Nat)} {pos : Pos} {wi : TI} {g : TG} {tt : TT} {te : TE} (hc : X.calm = true) (hN : X.N.Nodup) (hi : PI X tg iter wi) (ok : BlkOk X.N X.env.scope scope own)
    (hg : ∀ (s : Shared) (H : Hp) (C : Addr) (cl : List (Str × Addr)) (fp : List Addr), PG (X.blk s H scope (compEnvC scope cl C X.env) fp) tg g) (ht : ∀ (s : Shared) (H : Hp) (C : Addr) (cl : List (Str × Addr)) (fp : List Addr), PTs (X.blk s H scope (compEnvC scope cl C X.env) fp) ifs tt)
    (he : ∀ (s : Shared) (H : Hp) (C : Addr) (cl : List (Str × Addr)) (fp : List Addr), PE (X.blk s H scope (compEnvC scope cl C X.env) fp) elt te) (hs : ∀ x, foldedSetIterable iter X.env x = pure x := by intro _; rfl) :
    PE X (.ListComp elt [⟨tg, iter, ifs, 0⟩] scope pos) (tLc wi g tt te (own.map (·.2))) := by
  intro pins s σ H Q I h
  rw [eval_ListComp]
  refine lc_core hc hN I hi ok hg ht he hs h fun D C s' m H' I' q hn f => ⟨m, hn, fun h'' sb => ?_⟩
  obtain ⟨f0, f1, f2, f3, f4, f5⟩ := f
  exact ⟨.ref D, H', I'.turned (t' := s'.toks) (fun b o hb e => (sb.2 b hb).trans e) f0 f1 f3 f4 f5, rfl, q⟩
end
/-- over a range: Pv by the turn and the heap (the new list at D within) -/
theorem lc_range {lo : Int} {n : Nat} {g : TG} {tt : TT} {te : TE} {vs : List Nat} {σ : St} {H1 : Hp} {D : Addr} {Qd : Hp → Prop} (Pv : Nat → Hp → Prop) (h0 : Pv 0 (upd H1 D (.lst [])))
    (hs : ∀ i H, i < n → Pv i H → g (.int (lo + i)) (wipe σ vs) H fun σ2 H2 => wipe σ2 vs = wipe σ vs ∧ tt σ2 H2 fun b H3 =>
      if b = true then te σ2 H3 fun y H4 => ∃ acc, H4 D = some (.lst acc) ∧ acc.length < sizeLine ∧ Pv (i + 1) (upd H4 D (.lst (acc ++ [y]))) else Pv (i + 1) H3) (hd : ∀ H, Pv n H → Qd H) :
    ∃ W : Nat → Nat → Hp → Prop, (∃ m, W 0 m (upd H1 D (.lst []))) ∧ ∀ i m H, W i m H →
      ((Itr lo n).stop i H ∧ Qd H) ∨ ((Itr lo n).go i H ∧ ∃ Nx : Hp → Prop, (∀ H', Nx H' → ∃ m', m' < m ∧ W (i + 1) m' H') ∧ ∀ x H', (Itr lo n).yld i H x H' → g x (wipe σ vs) H' fun σ2 H2 => wipe σ2 vs = wipe σ vs ∧ tt σ2 H2 fun b H3 =>
        if b = true then te σ2 H3 fun y H4 => ∃ acc, H4 D = some (.lst acc) ∧ acc.length < sizeLine ∧ Nx (upd H4 D (.lst (acc ++ [y]))) else Nx H3) := by
  refine ⟨fun i m H => m = n - i ∧ i ≤ n ∧ Pv i H, ⟨n, by simp, Nat.zero_le _, h0⟩, ?_⟩
  rintro i m H ⟨rfl, hi, p⟩
  by_cases hlt : i < n
  · refine .inr ⟨hlt, Pv (i + 1), fun H' p' => ⟨n - (i + 1), by omega, rfl, hlt, p'⟩, fun x H' y => ?_⟩
    obtain ⟨e, y⟩ := y
    subst e y
    exact hs i _ hlt p
  · have e : i = n := by omega
    subst e
    exact .inl ⟨Nat.le_refl _, hd H p⟩
def blkC (N : List Str) (sc scope : Scope) (own : List (Str × Nat)) : Bool :=
  (match scope.kind with | .function => true | _ => false) && (scope.names.all fun y => decide (scope.names.lookup y.1 = some y.2)) && (own.all fun p => decide (N[p.2]? = some p.1)) &&
    (scope.names.all fun y => match y.2 with
      | .free => (match sc.names.lookup y.1 with | some .cell => true | some .free => true | _ => false)
      | .local => decide (y.1 ∈ own.map (·.1)) || decide (y.1 ∉ N)
      | .cell => decide (y.1 ∈ own.map (·.1)) || decide (y.1 ∉ N)
      | _ => true)
theorem blkOk_by {N : List Str} {sc scope : Scope} {own : List (Str × Nat)} (h : blkC N sc scope own = true) : BlkOk N sc scope own := by
  unfold blkC at h
  simp only [Bool.and_eq_true, List.all_eq_true, decide_eq_true_eq] at h
  obtain ⟨⟨⟨h1, h2⟩, h3⟩, h4⟩ := h
  refine ⟨?_, h2, h3, fun y hy e => ?_, fun y hy e => ?_⟩
  · split at h1
    · assumption
    · cases h1
  · have q := h4 y hy
    simp only [e] at q
    split at q <;> first | exact .inl (by assumption) | exact .inr (by assumption) | cases q
  · have q := h4 y hy
    rcases e with e | e <;> (simp only [e, Bool.or_eq_true, decide_eq_true_eq] at q; exact q)
end L2
namespace L2
open PySem PySem.Spec PyProof.Rows
end L2
namespace L2
open PySem PySem.Spec PyProof.Rows
section
variable {κ : Type} [DecidableEq κ]
def valV (kvs : List (κ × V)) (k : κ) : Option V := (kvs.find? fun kv => decide (kv.1 = k)).map (·.2)
/-- in its place, or at the end -/
def putK (kvs : List (κ × V)) (k : κ) (v : V) : List (κ × V) :=
  if (kvs.any fun kv => decide (kv.1 = k)) = true then kvs.map (fun kv => if kv.1 = k then (kv.1, v) else kv) else kvs ++ [(k, v)]
def dropK (kvs : List (κ × V)) (k : κ) : List (κ × V) := kvs.filter fun kv => decide (kv.1 ≠ k)
theorem valV_pos {p : κ × V} {r : List (κ × V)} {k : κ} (e : p.1 = k) : valV (p :: r) k = some p.2 := by simp [valV, List.find?_cons, e]
theorem valV_neg {p : κ × V} {r : List (κ × V)} {k : κ} (e : ¬ p.1 = k) : valV (p :: r) k = valV r k := by simp [valV, List.find?_cons, e]
theorem valV_any (k : κ) : ∀ kvs : List (κ × V), (kvs.any fun kv => decide (kv.1 = k)) = (valV kvs k).isSome
  | [] => rfl
  | p :: r => by
    rw [List.any_cons]
    by_cases e : p.1 = k
    · simp only [valV_pos e, decide_eq_true e, Bool.true_or, Option.isSome_some]
    · rw [valV_neg e, decide_eq_false e, Bool.false_or]; exact valV_any k r
theorem valV_map (k j : κ) (y : V) : ∀ kvs : List (κ × V), valV (kvs.map fun kv => if kv.1 = k then (kv.1, y) else kv) j = (valV kvs j).map fun x => if j = k then y else x
  | [] => rfl
  | p :: r => by
    have ih := valV_map k j y r
    rw [List.map_cons]
    by_cases h : p.1 = k
    · rw [if_pos h]
      by_cases e : p.1 = j
      · rw [valV_pos (p := (p.1, y)) e, valV_pos e, Option.map_some, if_pos (e.symm.trans h)]
      · rw [valV_neg (p := (p.1, y)) e, valV_neg e, ih]
    · rw [if_neg h]
      by_cases e : p.1 = j
      · rw [valV_pos (p := p) e, valV_pos e, Option.map_some, if_neg (fun z => h (e.trans z))]
      · rw [valV_neg (p := p) e, valV_neg e, ih]
theorem valV_snoc (k j : κ) (y : V) : ∀ kvs : List (κ × V), valV kvs k = none → valV (kvs ++ [(k, y)]) j = if j = k then some y else valV kvs j
  | [], _ => by
    by_cases e : k = j
    · rw [if_pos e.symm]; exact valV_pos (p := (k, y)) e
    · rw [if_neg (fun z => e z.symm)]; exact valV_neg (p := (k, y)) e
  | p :: r, hn => by
    rw [List.cons_append]
    have hk : ¬ p.1 = k := fun z => by rw [valV_pos z] at hn; cases hn
    rw [valV_neg hk] at hn
    have ih := valV_snoc k j y r hn
    by_cases e : p.1 = j
    · rw [valV_pos e, valV_pos e, if_neg (fun z => hk (e.trans z))]
    · rw [valV_neg e, valV_neg e, ih]
theorem valV_put (kvs : List (κ × V)) (k j : κ) (y : V) : valV (putK kvs k y) j = if j = k then some y else valV kvs j := by
  unfold putK
  by_cases a : (kvs.any fun kv => decide (kv.1 = k)) = true
  · rw [if_pos a, valV_map]
    rw [valV_any] at a
    by_cases e : j = k
    · obtain ⟨x, hx⟩ := Option.isSome_iff_exists.mp a
      rw [if_pos e, e, hx, Option.map_some, if_pos rfl]
    · rw [if_neg e]
      cases valV kvs j with
      | none => rfl
      | some x => rw [Option.map_some, if_neg e]
  · rw [if_neg a]
    refine valV_snoc k j y kvs ?_
    rw [valV_any] at a
    cases q : valV kvs k with
    | none => rfl
    | some x => rw [q] at a; exact (a rfl).elim
theorem RelO.isSome_eq {o : Option V} {u : Option Value} (r : RelO o u) : o.isSome = u.isSome := by
  cases o with
  | none => cases u with
    | none => rfl
    | some _ => exact (show False from r).elim
  | some _ => cases u with
    | none => exact (show False from r).elim
    | some _ => rfl
theorem RelO.getD {o : Option V} {u : Option Value} {d : V} {d' : Value} (r : RelO o u) (rd : RelV d d') : RelV (o.getD d) (u.getD d') := by
  cases o with
  | none => cases u with
    | none => exact rd
    | some _ => exact (show False from r).elim
  | some _ => cases u with
    | none => exact (show False from r).elim
    | some _ => exact r
/-- raw tables of the same keys -/
theorem KV.val {kvs : List (κ × V)} {vs : List (κ × Value)} (r : KV kvs vs) (k : κ) : RelO (valV kvs k) (valueAt vs k) := by
  unfold KV at r
  induction r with
  | nil => exact True.intro
  | @cons p q ps qs h t ih =>
    obtain ⟨h1, h2⟩ := h
    by_cases e : p.1 = k
    · have e' : q.1 = k := h1.symm.trans e
      have b : valueAt (q :: qs) k = some q.2 := by simp [valueAt, List.find?_cons, e']
      rw [valV_pos e, b]; exact h2
    · have e' : ¬ q.1 = k := fun z => e (h1.trans z)
      have b : valueAt (q :: qs) k = valueAt qs k := by simp [valueAt, List.find?_cons, e']
      rw [valV_neg e, b]; exact ih
theorem KV.any {kvs : List (κ × V)} {vs : List (κ × Value)} (r : KV kvs vs) (k : κ) : (kvs.any fun kv => decide (kv.1 = k)) = vs.any fun kv => decide (kv.1 = k) := by
  unfold KV at r
  induction r with
  | nil => rfl
  | cons h t ih => rw [List.any_cons, List.any_cons, ih, h.1]
theorem KV.repl {kvs : List (κ × V)} {vs : List (κ × Value)} (r : KV kvs vs) (k : κ) {y : V} {u : Value} (ry : RelV y u) :
    KV (kvs.map fun kv => if kv.1 = k then (kv.1, y) else kv) (vs.map fun kv => if kv.1 = k then (kv.1, u) else kv) := by
  unfold KV at r ⊢
  induction r with
  | nil => exact .nil
  | @cons p q ps qs h t ih =>
    rw [List.map_cons, List.map_cons]
    refine .cons ?_ ih
    obtain ⟨h1, h2⟩ := h
    by_cases e : p.1 = k
    · rw [if_pos e, if_pos (h1.symm.trans e)]; exact ⟨h1, ry⟩
    · rw [if_neg e, if_neg (fun z => e (h1.trans z))]; exact ⟨h1, h2⟩
theorem KV.put {kvs : List (κ × V)} {vs : List (κ × Value)} (r : KV kvs vs) (k : κ) {y : V} {u : Value} (ry : RelV y u) : KV (putK kvs k y) (stored vs k u) := by
  unfold putK stored
  rw [r.any k]
  by_cases e : (vs.any fun kv => decide (kv.1 = k)) = true
  · rw [if_pos e, if_pos e]; exact r.repl k ry
  · rw [if_neg e, if_neg e]; exact Paired.snoc r ⟨rfl, ry⟩
theorem KV.drop {kvs : List (κ × V)} {vs : List (κ × Value)} (r : KV kvs vs) (k : κ) : KV (dropK kvs k) (without vs k) := by
  unfold KV at r ⊢
  unfold dropK without
  induction r with
  | nil => exact .nil
  | @cons p q ps qs h t ih =>
    obtain ⟨h1, h2⟩ := h
    rw [List.filter_cons, List.filter_cons]
    by_cases e : p.1 = k
    · have a : ¬ decide (p.1 ≠ k) = true := by simp [e]
      have b : ¬ decide (q.1 ≠ k) = true := by simp [h1.symm.trans e]
      rw [if_neg a, if_neg b]; exact ih
    · have e' : ¬ q.1 = k := fun z => e (h1.trans z)
      have a : decide (p.1 ≠ k) = true := by simp [e]
      have b : decide (q.1 ≠ k) = true := by simp [e']
      rw [if_pos a, if_pos b]; exact .cons ⟨h1, h2⟩ ih
theorem KV.keys {kvs : List (κ × V)} {vs : List (κ × Value)} (r : KV kvs vs) : kvs.map (·.1) = vs.map (·.1) := by
  unfold KV at r
  induction r with
  | nil => rfl
  | cons h t ih => rw [List.map_cons, List.map_cons, ih, h.1]
theorem KV.length {kvs : List (κ × V)} {vs : List (κ × Value)} (r : KV kvs vs) : kvs.length = vs.length := Paired.length r
end
/-- raw entries of a dict with tuple keys -/
abbrev KT (H : Hp) : List (List Key × V) → List (List Key × Addr × Value) → Prop := Paired fun p q => p.1 = q.1 ∧ H q.2.1 = some (.tup (p.1.map kV)) ∧ RelV p.2 q.2.2
theorem KT.val {H : Hp} {kvs : List (List Key × V)} {xs : List (List Key × Addr × Value)} (r : KT H kvs xs) (k : List Key) : RelO (valV kvs k) ((atKey xs k).map (·.2)) := by
  induction r with
  | nil => exact True.intro
  | @cons p q ps qs h t ih =>
    obtain ⟨h1, _, h2⟩ := h
    by_cases e : p.1 = k
    · have e' : q.1 = k := h1.symm.trans e
      have b : atKey (q :: qs) k = some q.2 := by simp [atKey, List.find?_cons, e']
      rw [valV_pos e, b]; exact h2
    · have e' : ¬ q.1 = k := fun z => e (h1.trans z)
      have b : atKey (q :: qs) k = atKey qs k := by simp [atKey, List.find?_cons, e']
      rw [valV_neg e, b]; exact ih
theorem KT.repl {H : Hp} {kvs : List (List Key × V)} {xs : List (List Key × Addr × Value)} (r : KT H kvs xs) (k : List Key) {y : V} {u : Value} (ry : RelV y u) :
    KT H (kvs.map fun kv => if kv.1 = k then (kv.1, y) else kv) (xs.map (putAt k u)) := by
  induction r with
  | nil => exact .nil
  | @cons p q ps qs h t ih =>
    rw [List.map_cons, List.map_cons]
    refine .cons ?_ ih
    obtain ⟨h1, h2, h3⟩ := h
    unfold putAt
    by_cases e : p.1 = k
    · rw [if_pos e, if_pos (h1.symm.trans e)]; exact ⟨h1, h2, ry⟩
    · rw [if_neg e, if_neg (fun z => e (h1.trans z))]; exact ⟨h1, h2, h3⟩
theorem KT.put {H : Hp} {kvs : List (List Key × V)} {xs : List (List Key × Addr × Value)} (r : KT H kvs xs) (k : List Key) {b : Addr} {y : V} {u : Value} (hb : H b = some (.tup (k.map kV))) (ry : RelV y u) :
    KT H (putK kvs k y) (storedH xs k b u) := by
  have e : (kvs.any fun kv => decide (kv.1 = k)) = (atKey xs k).isSome := by
    rw [valV_any, (r.val k).isSome_eq, Option.isSome_map]
  unfold putK storedH
  rw [e]
  by_cases q : (atKey xs k).isSome = true
  · rw [if_pos q, if_pos q]; exact r.repl k ry
  · rw [if_neg q, if_neg q]; exact Paired.snoc r ⟨rfl, hb, ry⟩
theorem KT.keeps {H H' : Hp} {kvs : List (List Key × V)} {xs : List (List Key × Addr × Value)} (r : KT H kvs xs) (ht : ∀ b ys, H b = some (.tup ys) → H' b = some (.tup ys)) : KT H' kvs xs :=
  Paired.mapP r fun _ _ z => ⟨z.1, ht _ _ z.2.1, z.2.2⟩
/-- what the dict at a holds at the key y -/
def DGet (H : Hp) (a : Addr) (y : V) (r : Option V) : Prop :=
  (∃ kvs k, Rd H a (.dK kvs) ∧ y = kV k ∧ r = valV kvs k) ∨ ∃ kvs k b, Rd H a (.dT kvs) ∧ y = .ref b ∧ H b = some (.tup (k.map kV)) ∧ r = valV kvs k
/-- the heap behind a[y] = v -/
def DPut (H : Hp) (a : Addr) (y v : V) (H' : Hp) : Prop :=
  (∃ kvs k, H a = some (.dK kvs) ∧ y = kV k ∧ kvs.length < sizeLine ∧ H' = upd H a (.dK (putK kvs k v))) ∨
  ∃ kvs k b, H a = some (.dT kvs) ∧ y = .ref b ∧ H b = some (.tup (k.map kV)) ∧ kvs.length < sizeLine ∧ H' = upd H a (.dT (putK kvs k v))
theorem DGet.k {H : Hp} {a : Addr} {kvs : List (Key × V)} {k : Key} (e : H a = some (.dK kvs)) : DGet H a (kV k) (valV kvs k) := .inl ⟨kvs, k, .inl e, rfl, rfl⟩
theorem DGet.t {H : Hp} {a b : Addr} {kvs : List (List Key × V)} {k : List Key} (e : H a = some (.dT kvs)) (eb : H b = some (.tup (k.map kV))) : DGet H a (.ref b) (valV kvs k) := .inr ⟨kvs, k, b, .inl e, rfl, eb, rfl⟩
theorem DPut.k {H : Hp} {a : Addr} {kvs : List (Key × V)} {k : Key} {v : V} (e : H a = some (.dK kvs)) (hl : kvs.length < sizeLine) : DPut H a (kV k) v (upd H a (.dK (putK kvs k v))) := .inl ⟨kvs, k, e, rfl, hl, rfl⟩
theorem DPut.t {H : Hp} {a b : Addr} {kvs : List (List Key × V)} {k : List Key} {v : V} (e : H a = some (.dT kvs)) (eb : H b = some (.tup (k.map kV))) (hl : kvs.length < sizeLine) :
    DPut H a (.ref b) v (upd H a (.dT (putK kvs k v))) := .inr ⟨kvs, k, b, e, rfl, eb, hl, rfl⟩
section
variable {X : Cx} {pins : List (Addr × Obj)} {σ : St} {H : Hp} {s : Shared} {a : Addr} {y v : V} {u r : Value} {o : Option V} {A : Around} {E : Value → Shared → Prop}
theorem Inv.big (I : Inv X pins σ H s) : sysModules < s.heap.objs.size := by
  have h : mainGlobals < s.heap.objs.size := (I.mod.glob.keeps I.bk).lt
  exact Nat.lt_trans (by decide) h
end
def mergeK (kvs more : List (Key × V)) : List (Key × V) := more.foldl (fun acc kv => putK acc kv.1 kv.2) kvs
end L2
namespace L2
open PySem PySem.Spec PyProof.Rows
end L2
namespace L2
open PySem PySem.Spec PyProof.Rows
theorem boot_reversed5 : bootBuiltins "reversed" = some (.type "reversed") := by decide +kernel
section
variable {X : Cx} {pins : List (Addr × Obj)} {σ : St} {H : Hp} {s : Shared} {h' : Heap}
/-- several records of ours have turned -/
theorem Inv.turnedL {t' : Nat} {ch : List Addr} (I : Inv X pins σ H s) (k : ∀ b o, b ∉ ch → s.heap.get? b = some o → h'.get? b = some o) (hf : ∀ b ∈ ch, FpOk X pins H b) : Inv X pins σ H { s with heap := h', toks := t' } := by
  have nit : ∀ b u, H b = some u → b ∉ ch := fun b u e z => by
    have q := (hf b z).1
    rw [q] at e; cases e
  refine I.step (g' := s.gens) (d' := s.drawn) (ch := ch) (fun b hb => ⟨(hf b hb).2.2.2.1, (hf b hb).2.1, (hf b hb).2.2.2.2.1, (hf b hb).2.2.2.2.2⟩) (fun b o _ _ hc e _ => k b o hc e) (fun b o _ _ hc e _ => ⟨o.slots, k b o hc e⟩)
    (fun _ _ _ _ n => n) (fun b o hc e => ⟨o, k b o hc e⟩) (fun _ _ e => e) (fun _ _ _ e => e) (fun b ps e => ⟨#[], by rw [e]; simp⟩) (fun m hm => ?_) (fun b u e => ?_) I.bare
  · obtain ⟨o, es, ep, ho, r⟩ := hm
    exact ⟨o, es, ep, k _ o (fun z => (hf _ z).2.1 rfl) ho, r⟩
  · refine (I.hok b u e).stay (fun c v hc q => k c v ?_ q) (fun _ q => q) fun _ _ q => q
    rcases hc with z | z
    · rw [z]; exact nit b u e
    · exact nit c _ z
/-- .. and one new object is laid -/
theorem Inv.turnedNew {t' : Nat} {ch : List Addr} {T : Addr} {ob : HO} (I : Inv X pins σ H s) (k : ∀ b o, b ∉ ch → s.heap.get? b = some o → h'.get? b = some o) (hf : ∀ b ∈ ch, FpOk X pins H b) (hT : s.heap.objs.size ≤ T)
    (new : ObjOk X.prog X.w (upd H T ob) h' T ob) : Inv X pins σ (upd H T ob) { s with heap := h', toks := t' } := by
  have hn : H T = none := I.hok.fresh hT
  have nit : ∀ b u, H b = some u → b ∉ ch := fun b u e z => by
    have q := (hf b z).1
    rw [q] at e; cases e
  refine I.step (g' := s.gens) (d' := s.drawn) (ch := ch) (fun b hb => ⟨(hf b hb).2.2.2.1, (hf b hb).2.1, (hf b hb).2.2.2.2.1, (hf b hb).2.2.2.2.2⟩) (fun b o _ _ hc e _ => k b o hc e) (fun b o _ _ hc e _ => ⟨o.slots, k b o hc e⟩)
    (fun b o _ e n => ?_) (fun b o hc e => ⟨o, k b o hc e⟩) (fun b xs e => ?_) (fun b o u e => ?_) (fun b ps e => ⟨#[], ?_⟩) (fun m hm => ?_) (fun b u e => ?_) I.bare
  · rw [upd_ne (Nat.ne_of_lt (Nat.lt_of_lt_of_le (Heap.lt_size e) hT))]; exact n
  · rw [upd_ne (ne_of_none e hn)]; exact e
  · rw [upd_ne (ne_of_none e hn)]; exact e
  · rw [upd_ne (ne_of_none e hn), e]; simp
  · obtain ⟨o, es, ep, ho, r⟩ := hm
    exact ⟨o, es, ep, k _ o (fun z => (hf _ z).2.1 rfl) ho, r⟩
  · by_cases hb : b = T
    · subst hb
      rw [upd_same] at e
      cases e
      exact new
    · rw [upd_ne hb] at e
      refine (I.hok b u e).stay (fun c v hc q => k c v ?_ q) (fun c q => by rw [upd_ne (ne_of_none q hn)]; exact q) fun c xs q => by rw [upd_ne (ne_of_none q hn)]; exact q
      rcases hc with z | z
      · rw [z]; exact nit b u e
      · exact nit c _ z
end
section
variable {X : Cx}
/-! ### one iterator just laid -/
theorem pi_one {tg : Expr} {pins : List (Addr × Obj)} {σ : St} {H : Hp} {s : Shared} {R : It → Hp → Prop} {J : It} {tn : Nat → Heap → Prop} {tk : Nat} (I : Inv X pins σ H s) (o : Obj)
    (T : Turn X.prog X.w X.K tg J [s.heap.objs.size] s.heap.objs.size tn) (st : tn 0 (s.heap.push o)) (q : R J H) : PIE X pins σ tg R (.ref s.heap.objs.size) { s with heap := s.heap.push o, toks := tk } := by
  refine ⟨s.heap.objs.size, [s.heap.objs.size], tn, J, H, rfl, I.kept fun b ob e => Heap.get?_push_of_some _ e, T, st, fun b hb => ?_, q⟩
  have e : b = s.heap.objs.size := by simpa using hb
  subst e
  exact I.fpOk (Nat.le_refl _) (I.hok.fresh (Nat.le_refl _))
end
/-- range(i, j, c): small bounds, n items -/
def RgC (i j c : Int) (n : Nat) : Prop := c ≠ 0 ∧ c.natAbs < 1073741824 ∧ Builtin.Range.small i j c = true ∧ Builtin.Range.rangeSize i j c = n
theorem RgC.neg {i j : Int} (ha : -(2 ^ 62) ≤ i) (ha' : i < 2 ^ 62) (hb : -(2 ^ 62) ≤ j) (hb' : j < 2 ^ 62) : RgC i j (-1) (i - j).toNat :=
  ⟨by decide, by decide, PySem.W.small_down ha ha' hb hb', PySem.W.rangeSize_downNat i j⟩
/-- the list at a (n items at the start, which the loop leaves there), from its end -/
def Itv (K : PySem.W.Frag) (a : Addr) (n : Nat) : It :=
  ⟨fun i H => i < n ∧ ∃ (xs : List V) (x : V), SqL K H a xs ∧ xs[n - 1 - i]? = some x, fun i H x H' => H' = H ∧ ∀ xs, SqL K H a xs → xs[n - 1 - i]? = some x, fun i _ => n ≤ i⟩
theorem turn_rev {P : Program} {w : World} {K : PySem.W.Frag} {tg : Expr} (a it : Addr) (n : Nat) : Turn P w K tg (Itv K a n) [it] it (fun i h => i ≤ n ∧ h.IsRevIter it a ((n : Int) - 1 - (i : Nat))) where
  mem := by simp
  obj := fun i h st b hb => by
    have e : b = it := by simpa using hb
    subst e
    obtain ⟨_, o, e, c, d⟩ := st
    exact ⟨o, e, fun v z => by rw [d] at z; cases z⟩
  keep := fun i h h' st k => ⟨st.1, st.2.at fun o e => k it (by simp) o e⟩
  item := by
    intro X hP hw hK hc i pins s σ H E I hf st hg
    subst hP hw hK
    obtain ⟨hin, xs, x, hq, hx⟩ := hg
    obtain ⟨its, rv, p, hz⟩ := I.list hq
    obtain ⟨u, hu, ru⟩ := rv.get hx
    obtain ⟨f0, f1, f2, f3, f4, f5⟩ := hf it (by simp)
    obtain ⟨_, hit⟩ := st
    have e1 : (n : Int) - 1 - ((i : Nat) : Int) = ((n - 1 - i : Nat) : Int) := by omega
    rw [e1] at hit
    refine wpAny_pyNext_rev_item hit p.isList (x := u) (by simpa using hu) fun h' st' sb => ?_
    have e2 : ((n - 1 - i : Nat) : Int) - 1 = (n : Int) - 1 - ((i + 1 : Nat) : Int) := by omega
    rw [e2] at st'
    have I1 : Inv X pins σ H { s with heap := h' } := I.turned (t' := s.toks) (fun b o hb e => (sb.2 b hb).trans e) f0 f1 f3 f4 f5
    obtain ⟨o, e, c, d⟩ := id st'
    exact ⟨u, rfl, go_of (s := { s with heap := h' }) e c d (by decide) ⟨x, H, I1, ru, ⟨rfl, fun ys hy => by rw [I.list_inj hy hq]; exact hx⟩, ⟨hin, st'⟩, fun b hb => (hf b hb).1⟩⟩
  done := by
    intro X hP hw hK hc i pins s σ H E I hf st hg
    subst hP hw hK
    obtain ⟨f0, f1, f2, f3, f4, f5⟩ := hf it (by simp)
    obtain ⟨hin, hit⟩ := st
    have hge : n ≤ i := hg
    have e1 : (n : Int) - 1 - ((i : Nat) : Int) = -1 := by omega
    rw [e1] at hit
    exact wpAny_pyNext_rev_end (I.ok.hd hc) hit fun h' eb => ⟨rfl, I.turned (t' := s.toks) (fun b o hb e => eb b o hb e) f0 f1 f3 f4 f5⟩
  self := fun A i s Q E st h => wpAny_pyIter_revIter st.2 h
def iRev (K : PySem.W.Frag) (ta : TA) : TI := fun σ H R => ta σ H fun vs H1 => ∃ (a : Addr) (xs : List V), vs = [.ref a] ∧ SqL K H1 a xs ∧ R (Itv K a xs.length) H1
section
variable {X : Cx} {tg : Expr}
theorem pi_reversed {e : Expr} {ta : TA} {p pos : Pos} (hg : Gl X "reversed") (hm : X.mg "reversed" = none) (ha : PA X [e] ta) (hs : starEach [e] X.env = [(false, eval e X.env)] := by rfl) : PI X tg (.Call (.Name "reversed" p) [e] [] pos) (iRev X.K ta) := by
  intro pins s σ H R I h
  refine Call_ (ld_blt I hg hm boot_reversed5 (PyProof.Rows.callWith_type1 (thn (ha pos pins s σ H _ I h) fun us s1 ⟨vs, H1, I1, r1, q1⟩ => ?_) hs rfl))
  obtain ⟨a, xs, e, hq, q⟩ := q1
  subst e
  cases r1 with
  | cons r rr =>
    cases rr
    cases r
    obtain ⟨its, rv, p', hz⟩ := I1.list hq
    have hl := rv.length
    have e1 : ((its.toArray.size : Nat) : Int) - 1 = (xs.length : Int) - 1 - ((0 : Nat) : Int) := by simp only [List.size_toArray]; omega
    refine call_reversed_list p'.isList (wpAny_pyIter_revIter (l := a) (i := ((its.toArray.size : Nat) : Int) - 1) ⟨_, Heap.get?_push_size _ rfl, rfl, rfl⟩ ?_)
    refine pi_one (tk := s1.toks) I1 _ (turn_rev a _ xs.length) ⟨Nat.zero_le _, ?_⟩ q
    rw [← e1]
    exact ⟨_, Heap.get?_push_size _ rfl, rfl, rfl⟩
end
/-- the list at a as it stands at each turn, each item in a new pair -/
def Ite (K : PySem.W.Frag) (a : Addr) : It :=
  ⟨fun i H => ∃ (xs : List V) (x : V), SqL K H a xs ∧ xs[i]? = some x, fun i H v H' => ∃ T x, v = .ref T ∧ H T = none ∧ H' = upd H T (.tup [.int (i : Nat), x]) ∧ ∀ xs, SqL K H a xs → xs[i]? = some x, fun i H => ∃ xs : List V, SqL K H a xs ∧ xs.length ≤ i⟩
/-! ### zip(list, list) -/
theorem boot_zip5 : bootBuiltins "zip" = some (.type "zip") := by decide +kernel
end L2
section 
namespace Bits
open PySem PyProof.Rows
end Bits
end 
section 
namespace TL
open PySem PySem.Builtin PySem.Builtin.Str PySem.StrLaws
abbrev tl (x : Str) : List Nat := x.cps.toList
/-- S stands at the head of l -/
def pre (S l : List Nat) : Bool := l.take S.length == S
/-- what stands before the first S, and behind it -/
def par (S : List Nat) : List Nat → List Nat → Option (List Nat × List Nat)
  | _, [] => none
  | acc, c :: r => if pre S (c :: r) = true then some (acc, (c :: r).drop S.length) else par S (acc ++ [c]) r
end TL
end 
namespace L2
open PySem PySem.Spec PyProof.Rows
end L2
namespace L2
open PySem PySem.Spec PyProof.Rows
/-! ### slices of a text -/
theorem IsPart.raw {v : Value} {o : Option Int} (p : IsPart v o) : ∃ l : Option (Int × Tok), v = partValue l ∧ l.map (·.1) = o := by
  cases p with
  | none => exact ⟨none, rfl, rfl⟩
  | int i t => exact ⟨some (i, t), rfl, rfl⟩
end L2
namespace Att
open PySem PySem.W PySem.Calls PyProof.Rows
/-! ### the script -/
theorem ints_of_wellAll {P : Params} {h : Heap} : ∀ (ns : List Int) (vs : List Value), WellAll P h vs (ns.map WData.int) → IntsAre vs ns := by
  intro ns
  induction ns with
  | nil =>
    intro vs w
    rw [List.map_nil] at w
    cases w
    exact .nil
  | cons n ns ih =>
    intro vs w
    rw [List.map_cons] at w
    cases w with
    | cons a b =>
      cases a
      exact .cons _ _ (ih _ b)
theorem script_of {l : OpenLaw} {n : Nat} (hn : l.most = some n) {P : Params} {h : Heap} {args : List WData} {vals : List Value}
    (hpre : l.row.toRowW.claim.pre args = true) (hwl : WellAll P h vals args) :
    ∃ a vs ns, vals = [Value.ref a] ∧ args = [WData.list (ns.map WData.int)] ∧ h.get? a = some { cls := .type "list", data := .seq vs.toArray } ∧ IntsAre vs ns ∧ ns.length ≤ n := by
  have hsh : WShape.hasAll [] args [.list .int] = true := (pre_splitW hpre).1
  have hc : l.pre.holds [] { args := args } = true := (pre_splitW hpre).2
  obtain ⟨d, r, rfl, h1, h2⟩ := hasAllW_cons hsh
  obtain rfl := hasAllW_nil h2
  obtain ⟨xs, rfl, h3⟩ := hasW_list h1
  obtain ⟨ns, rfl⟩ := items_int h3
  have hlen : ns.length ≤ n := by
    unfold OpenLaw.pre at hc
    have h4 : (WTm.not (.lt (.lit (.int (n : Int))) (.len (.arg 0)))).holds [] { args := [.list (ns.map .int)] } = true := by
      have h4 := (holds_andW hc).1
      rw [hn] at h4
      exact h4
    have h5 := condW_of h4 (w_not (w_lt w_lit (w_len_list (w_arg rfl))))
    rw [List.length_map] at h5
    refine Nat.le_of_not_lt fun q => ?_
    have q' : (n : Int) < ((ns.length : Nat) : Int) := by omega
    first
      | (rw [decide_eq_true q'] at h5; exact absurd h5 (by decide))
      | (simp at h5; omega)
  cases hwl with
  | cons w1 w2 =>
    cases w2
    cases w1 with
    | list ho hall => exact ⟨_, _, ns, rfl, rfl, ho, ints_of_wellAll ns _ hall, hlen⟩
theorem post_true (l : OpenLaw) (args : List WData) : l.row.toRowW.claim.post args (.bool true) args = true :=
  postW_of (r := l.row.toRowW) (X := (true == true))
    (show WShape.has [] (.bool true) .bool = true by first | rfl | decide | simp [WShape.has, WShape.arms, WShape.armsAll])
    (show (WTm.eq .res (.lit (.bool true))).value [] { args := args, res := some (.bool true), after := args } = some (.bool (true == true)) from w_eq_bool (w_res rfl) w_lit) rfl
/-- the same from a codeAny of the CALL (for a layer whose function contracts speak of calls) -/
theorem attach_call {l : OpenLaw} {n : Nat} {q : Program} {loose : List Str} {XP : (Str → Option Value) → Heap → Prop} {YP : World → Heap → Prop} {d : DefRec}
    (hn : l.most = some n) (hdf : d.params.defaults = [])
    (call : ∀ (w : World) (s₀ s₁ : Shared) (mg mb : Str → Option Value) (fa : Addr) (o : Obj) (pm cd doc : Value) (a : Addr) (vs : List Value) (ns : List Int),
      Ground q loose [] XP w s₀ mg mb s₁.heap → YP w s₁.heap →
      s₁.heap.get? fa = some o → o.data = .func (docDef d.name d.params d.body d.scope pm cd doc) → s₁.heap.CodeRec cd d.name → mg d.name = some (.ref fa) →
      s₁.heap.get? a = some { cls := .type "list", data := .seq vs.toArray } → IntsAre vs ns → ns.length ≤ n → s₁.gens = #[] →
      codeAny (model l.prog w) callerA (.call (.ref fa) ⟨[.ref a], []⟩) (fun r s' => r = .ok (.ret (.bool true)) ∧ OldK s₁.heap s'.heap ∧ s'.os = s₁.os ∧ AllBare s'.gens) s₁) :
    WalkO q loose XP YP l.row.toRowW d [] (fun f vs => PySem.call f vs) := by
  intro w s₀ s₁ mg mb G Y fa o pm cd doc dV kV ho hd hcd hD hmg hg args vals as hpre hlay hrd hwl hlo
  obtain rfl : dV = .none := Dflts.none hD hdf
  obtain rfl : kV = .none := Dflts.noKw hD
  obtain ⟨a, vs, ns, rfl, rfl, hobj, hints, hlen⟩ := script_of hn hpre hwl
  refine enter_call (codeAny_mono (call w s₀ s₁ mg mb fa o pm cd doc a vs ns G Y ho (fd_plain hd) hcd hmg hobj hints hlen hg) fun r s' hq => ?_)
  obtain ⟨rfl, h2, h3, h4⟩ := hq
  exact ⟨.inl ⟨.bool true, .bool true, [], rfl, fun _ => rfl, .bool true, post_true l _, fun _ => ⟨List.Pairwise.nil, fun _ hm => (nomatch hm)⟩⟩, h2, h3, h4⟩
section
variable {prog : Program} {w : World} {A : Around} {E : Value → Shared → Prop} {s : Shared} {K : Frag}
def ledger (h : Heap) (L d : Addr) : List (Addr × Obj) := (List.range h.objs.size).filterMap fun a => if a = L ∨ a = d then none else (h.get? a).map fun o => (a, o)
end
end Att
namespace L2
open PySem PySem.Spec PyProof.Rows
theorem vals_ints : ∀ {vs : List Value} {ns : List Int}, IntsAre vs ns → Vals (ns.map V.int) vs
  | _, _, .nil => .nil
  | _, _, .cons n t h => .cons ⟨t, rfl⟩ (vals_ints h)
/-- nothing is tracked but the script, known to the object (or it is an object of the module) -/
def Only (H : Hp) : Prop := ∀ b, H b = none ∨ ∃ o xs, H b = some (.frz o (.lst xs))
/-- THE HEAD: the law's promise, at the heap behind the top. F, the promise of the law's def, may use that base is part of the heap (so K.In base, base.Ns mainGlobals mg stand in Mod) -/
theorem law_call {P : Program} {w : World} {K : PySem.W.Frag} {mg mb : Str → Option Value} {CX : CXT} {k : Nat} {fa a : Addr} {fd : FuncData} {x : Str} {sp : Sp} {s₁ : Shared} {vs : List Value} {ns : List Int}
    (KX : K.In s₁.heap) (hns : s₁.heap.Ns mainGlobals mg) (hb : s₁.heap.Ns builtinsNs mb) (hbb : ∀ x : Str, x ≠ "__name__" → mb x = bootBuiltins x) (hlim : s₁.heap.NoLimit) (hg : s₁.gens = #[])
    (ha : s₁.heap.get? a = some { cls := .type "list", data := .seq vs.toArray }) (hi : IntsAre vs ns) (hl : ns.length ≤ sizeLine) (hr : Room k callerA)
    (F : ∀ base : Heap, K.In base → base.Ns mainGlobals mg → FnOk P w K mg base CX k fa fd [x] sp) (hbind : ∀ (s : Shared) (u : Value), BindsTo s fd ⟨[u], []⟩ [(x, u)])
    (hsp : ∀ H : Hp, Only H → SqL K H a (ns.map V.int) → sp [.ref a] H (fun v _ => v = .bl true) fun _ _ _ => False)
    (hCX : ∀ H e s', CX [] H s₁ (fun _ _ _ => False) e s' → False) :
    codeAny (model P w) callerA (.call (.ref fa) ⟨[.ref a], []⟩) (fun r s' => r = .ok (.ret (.bool true)) ∧ OldK s₁.heap s'.heap ∧ s'.os = s₁.os ∧ AllBare s'.gens) s₁ := by
  have rv := vals_ints hi
  have lenV := hi.length
  -- from an abstract heap in which nothing but the script may be tracked
  have core : ∀ H : Hp, Only H → SqL K H a (ns.map V.int) → HOk P w H s₁.heap → (∀ b, H b ≠ none → b = a) → (H a ≠ none → K.lookup a = none) →
      codeAny (model P w) callerA (.call (.ref fa) ⟨[.ref a], []⟩) (fun r s' => r = .ok (.ret (.bool true)) ∧ OldK s₁.heap s'.heap ∧ s'.os = s₁.os ∧ AllBare s'.gens) s₁ := by
    intro H hO hS hok hA hK
    have base_of : ∀ {b : Addr} {o : Obj}, s₁.heap.get? b = some o → H b = none → (hidT s₁.heap H).get? b = some o := fun e n => hidT_get e n
    have noA : ∀ {b : Addr} {o : Obj} {es : Array DictEntry} {ep : Nat}, s₁.heap.get? b = some o → o.data = .dict es ep → H b = none := fun {b o es ep} e d => by
      cases q : H b with
      | none => rfl
      | some u =>
        have e' : b = a := hA b (by rw [q]; simp)
        subst e'
        rw [ha] at e; cases e
        have d' : Data.seq vs.toArray _ = Data.dict es ep := d
        cases d'
    have nsK : ∀ {b : Addr} {m : Str → Option Value}, s₁.heap.Ns b m → (hidT s₁.heap H).Ns b m := fun {b m} ⟨o, es, ep, e, d, r⟩ => ⟨o, es, ep, base_of e (noA e d), d, r⟩
    have hKb : K.In (hidT s₁.heap H) := fun b o e => base_of (KX b o e) (by
      cases q : H b with
      | none => rfl
      | some u =>
        have e' : b = a := hA b (by rw [q]; simp)
        subst e'
        rw [hK (by rw [q]; simp)] at e; cases e)
    have hM : Mod K mg (hidT s₁.heap H) := ⟨hKb, nsK hns, ⟨mb, nsK hb, hbb⟩, let ⟨mc, h1, h2⟩ := hlim; ⟨mc, nsK h1, h2⟩⟩
    have e0 : Env0 P w K mg (hidT s₁.heap H) callerA [] s₁ H := ⟨rfl, hM, fun b o e => of_hidT e, Nat.le_of_eq (hidT_size _ _), trivial, fun b hb => absurd (show b ∈ ([] : List Addr) from hb) (by simp), hok, .of_eq hg⟩
    refine codeAny_mono ((F _ hKb (nsK hns)).run callerA [] s₁ H ⟨[.ref a], []⟩ [.ref a] [.ref a] _ _ hr e0 (hbind s₁ (.ref a)) (.cons rfl .nil) (hsp H hO hS)) fun r s' h => ?_
    cases r with
    | error e => exact (hCX H e s' h).elim
    | ok fl =>
      cases fl with
      | next => exact False.elim h
      | brk => exact False.elim h
      | cont => exact False.elim h
      | ret u =>
        obtain ⟨v, H', os, bare, un, hok', r', q⟩ := h
        have q' : v = .bl true := q
        subst q'
        obtain rfl : u = Value.bool true := r'
        refine ⟨rfl, OldK.of_keep fun b o e => ?_, os, bare⟩
        cases q : H b with
        | none => exact un.keep b o e q (by intro z; exact absurd (show b ∈ ([] : List Addr) from z) (by simp)) (by simp)
        | some u =>
          rcases hO b with z | ⟨ob, xs, z⟩
          · rw [q] at z; cases z
          · have z2 := un.frzs b ob _ z
            obtain ⟨e1, _⟩ := hok b _ z
            obtain ⟨e2, _⟩ := hok' b _ z2
            rw [e] at e1; cases e1
            exact e2
  cases hk : K.lookup a with
  | some o =>
    -- the script is one of the module's own objects
    have e := KX a o hk
    rw [ha] at e
    cases e
    refine core (fun _ => none) (fun _ => .inl rfl) (.inr ⟨_, vs.toArray, _, hk, rfl, rfl, rfl, by rw [List.size_toArray, lenV]; exact hl, by simpa using rv⟩) (fun b u z => by have z' : (none : Option HO) = some u := z; cases z') (fun b z => absurd rfl z) fun z => absurd rfl z
  | none =>
    refine core (fun b => if b = a then some (.frz { cls := .type "list", data := .seq vs.toArray } (.lst (ns.map V.int))) else none) (fun b => ?_) (.inl (.inr ⟨{ cls := .type "list", data := .seq vs.toArray }, if_pos rfl⟩)) (fun b u z => ?_) (fun b z => ?_) fun _ => hk
    · by_cases hb : b = a
      · exact .inr ⟨_, _, if_pos hb⟩
      · exact .inl (if_neg hb)
    · by_cases hb : b = a
      · have z' := (if_pos hb).symm.trans z
        cases z'
        subst hb
        exact ⟨ha, by rw [List.length_map]; exact hl, vs, _, rv, ha⟩
      · have z' := (if_neg hb).symm.trans z
        cases z'
    · by_cases hb : b = a
      · exact hb
      · exact absurd (if_neg hb) z
end L2
namespace L2
open PySem PySem.Spec PyProof.Rows
/-- the goal that k_head leaves (case hc), from the law's promise. F gives the function object fd (K's own) once, then the promise over every base -/
theorem walk_of {l : PySem.W.OpenLaw} {n k : Nat} {q : Program} {loose : List Str} {XP : (Str → Option Value) → Heap → Prop} {YP : World → Heap → Prop} {d : DefRec} {K : Params → PySem.W.Frag} {CX : World → CXT} {sp : World → Sp} {x : Str}
    (hn : l.most = some n) (hn2 : n ≤ sizeLine) (hdf : d.params.defaults = []) (hr : Room k callerA)
    (hY : ∀ (w : World) (h : Heap), YP w h → (K w.params).In h)
    (F : ∀ (w : World) (mg : Str → Option Value) (fa : Addr) (h : Heap), (K w.params).In h → h.Ns mainGlobals mg → mg d.name = some (.ref fa) →
      ∃ fd : FuncData, (∀ (s : Shared) (u : Value), BindsTo s fd ⟨[u], []⟩ [(x, u)]) ∧
        ∀ base : Heap, (K w.params).In base → base.Ns mainGlobals mg → FnOk l.prog w (K w.params) mg base (CX w) k fa fd [x] (sp w))
    (hsp : ∀ (w : World) (H : Hp) (a : Addr) (ns : List Int), ns.length ≤ n → Only H → SqL (K w.params) H a (ns.map V.int) → sp w [.ref a] H (fun v _ => v = .bl true) fun _ _ _ => False)
    (hCX : ∀ (w : World) (H : Hp) (s : Shared) (e : Value) (s' : Shared), CX w [] H s (fun _ _ _ => False) e s' → False) :
    PySem.W.WalkO q loose XP YP l.row.toRowW d [] (fun f vs => PySem.call f vs) := by
  refine Att.attach_call hn hdf fun w s₀ s₁ mg mb fa o pm cd doc a vs ns G Y ho hd hcd hmg hobj hints hlen hg => ?_
  have KX := hY w _ Y
  obtain ⟨fd, hb, hF⟩ := F w mg fa _ KX G.T.g hmg
  exact law_call KX G.T.g G.T.b G.T.builtins G.T.nolimit hg hobj hints (Nat.le_trans hlen hn2) hr hF hb (fun H hO hS => hsp w H a ns hlen hO hS) fun H e s' => hCX w H s₁ e s'
end L2
namespace L2
open PySem PySem.Spec PyProof.Rows
def defArgs (s : Stmt) : Arguments := match s with
  | .FunctionDef _ a _ _ _ _ _ _ _ _ => a
  | _ => { posonlyargs := [], args := [], vararg := none, kwonlyargs := [], kw_defaults := [], kwarg := none, defaults := [] }
def defBody (s : Stmt) : List Stmt := match s with
  | .FunctionDef _ _ b _ _ _ _ _ _ _ => b
  | _ => []
def defScope (s : Stmt) : Scope := match s with
  | .FunctionDef _ _ _ _ _ _ sc _ _ _ => sc
  | _ => { kind := .function, names := [], isGenerator := false, isCoroutine := false }
/-! ### no exception leaves a def -/
abbrev CX0 : CXT := fun _ _ _ _ _ _ => False
abbrev E0 : XK := fun _ _ _ => False
theorem pass0 {X : Cx} : Passes CX0 X E0 := fun _ _ _ _ _ _ _ h => h.elim
/-! ### a def (or method) of the text as it stands behind the top -/
structure Fun (K : PySem.W.Frag) (x qual : Str) (st : Stmt) (f : Addr) (fd : FuncData) : Prop where
  ex : ∃ (oc : Value) (od : Option Addr) (kV doc pm : Value) (an : Option Addr) (cdv ct : Value) (osl : Array (Option Value)),
    fd = PySem.W.fnOf x qual (defArgs st) (defBody st) (defScope st) .none kV doc pm an cdv ct ∧ K.lookup f = some ⟨oc, od, .func fd, osl⟩ ∧ PySem.W.codeIn K cdv qual = true
  kp : PySem.W.keepIn K (.ref f) = true
section
variable {P : Program} {w : World} {K : PySem.W.Frag} {mg : Str → Option Value} {base : Heap}
/-- THE RULE for a def: its body as a term of rules, and the reading of that term -/
theorem Fun.ok {x qual : Str} {st : Stmt} {f : Addr} {fd : FuncData} {N ps : List Str} {k : Nat} {sp : Sp} (F : Fun K x qual st f fd) (S : FnScope N ps (defScope st)) (len : ∀ vs H Q E, sp vs H Q E → vs.length = ps.length)
    (hbody : ∀ (cdv : Value) (A : Around) (outer : List Env) (s : Shared) (H : Hp) (vs : List V) (Q : VK) (E : XK), Room k (A.deeper (envOfC qual (defScope st) s.heap.objs.size f cdv)) → sp vs H Q E →
      ∃ t, PSs (cxOf CX0 P w K mg base N qual (defScope st) f cdv A outer s H E).nox (defBody st) t ∧ t { nx := fun _ H' => Q .non H', rt := Q } (start N vs) H) : FnOk P w K mg base CX0 (k + 1) f fd ps sp := by
  obtain ⟨oc, od, kV, doc, pm, an, cdv, ct, osl, rfl, lk, hcd⟩ := F.ex
  refine fn_of lk hcd S len fun A outer s H vs Q E hr hsp => ?_
  obtain ⟨t, h, q⟩ := hbody cdv A outer s H vs Q E hr hsp
  exact ⟨t, h.nox, q⟩
/-- how its arguments bind (no defaults): h is «fun _ _ _ _ _ _ us hl => match us, hl with | [_, _], _ => rfl», one _ a parameter -/
theorem Fun.binds {x qual : Str} {st : Stmt} {f : Addr} {fd : FuncData} {ps : List Str} (F : Fun K x qual st f fd)
    (h : ∀ (kV doc pm : Value) (an : Option Addr) (cdv ct : Value) (us : List Value), us.length = ps.length → bindArgs (PySem.W.fnOf x qual (defArgs st) (defBody st) (defScope st) .none kV doc pm an cdv ct) ⟨us, []⟩ = pure (ps.zip us)) : Binds K fd ps [] := by
  obtain ⟨oc, od, kV, doc, pm, an, cdv, ct, osl, rfl, lk, hcd⟩ := F.ex
  exact .all (h kV doc pm an cdv ct)
theorem fun_mk {x qual : Str} {st : Stmt} {f : Addr} {oc : Value} {od an : Option Addr} {osl : Array (Option Value)} {kV doc pm cdv ct : Value} (l : K.lookup f = some ⟨oc, od, .func (PySem.W.fnOf x qual (defArgs st) (defBody st) (defScope st) .none kV doc pm an cdv ct), osl⟩)
    (c : PySem.W.codeIn K cdv qual = true) (k : PySem.W.keepIn K (.ref f) = true) : Fun K x qual st f (PySem.W.fnOf x qual (defArgs st) (defBody st) (defScope st) .none kV doc pm an cdv ct) := ⟨⟨oc, od, kV, doc, pm, an, cdv, ct, osl, rfl, l, c⟩, k⟩
end
theorem small1000 {n : Nat} (h : n ≤ 1000) : n < sizeLine := Nat.lt_of_le_of_lt h (by decide)
section
variable {X : Cx}
theorem pv (i : Nat) {x : Str} {pos : Pos} (hN : X.N[i]? = some x := by rfl) (hv : Vis X.env.scope x := by first | exact Or.inl rfl | exact Or.inr (Or.inl rfl) | exact Or.inr (Or.inr rfl)) (hd : (x == ("__debug__" : Str)) = false := by decide)
    (hcd : (x == ("__classdict__" : Str)) = false := by decide) : PE X (.Name x pos) (tVar i) := pe_var hN hv hd hcd
end
/-! ### tests -/
theorem iteF {A B : Prop} (h : B) : if false = true then A else B := by
  rw [if_neg Bool.false_ne_true]
  exact h
theorem iteT {A B : Prop} (h : A) : if true = true then A else B := by
  rw [if_pos rfl]
  exact h
theorem ite2 {c A B : Prop} [Decidable c] (h1 : c → A) (h2 : ¬ c → B) : if c then A else B := by
  by_cases h : c
  · rw [if_pos h]
    exact h1 h
  · rw [if_neg h]
    exact h2 h
/-- all that was tracked is as it was -/
def Same (H H' : Hp) : Prop := ∀ b o, H b = some o → H' b = some o
theorem Same.refl (H : Hp) : Same H H := fun _ _ h => h
theorem Same.trans {H H1 H2 : Hp} (a : Same H H1) (b : Same H1 H2) : Same H H2 := fun c o h => b c o (a c o h)
theorem Same.free {H H' : Hp} (e : Same H H') {l : Addr} (h : H' l = Option.none) : H l = Option.none := by
  cases q : H l with
  | none => rfl
  | some o =>
    rw [e l o q] at h
    cases h
theorem Same.seq {K : PySem.W.Frag} {H H' : Hp} {a : Addr} {xs : List V} (e : Same H H') (h : SqL K H a xs) : SqL K H' a xs := by
  rcases h with (h | ⟨o, h⟩) | h
  · exact .inl (.inl (e _ _ h))
  · exact .inl (.inr ⟨o, e _ _ h⟩)
  · exact .inr h
/-! ### lists -/
theorem at_of {xs : List V} {z : Int} {j : Nat} {v : V} (e : z = (j : Int)) (h : xs[j]? = some v) : atI xs z = some v := by
  rw [e]
  exact atI_nat h
theorem nd_ix {α : Type} {l : List α} (hN : l.Nodup) {i j : Nat} {x : α} (a : l[i]? = some x) (b : l[j]? = some x) : i = j := by
  obtain ⟨h1, e1⟩ := List.getElem?_eq_some_iff.mp a
  obtain ⟨h2, e2⟩ := List.getElem?_eq_some_iff.mp b
  exact (List.getElem_inj hN).mp (e1.trans e2.symm)
/-- a new instance and its __init__ leave all that was tracked as it was -/
theorem Same.made {H H1 : Hp} {x dx C : Addr} (nx : H x = Option.none) (nd : H dx = Option.none) (k : ∀ b o, (upd (upd H dx (.own x)) x (.ins C dx [])) b = some o → b ≠ x → H1 b = some o) : Same H H1 := fun b o e =>
  k b o (by rw [upd_ne (ne_of_none e nx), upd_ne (ne_of_none e nd)]; exact e) (ne_of_none e nx)
end L2

section
set_option Elab.async false
set_option linter.all false
set_option maxRecDepth 100000
namespace L2
open PySem PySem.Spec PyProof.Rows

/-! ### sizes -/
def Sz (k : Nat) (x : Int) : Prop := x.natAbs < 2 ^ k
theorem Sz.mono {k l : Nat} {x : Int} (h : Sz k x) (hl : k ≤ l := by decide) : Sz l x := Nat.lt_of_lt_of_le h (Nat.pow_le_pow_right (by decide) hl)
theorem Sz.mul {k l : Nat} {x y : Int} (h : Sz k x) (h' : Sz l y) : Sz (k + l) (x * y) := by
  unfold Sz at *
  rw [Int.natAbs_mul, Nat.pow_add]
  exact Nat.mul_lt_mul'' h h'
theorem Sz.neg {k : Nat} {x : Int} (h : Sz k x) : Sz k (-x) := by
  unfold Sz at *
  rw [Int.natAbs_neg]; exact h
theorem Sz.add {k l : Nat} {x y : Int} (h : Sz k x) (h' : Sz l y) : Sz (max k l + 1) (x + y) := by
  have h1 : Sz (max k l) x := h.mono (Nat.le_max_left _ _)
  have h2 : Sz (max k l) y := h'.mono (Nat.le_max_right _ _)
  unfold Sz at *
  have h3 := Int.natAbs_add_le x y
  rw [Nat.pow_succ]
  omega
theorem Sz.sub {k l : Nat} {x y : Int} (h : Sz k x) (h' : Sz l y) : Sz (max k l + 1) (x - y) := by
  rw [Int.sub_eq_add_neg]; exact h.add h'.neg
theorem Sz.of_le {k : Nat} {x y : Int} (h : Sz k y) (hx : x.natAbs ≤ y.natAbs) : Sz k x := Nat.lt_of_le_of_lt hx h
theorem Sz.sm {k : Nat} {x : Int} (n : Nat) (h : x.natAbs ≤ n) (hn : n < 2 ^ k := by decide) : Sz k x := Nat.lt_of_le_of_lt h hn
theorem Sz.of_nat {k : Nat} {x : Int} (n : Nat) (h : x.natAbs ≤ n) (hn : n < 2 ^ 100 := by decide) (hk : 100 ≤ k := by decide) : Sz k x := (Sz.sm (k := 100) n h hn).mono hk
theorem Sz.zero {k : Nat} : Sz k 0 := Nat.two_pow_pos k
theorem Sz.fdiv {k : Nat} {x y : Int} (h : Sz k x) : Sz (k + 1) (x.fdiv y) := by
  have h1 : (x.fdiv y).natAbs ≤ x.natAbs + 1 := by
    rcases Int.lt_trichotomy y 0 with hy | hy | hy
    · have hsg := Int.sign_eq_neg_one_of_neg hy
      rw [Int.fdiv_eq_tdiv]
      split
      · have := Int.natAbs_tdiv_le_natAbs x y; omega
      · split
        · have := Int.natAbs_tdiv_le_natAbs x y; omega
        · split
          · have := Int.natAbs_tdiv_le_natAbs x y; omega
          · have := Int.natAbs_tdiv_le_natAbs x y; omega
    · subst hy; simp
    · have hsg := Int.sign_eq_one_of_pos hy
      rw [Int.fdiv_eq_tdiv]
      split
      · have := Int.natAbs_tdiv_le_natAbs x y; omega
      · split
        · have := Int.natAbs_tdiv_le_natAbs x y; omega
        · split
          · have := Int.natAbs_tdiv_le_natAbs x y; omega
          · have := Int.natAbs_tdiv_le_natAbs x y; omega
  unfold Sz at *
  rw [Nat.pow_succ]
  have := Nat.two_pow_pos k
  omega
theorem Sz.bits {k : Nat} {x : Int} (h : Sz k x) : Builtin.Int.intBits x ≤ k := by
  unfold Builtin.Int.intBits
  split
  · exact Nat.zero_le _
  · rename_i h0
    have h1 : x.natAbs ≠ 0 := by
      intro e; apply h0; simp; omega
    have := (Nat.log2_lt h1).mpr h
    omega
theorem Sz.log {k : Nat} {x : Int} (hk : 0 < k) (h : Sz k x) : x.natAbs.log2 < k := by
  by_cases h1 : x.natAbs = 0
  · rw [h1]; simpa using hk
  · exact (Nat.log2_lt h1).mpr h
theorem Sz.mulOk {k l : Nat} {x y : Int} (h : Sz k x) (h' : Sz l y) (hk : k + l ≤ 134217728) : IntMulOk x y := PyProof.Rows.mulOk_of_bits h.bits h'.bits hk

/-! ### more operators -/
section
variable {X : Cx}
def CMulB (i j : Int) : Prop := Sz 60000 i ∧ Sz 60000 j
def CDivB (_i j : Int) : Prop := j ≠ 0 ∧ Sz 8900 j
def CDivP (_i j : Int) : Prop := 0 < j ∧ Sz 8900 j
theorem op_mulB : OpR X (binaryOp .Mult) (rI CMulB fun i j => .int (i * j)) := opI fun _ _ _ _ _ _ _ hc q => mul_int q (hc.1.mulOk hc.2 (by decide))
/-- one factor small: any other -/
def CMulS (i j : Int) : Prop := Sz 64 i ∨ Sz 64 j
theorem op_mulS : OpR X (binaryOp .Mult) (rI CMulS fun i j => .int (i * j)) := opI fun _ _ _ _ _ _ _ hc q => mul_int q (by
  rcases hc with h | h
  · exact .of_left h.bits
  · exact .of_right h.bits)
theorem op_fdivB : OpR X (binaryOp .FloorDiv) (rI CDivB fun i j => .int (i.fdiv j)) := opI fun _ _ _ _ _ _ _ hc q =>
  floordiv_int hc.1 q (.inl (PyProof.noPylong_of_log2 (Nat.lt_of_lt_of_le (hc.2.log (by decide)) (by decide))))
theorem op_fdivP : OpR X (binaryOp .FloorDiv) (rI CDivP fun i j => .int (i / j)) := opI fun i j _ _ _ _ _ hc q => by
  have h1 : (0 : Int) < j := hc.1
  exact floordiv_int (by omega) (by rw [Int.fdiv_eq_ediv_of_nonneg i (by omega)]; exact q) (.inl (PyProof.noPylong_of_log2 (Nat.lt_of_lt_of_le (hc.2.log (by decide)) (by decide))))
theorem mt_bitlen : MtR X "int.bit_length" (fun x xs H Q => ∃ i, x = .int i ∧ xs = [] ∧ Q (.int (Builtin.Int.intBits i : Nat)) H) := by
  intro pins s σ H x xs v us Q I rx rs h
  obtain ⟨i, rfl, rfl, h⟩ := h
  obtain ⟨t, rfl⟩ := rx
  cases rs
  exact call_int_bit_length ⟨.int (Builtin.Int.intBits i : Nat), H, I.tok _, ⟨_, rfl⟩, h⟩
/-- isinstance(x, T) for a built-in class -/
theorem call_isinst : CallR X (.builtin "isinstance") (fun xs H Q => ∃ (x : V) (n : String) (t : Value) (b : Bool), xs = [x, .ty n] ∧ TyOf X.K H x t ∧ PySem.W.kitOne X.K t (.type n) = some b ∧ Q (.bl b) H) := by
  intro pins s σ H xs us Q I r h
  obtain ⟨x, n, t, b, rfl, ty, e, q⟩ := h
  obtain ⟨u, w', rfl, r1, r2⟩ := vals2 r
  cases (show w' = Value.type n from r2)
  exact isinst_ok I r1 ty e fun tk => ⟨.bl b, H, I.tok _, rfl, q⟩
theorem kit_same {K : PySem.W.Frag} {n : String} : PySem.W.kitOne K (.type n) (.type n) = some true := by
  unfold PySem.W.kitOne
  rw [if_pos (by simp)]
example {K : PySem.W.Frag} : PySem.W.kitOne K (.type "int") (.type "bool") = some false := by rfl
example {K : PySem.W.Frag} : PySem.W.kitOne K (.type "bool") (.type "int") = some true := by rfl
end

/-! ### heaps, calls -/
/-- all that was tracked is as it was, but what stands at p -/
def SameX (p : Addr) (H H' : Hp) : Prop := ∀ b o, H b = some o → b ≠ p → H' b = some o
theorem Same.tup {K : PySem.W.Frag} {H H' : Hp} {a : Addr} {xs : List V} (e : Same H H') (h : SqT K H a xs) : SqT K H' a xs := by
  rcases h with (h | ⟨o, h⟩) | h
  · exact .inl (.inl (e _ _ h))
  · exact .inl (.inr ⟨o, e _ _ h⟩)
  · exact .inr h
theorem Same.new {H : Hp} {p : Addr} (h : H p = none) (o : HO) : Same H (upd H p o) := fun b u q => by rw [upd_ne (ne_of_none q h)]; exact q
/-- a def of the text that may be called -/
structure Cal (P : Program) (w : World) (K : PySem.W.Frag) (mg : Str → Option Value) (base : Heap) (n : Nat) (x : Str) (ps : List Str) (sp : Sp) : Prop where
  ex : ∃ (f : Addr) (fd : FuncData), FnOk P w K mg base CX0 n f fd ps sp ∧ Binds K fd ps [] ∧ PySem.W.keepIn K (.ref f) = true ∧ mg x = some (.ref f)
theorem Cal.mono {P : Program} {w : World} {K : PySem.W.Frag} {mg : Str → Option Value} {base : Heap} {n m : Nat} {x : Str} {ps : List Str} {sp : Sp} (C : Cal P w K mg base n x ps sp) (h : n ≤ m := by decide) : Cal P w K mg base m x ps sp := by
  obtain ⟨f, fd, G, b, k, e⟩ := C.ex
  exact ⟨f, fd, G.mono h, b, k, e⟩
theorem Same.x {H H' : Hp} (e : Same H H') (p : Addr) : SameX p H H' := fun b o h _ => e b o h
theorem SameX.refl (p : Addr) (H : Hp) : SameX p H H := fun _ _ h _ => h
theorem SameX.trans {p : Addr} {H H1 H2 : Hp} (a : SameX p H H1) (b : SameX p H1 H2) : SameX p H H2 := fun c o h n => b c o (a c o h n) n
theorem SameX.upd {p : Addr} {H : Hp} (o : HO) : SameX p H (upd H p o) := fun b u h n => by rw [upd_ne n]; exact h
theorem SameX.tup {K : PySem.W.Frag} {p q : Addr} {H H' : Hp} {xs ys : List V} (e : SameX p H H') (hp : H p = some (.lst ys)) (h : SqT K H q xs) : SqT K H' q xs := by
  rcases h with (h | ⟨o, h⟩) | h
  · exact .inl (.inl (e _ _ h (ne_of h hp (by intro z; cases z))))
  · exact .inl (.inr ⟨o, e _ _ h (ne_of h hp (by intro z; cases z))⟩)
  · exact .inr h
theorem SameX.same {p : Addr} {H H0 H' : Hp} (hn : H p = none) (a : Same H H0) (e : SameX p H0 H') : Same H H' := fun b o h => e b o (a b o h) (ne_of_none h hn)
theorem at0 {x : V} {r : List V} : atI (x :: r) 0 = some x := atI_nat (j := 0) rfl
theorem at1 {x y : V} {r : List V} : atI (x :: y :: r) 1 = some y := atI_nat (j := 1) rfl
theorem at2 {x y z : V} {r : List V} : atI (x :: y :: z :: r) 2 = some z := atI_nat (j := 2) rfl
theorem nat_if (a : Int) : (if a < 0 then -a else a).natAbs = a.natAbs := by split <;> omega
theorem if_nn (a : Int) : 0 ≤ (if a < 0 then -a else a) := by split <;> omega
theorem Sz.abs {k : Nat} {a : Int} (h : Sz k a) : Sz k (if a < 0 then -a else a) := by unfold Sz; rw [nat_if]; exact h
theorem smallB {n : Nat} (h : Nat.ble n 1000 = true) : n ≤ sizeLine := Nat.le_of_lt (small1000 (Nat.le_of_ble_eq_true h))
theorem smallN {n : Nat} (h : n ≤ 1000) : n ≤ sizeLine := Nat.le_of_lt (small1000 h)
end L2

end
section
set_option Elab.async false
set_option linter.all false
set_option maxRecDepth 100000
namespace L2
open PySem PySem.SeqAt
open PySem.AutoSeq1 (wpAny_loadPart')
theorem tuple_index_loop {items : Array Value} {x : Value} {e : Value → Bool} {j : Nat} (hj : j < items.size) (hit : e items[j] = true) {M : Program} {w : World} {A : Around} {E : Value → Shared → Prop} {s : Shared}
    (he : ∀ y, y ∈ items → EqAt A s y x (e y)) {Q : Option PySem.Fin × PUnit → Shared → Prop} {f : Nat → Option PySem.Fin × PUnit → Sem (ForInStep (Option PySem.Fin × PUnit))}
    (hf : ∀ i r, f i r = (match items[i]? with
            | some y => do
              let b ← eqBool y x
              if b = true then do
                  let z ← retInt ((i : Nat) : Int)
                  pure (ForInStep.done (some z, ()))
                else pure (ForInStep.yield (none, ()))
            | _ => pure (ForInStep.yield (none, ()))))
    (hQ : Q (some (PySem.Fin.done (.ret (.int j s.toks))), ()) { s with toks := s.toks + 1 }) :
    ∀ (m k : Nat), k + m = items.size → k ≤ j → (∀ i (hi : i < items.size), k ≤ i → i < j → e items[i] = false) →
      wpAny (model M w) A (forIn (List.range' k m) ((none : Option PySem.Fin), PUnit.unit) f) Q E s
  | 0, k, hk, hkj, _ => absurd hkj (by omega)
  | m + 1, k, hk, hkj, hno => by
    rw [List.range'_succ, List.forIn_cons, hf]
    have hlt : k < items.size := by omega
    rw [Array.getElem?_eq_getElem hlt]
    refine wpAny_bind ?_
    refine wpAny_bind (he _ (Array.getElem_mem hlt) M w _ _ ?_)
    by_cases hkj' : k = j
    · subst hkj'
      rw [hit, if_pos rfl]
      refine wpAny_bind ?_
      unfold retInt
      refine wpAny_bind (wpAny_mkInt ?_)
      exact wpAny_pure (wpAny_pure (wpAny_pure hQ))
    · rw [hno k hlt (Nat.le_refl _) (by omega), if_neg (by decide)]
      refine wpAny_pure ?_
      exact tuple_index_loop hj hit he hf hQ m (k + 1) (by omega) (by omega) (fun i hi h1 h2 => hno i hi (by omega) h2)
theorem tuple_indexAt (t : Addr) (items : Array Value) (n : Nat) (dd : Option Addr) (sl : Array (Option Value)) (x : Value) (e : Value → Bool) (j : Nat) (hj : j < items.size) 
    (hit : e items[j] = true) (hno : ∀ m (hm : m < items.size), m < j → e items[m] = false) :
    Meets (Builtin.«tuple.index» ⟨[.ref t, x], []⟩)
      (fun A R s => s.heap.get? t = some { cls := .type "tuple", dict := dd, data := .seq items n, slots := sl } ∧ (∀ y, y ∈ items → EqAt A.in1 s y x (e y)) ∧ R (.ok (.ret (.int j s.toks))) { s with toks := s.toks + 1 }) := by
  intro prog w A R s h
  obtain ⟨hl, he, h⟩ := h
  unfold Builtin.«tuple.index»
  simp only [Std.Legacy.Range.forIn_eq_forIn_range']
  wp_walk using wpAny_loadPart' hl
  have hsz : (Std.Legacy.Range.mk 0 (min items.size items.size) 1 (by decide)).size = items.size := by simp [Std.Legacy.Range.size]
  rw [hsz]
  exact tuple_index_loop (f := fun i _ => match items[i]? with
            | some y => do
              let b ← eqBool y x
              if b = true then do
                  let z ← retInt ((i : Nat) : Int)
                  pure (ForInStep.done (some z, ()))
                else pure (ForInStep.yield (none, ()))
            | _ => pure (ForInStep.yield (none, ()))) hj hit (A := A.in1) he (fun _ _ => rfl) (wpAny_pure (A := A.in1) (M := model prog w) (E := fun e s' => R (.error e) s') (show R (Except.ok (Flow.ret (Value.int j s.toks))) _ from h)) items.size 0 (by omega) (Nat.zero_le _) (fun i hi _ h2 => hno i hi h2)
/-- t.index(x), a tuple of flat things -/
def rIndexT (K : PySem.W.Frag) : V → List V → Hp → VK → Prop := fun x xs H Q => ∃ (a : Addr) (ys : List V) (y : V) (j : Nat) (z : V), x = V.ref a ∧ xs = [y] ∧ SqT K H a ys ∧ flatV y = true ∧ ys.all flatV = true ∧ ys[j]? = some z ∧ eqV z y = true ∧
  (∀ (m : Nat) (z' : V), m < j → ys[m]? = some z' → eqV z' y = false) ∧ Q (.int (j : Nat)) H
theorem mt_indexT {X : Cx} : MtR X "tuple.index" (rIndexT X.K) := by
  intro pins s σ H x xs v us Q I rx rxs h
  obtain ⟨a, ys, y, j, z, rfl, rfl, hs, fy, fys, hz, hzj, hno, q⟩ := h
  cases rx
  cases rxs with
  | cons ry rt =>
    rename_i uy ut
    cases rt
    obtain ⟨its, rv, ⟨⟨cls, dd, data, sl⟩, ho, hc, n, hd⟩, hlen⟩ := I.tuple hs
    simp only at hc hd
    subst hc hd
    obtain ⟨u, hu, ru⟩ := rv.get hz
    obtain ⟨hjl, hje⟩ := List.getElem?_eq_some_iff.mp hu
    have hvl := rv.length
    have hj : j < its.toArray.size := by simpa using hjl
    refine call_meets PySem.F.slot_tuple_index ⟨_, ho, rfl⟩ PySem.F.entry_tuple_index (PySem.F.args_tuple_index_2 _ _)
      (tuple_indexAt a its.toArray n dd sl uy (eqU y) j hj ?_ ?_) ⟨ho, fun u' hu' => mem_eqAt ry fy rv fys u' (by simpa using hu'), ?_⟩
    · have e1 : its.toArray[j] = u := by simpa using hje
      rw [e1, eqU_of ru (flat_at fys hz)]
      exact hzj
    · intro m hm hmj
      have hml : m < its.length := by simpa using hm
      have hmy : m < ys.length := by omega
      have hy' : ys[m]? = some ys[m] := List.getElem?_eq_getElem hmy
      obtain ⟨u2, hu2, ru2⟩ := rv.get hy'
      obtain ⟨_, hme⟩ := List.getElem?_eq_some_iff.mp hu2
      have e1 : its.toArray[m] = u2 := by simpa using hme
      rw [e1, eqU_of ru2 (flat_at fys hy')]
      exact hno m _ hmj hy'
    · exact ⟨.int (j : Nat), H, I.tok _, ⟨_, rfl⟩, q⟩
end L2
namespace L2
open PySem PySem.Spec PyProof.Rows
/-! ### methods of a tracked tuple -/
theorem tupD_is {X : Cx} {pins : List (Addr × Obj)} {σ : St} {H : Hp} {s : Shared} {a : Addr} {ys : List V} (I : Inv X pins σ H s) (h : H a = some (.tup ys)) :
    s.TypeIs (.ref a) "tuple" ∧ ∀ b, (Value.ref a) = .ref b → ∃ ob, s.heap.get? b = some ob ∧ ob.dict = none := by
  obtain ⟨_, its, r, o, ho, hc, hd, _⟩ := (show ObjOk X.prog X.w H s.heap a (.tup ys) from I.hok a _ h)
  exact ⟨⟨o, ho, hc⟩, fun b e => by cases e; exact ⟨o, ho, hd⟩⟩
def tBMT (r : V → List V → Hp → VK → Prop) (to : TE) (t : TA) : TE := fun σ H Q => to σ H fun x H1 => (∃ a ys, x = .ref a ∧ H1 a = some (.tup ys)) ∧ t σ H1 fun xs H2 => r x xs H2 Q
theorem pe_bmT {X : Cx} {o e : Expr} {es : List Expr} {to : TE} {t : TA} {name : Str} {apos cpos : Pos} {id : String} {r : V → List V → Hp → VK → Prop} (slot : Slot "tuple" name id) (hty : typeOf (.builtin id) = pure (.type "method_descriptor")) (hm : MtR X id r) (ho : PE X o to) (ha : PA X (e :: es) t)
    (hbase : attributeBase o name X.env (eval o X.env) = eval o X.env := by rfl)
    (hfew : ((backTo cpos (starEach (e :: es) X.env)).all (fun x => !x.1) && (backToKw cpos (keywordEach [] X.env)).all (fun x => x.1.isSome) && decide ((e :: es).length + ([] : List Keyword).length + (if ([] : List Keyword).isEmpty then 0 else 1) < 30)) = true := by rfl)
    (hline : (apos.endLine == cpos.line) = true := by rfl) (hs : starEach (e :: es) X.env = (false, eval e X.env) :: starEach es X.env := by rfl) (hplain : (backTo cpos (starEach es X.env)).any (·.1) = false := by rfl) :
    PE X (.Call (.Attribute o name apos) (e :: es) [] cpos) (tBMT r to t) := by
  intro pins s σ H Q I h
  refine wpAny_Call_method_late hbase hfew hline rfl (thn (ho pins s σ H _ I h) fun v s1 ⟨x, H1, I1, r1, ⟨a, ys, ex, hx⟩, q1⟩ => ?_)
  subst ex
  cases r1
  obtain ⟨h1, h2⟩ := tupD_is I1 hx
  refine ⟨"tuple", id, PySem.F.plainAttrs_tuple, slot, hty, h1, h2, ?_⟩
  have hA := ha cpos pins s1 σ H1 _ I1 q1
  rw [hs] at hA ⊢
  refine Calls.callWith_builtin (by show (false || (backTo cpos (starEach es X.env)).any (·.1)) = false; rw [hplain] <;> rfl) (Calls.evalArgs_plain ?_)
  exact thn hA fun us s2 ⟨vs, H2, I2, r2, q2⟩ => hm pins s2 σ H2 (.ref a) vs (.ref a) us Q I2 rfl r2 q2
/-! ### range as a value, list(range) -/
theorem call_rng1 {X : Cx} : CallR X (.type "range") (fun xs H Q => ∃ j : Int, xs = [.int j] ∧ ∀ r, H r = none → Q (.ref r) (upd H r (.rng 0 j))) := by
  intro pins s σ H xs us Q I rr h
  obtain ⟨j, rfl, q⟩ := h
  obtain ⟨u, rfl, t, rfl⟩ := vals1 rr
  refine call_range_1 ?_
  refine ⟨.ref s.heap.objs.size, _, I.laid (t' := s.toks + 1 + 1) (o := .rng 0 j) (fun b o e => Heap.get?_push_of_some _ e) (Nat.le_refl _) ?_, rfl, q _ (I.hok.fresh (Nat.le_refl _))⟩
  exact ⟨_, _, _, Heap.get?_push_size _ rfl⟩
theorem vals_items {g : Nat → V} {P : Nat → Value → Prop} (hP : ∀ j v, P j v → RelV (g j) v) : ∀ (l : List Value) (k : Nat), (∀ j v, l[j]? = some v → P (k + j) v) → Vals ((List.range' k l.length).map g) l
  | [], _, _ => .nil
  | a :: r, k, h => by
    refine .cons (hP _ _ (h 0 a rfl)) (vals_items hP r (k + 1) fun j v e => ?_)
    have := h (j + 1) v (by simpa using e)
    rw [show k + 1 + j = k + (j + 1) by omega]
    exact this
theorem call_list_rng {X : Cx} (hc : X.calm = true) : CallR X (.type "list") (fun xs H Q => ∃ (r : Addr) (n : Nat), xs = [.ref r] ∧ H r = some (.rng 0 (n : Int)) ∧ n ≤ 100000 ∧ ∀ l, H l = none → Q (.ref l) (upd H l (.lst ((List.range' 0 n).map fun i => .int (i : Nat))))) := by
  intro pins s σ H xs us Q I rr h
  obtain ⟨r, n, rfl, hr, hn, q⟩ := h
  obtain ⟨u, rfl, ru⟩ := vals1 rr
  cases ru
  obtain ⟨t, u, v, e⟩ := (show ObjOk X.prog X.w H s.heap r (.rng 0 n) from I.hok r _ hr)
  refine call_list_range (n := n) (I.ok.hd hc) e (small_one (by decide) (by decide) (by omega) (by omega)) (by rw [rangeSize_one]; split <;> omega) (by omega) fun h' tk acc c' kp el it => ?_
  have hl : acc.toList.length = n := by rw [Array.length_toList]; exact it.1
  have vv : Vals ((List.range' 0 n).map fun i => V.int (i : Nat)) acc.toList := by
    have := vals_items (g := fun i => V.int (i : Nat)) (P := fun i v => ∃ t, v = .int (0 + i * 1) t) (fun j v ⟨t, e⟩ => ⟨t, by rw [e]; simp⟩) acc.toList 0 (fun j v e => by
      have := it.2 j v (by simpa using e)
      simpa using this)
    rw [hl] at this
    exact this
  refine ⟨.ref s.heap.objs.size, _, I.laid (t' := tk) (o := .lst ((List.range' 0 n).map fun i => V.int (i : Nat))) kp (Nat.le_refl _) ?_, rfl, q _ (I.hok.fresh (Nat.le_refl _))⟩
  refine ⟨?_, acc.toList, c', vv, by simpa using el⟩
  rw [List.length_map, List.length_range']
  exact Nat.le_trans hn (by decide)
/-! ### a tuple's iterator -/
section
variable {prog : Program} {w : World} {A : Around} {E : Value → Shared → Prop} {s : Shared}
theorem nextOf_tup {it t : Addr} {i : Nat} {items : Array Value} {x : Value} {Q : Value → Shared → Prop} (hi : IsTupIter s.heap it t i) (ht : IsTup s.heap t items) (hx : items[i]? = some x)
    (k : ∀ h', IsTupIter h' it t (i + 1) → Heap.SameBut it s.heap h' → Q x { s with heap := h' }) : wpAny (model prog w) A (Builtin.SmallTypes.nextOf (.ref it)) Q E s := by
  have tI := hi.typeIs
  obtain ⟨a, ha, hac, had⟩ := hi
  obtain ⟨b, hb, _, n, hbd⟩ := ht
  unfold Builtin.SmallTypes.nextOf
  refine wpAny_bind (wpAny_callSpecial?_slot (name := Str.ofString "__next__") tI PySem.F.slot_tuple_iterator_next (wpAny_call_entry PySem.F.slot_tuple_iterator_next tI PySem.F.entry_tuple_iterator_next ?_ (PySem.F.args_tuple_iterator_next_1 _)))
  show wpAny _ _ (field (.ref it) 0 >>= _) _ _ s
  refine wpAny_bind (wpAny_field ha had (x := .ref t) rfl ?_)
  show wpAny _ _ (if (Value.ref t == Value.none) = true then _ else _) _ _ s
  rw [if_neg (by simp)]
  show wpAny _ _ (field (.ref it) 1 >>= _) _ _ s
  refine wpAny_bind (wpAny_field ha had (x := .int i 0) rfl ?_)
  show wpAny _ _ (seqItems? (.ref t) >>= _) _ _ s
  refine wpAny_bind (wpAny_seqItems hb hbd ?_)
  simp only [Int.toNat_natCast, hx]
  refine wpAny_bind (wpAny_setField ha had (by simp) (wpAny_pure ⟨x, rfl, wpAny_pure (k _ ⟨_, Heap.get?_update_self _ ha (Obj.isFreed_of_fields (Obj.data_mapFields had _)), (Obj.cls_mapFields ..).trans hac, ?_⟩ (Heap.SameBut.update ..))⟩))
  rw [Obj.data_mapFields had]; simp [rawInt]
theorem nextOf_tup_end {it t : Addr} {i : Nat} {items : Array Value} {Q : Value → Shared → Prop} (hh : A.handled = none) (hi : IsTupIter s.heap it t i) (ht : IsTup s.heap t items) (hx : items[i]? = none)
    (k : ∀ h' e, Heap.ExtBut it s.heap h' → (∃ o, h'.get? e = some o ∧ o.cls = .type "StopIteration") → E (.ref e) { s with heap := h' }) : wpAny (model prog w) A (Builtin.SmallTypes.nextOf (.ref it)) Q E s := by
  have tI := hi.typeIs
  obtain ⟨a, ha, hac, had⟩ := hi
  obtain ⟨b, hb, _, n, hbd⟩ := ht
  unfold Builtin.SmallTypes.nextOf
  refine wpAny_bind (wpAny_callSpecial?_slot (name := Str.ofString "__next__") tI PySem.F.slot_tuple_iterator_next (wpAny_call_entry PySem.F.slot_tuple_iterator_next tI PySem.F.entry_tuple_iterator_next ?_ (PySem.F.args_tuple_iterator_next_1 _)))
  show wpAny _ _ (field (.ref it) 0 >>= _) _ _ s
  refine wpAny_bind (wpAny_field ha had (x := .ref t) rfl ?_)
  show wpAny _ _ (if (Value.ref t == Value.none) = true then _ else _) _ _ s
  rw [if_neg (by simp)]
  show wpAny _ _ (field (.ref it) 1 >>= _) _ _ s
  refine wpAny_bind (wpAny_field ha had (x := .int i 0) rfl ?_)
  show wpAny _ _ (seqItems? (.ref t) >>= _) _ _ s
  refine wpAny_bind (wpAny_seqItems hb hbd ?_)
  simp only [Int.toNat_natCast, hx]
  refine wpAny_bind (wpAny_rule (wpAny_bind (wpAny_setField ha had (by simp) ?_)))
  show wpAny _ _ (newExc (.type "StopIteration") [] >>= _) _ _ _
  refine wpAny_bind ?_
  simp only [newExc, newTuple]
  refine wpAny_bind (wpAny_newObj_type ?_ (by size_fits))
  refine wpAny_bind (m := firstArgMember _ _) (wpAny_of_eq (a := Value.none) (by first | rfl | (simp only [firstArgMember]; rfl)) ?_)
  refine wpAny_newObj_type ?_ (by size_fits)
  simp only [raiseNew]
  refine wpAny_bind (wpAny_handled ?_)
  first | rw [show A.in1.handled = none from hh] | rw [hh]
  exact wpAny_bind (wpAny_pure (wpAny_throw (k _ _ (((Heap.SameBut.update ..).extBut.push _).push _) ⟨_, Heap.get?_push_size _ rfl, rfl⟩)))
theorem draws_tup (hh : A.handled = none) (it t : Addr) (hne : t ≠ it) (items : Array Value) :
    Draws prog w A it [it, t] items.size (fun i v => items[i]? = some v) (fun i h => IsTupIter h it t i ∧ IsTup h t items) where
  live := fun _ _ st => let ⟨o, ho, _⟩ := st.1; ⟨o, ho⟩
  frame := fun i h h' st hk => by
    obtain ⟨⟨o, ho, r⟩, ⟨ot, hot, rt⟩⟩ := st
    exact ⟨⟨o, hk it (by simp) o ho, r⟩, ⟨ot, hk t (by simp) ot hot, rt⟩⟩
  item := fun i s Q E hi st hQ => by
    refine nextOf_tup st.1 st.2 (x := items[i]) (by simp [hi]) fun h' hit' hs' => ?_
    obtain ⟨ot, hot, rt⟩ := st.2
    exact hQ _ h' s.toks (by simp [hi]) ⟨hit', ⟨ot, hs'.extBut _ _ hne hot, rt⟩⟩ hs'
  done := fun s Q E st hE => nextOf_tup_end hh st.1 st.2 (by simp) hE
theorem iter_tup {t : Addr} {items : Array Value} {Q : Value → Shared → Prop} (ht : IsTup s.heap t items) (k : Q (.ref s.heap.objs.size) { s with heap := s.heap.push { cls := .type "tuple_iterator", data := .fields #[.ref t, .int 0 0] } }) :
    wpAny (model prog w) A (pyIter (.ref t)) Q E s := by
  obtain ⟨o, ho, hc, n, hd⟩ := ht
  exact wpAny_pyIter_tuple ⟨o, ho, hc, n, hd⟩ k
end
theorem meets_enum_tup (t : Addr) (items : Array Value) :
    Meets (Builtin.«enumerate.__new__» ⟨[.type "enumerate", .ref t], []⟩) (fun _ R s => IsTup s.heap t items ∧
      R (.ok (.ret (.ref (s.heap.push { cls := .type "tuple_iterator", data := .fields #[.ref t, .int 0 0] }).objs.size)))
        { s with heap := (s.heap.push { cls := .type "tuple_iterator", data := .fields #[.ref t, .int 0 0] }).push { cls := .type "enumerate", data := .fields #[.none, .bool false, .ref s.heap.objs.size, rawInt 0, .none, .none] } }) :=
  .of_wp fun prog w A R s h => by
    obtain ⟨hp, g, d, tk, os⟩ := s; obtain ⟨ht, h⟩ := h
    have hsub := sub_enumerate
    have hT : IsTup (Shared.heap ⟨hp, g, d, tk, os⟩) t items := ht
    obtain ⟨o, ho, hc, n, hd⟩ := id ht
    wp_walk using AutoSeq1.wpAny_loadPart' ho
    refine wpAny_stack_any fun st => wpAny_pure ?_
    split
    case h_1 c _ _ _ _ _ => cases (c == Value.type "enumerate") <;> (wp_walk using AutoSeq1.wpAny_loadPart' ho, iter_tup hT; exact ⟨_, rfl, h⟩)
    case h_2 => (wp_walk using AutoSeq1.wpAny_loadPart' ho, iter_tup hT; exact ⟨_, rfl, h⟩)
section
variable {prog : Program} {w : World} {A : Around} {E : Value → Shared → Prop} {s : Shared}
theorem call_enum_tup {t : Addr} {items : Array Value} {Q : Value → Shared → Prop} (ht : IsTup s.heap t items)
    (k : ∀ h', IsEnum h' (s.heap.objs.size + 1) s.heap.objs.size 0 .none → IsTupIter h' s.heap.objs.size t 0 → h'.objs.size = s.heap.objs.size + 2 → (∀ b o, s.heap.get? b = some o → h'.get? b = some o) → Q (.ref (s.heap.objs.size + 1)) { s with heap := h' }) :
    wpAny (model prog w) A (call (.type "enumerate") [.ref t]) Q E s := by
  refine callType_new PySem.F.called_enumerate (by decide) (PySem.F.typeCall_enumerate_1 _) (PySem.F.newCall_enumerate_1 _) (fun obj => PySem.F.args_object_init_2 obj _) PySem.F.entry_enumerate_new (meets_enum_tup t items) ⟨ht, ?_⟩
  have z : (s.heap.push { cls := .type "tuple_iterator", data := .fields #[.ref t, .int 0 0] }).objs.size = s.heap.objs.size + 1 := Heap.size_push ..
  have g := Heap.get?_push_size (s.heap.push { cls := .type "tuple_iterator", data := .fields #[.ref t, .int 0 0] }) (o := { cls := .type "enumerate", data := .fields #[.none, .bool false, .ref s.heap.objs.size, rawInt 0, .none, .none] }) rfl
  show _ ∧ _
  rw [z] at g ⊢
  exact ⟨⟨_, g, rfl⟩, k _ g ⟨_, Heap.get?_push_of_some _ (Heap.get?_push_size _ rfl), rfl, rfl⟩ (by rw [Heap.size_push, z]) fun b o x => Heap.get?_push_of_some _ (Heap.get?_push_of_some _ x)⟩
end
/-! ### enumerate(tuple), in a for or a comprehension -/
def IteT (K : PySem.W.Frag) (a : Addr) : It :=
  ⟨fun i H => ∃ (xs : List V) (x : V), SqT K H a xs ∧ xs[i]? = some x, fun i H v H' => ∃ T x, v = .ref T ∧ H T = none ∧ H' = upd H T (.tup [.int (i : Nat), x]) ∧ ∀ xs, SqT K H a xs → xs[i]? = some x, fun i H => ∃ xs : List V, SqT K H a xs ∧ xs.length = i⟩
theorem turn_enumT {P : Program} {w : World} {K : PySem.W.Frag} {elts : List Expr} {kk : Nat} {tpos : Pos} (a e it : Addr) (hai : a ≠ it) (hae : a ≠ e) :
    Turn P w K (.Tuple elts kk tpos) (IteT K a) [e, it] e (fun i h => (∃ old, IsEnum h e it ((i : Nat) : Int) old) ∧ IsTupIter h it a i ∧ e ≠ it) where
  mem := by simp
  obj := fun i h st b hb => by
    obtain ⟨⟨old, he⟩, ⟨o, ho, hc, hd⟩, _⟩ := st
    have e' : b = e ∨ b = it := by simpa using hb
    rcases e' with rfl | rfl
    · exact ⟨_, he, fun v q => nomatch q⟩
    · exact ⟨o, ho, fun v q => by rw [hd] at q; cases q⟩
  keep := fun i h h' st k => by
    obtain ⟨⟨old, he⟩, ⟨o, ho, r⟩, hne⟩ := st
    exact ⟨⟨old, k e (by simp) _ he⟩, ⟨o, k it (by simp) o ho, r⟩, hne⟩
  item := by
    intro X hP hw hK hc i pins s σ H E I hf st hg
    subst hP hw hK
    obtain ⟨⟨old, he⟩, hit, hne⟩ := st
    obtain ⟨xs, x, hq, hx⟩ := hg
    obtain ⟨its, rv, p, hz⟩ := I.tuple hq
    obtain ⟨u, hu, ru⟩ := rv.get hx
    have hil : i < its.toArray.size := by simpa using (List.getElem?_eq_some_iff.mp hu).1
    refine wpAny_pyNext_enum_itemD (draws_tup (A := X.A.in1) (I.ok.hd hc) it a hai its.toArray) he ⟨hit, p⟩ hil hne (by simp; exact ⟨hne, Ne.symm hae⟩) fun y h' tk hy ho st' hT hsz hk => ?_
    have hyu : y = u := by
      have : its.toArray[i]? = some u := by simpa using hu
      rw [this] at hy; exact (Option.some.inj hy).symm
    subst hyu
    have hel : e < s.heap.objs.size := Heap.lt_size he
    have hilt : it < s.heap.objs.size := by obtain ⟨_, q, _⟩ := hit; exact Heap.lt_size q
    refine ⟨_, rfl, wpAny_letOwnedTupleGo_enum (s := { s with heap := h', toks := tk + 1 }) ho fun h'' he' sb => ?_⟩
    have hT2 : h''.get? s.heap.objs.size = some { cls := .type "tuple", data := .seq #[.int i tk, y] } := (sb.2 _ (Nat.ne_of_gt hel)).trans hT
    have new : ObjOk X.prog X.w (upd H s.heap.objs.size (.tup [.int (i : Nat), x])) h'' s.heap.objs.size (.tup [.int (i : Nat), x]) :=
      ⟨(by show 2 ≤ sizeLine; decide), [.int i tk, y], .cons ⟨_, rfl⟩ (.cons ru .nil), ⟨_, hT2, rfl, rfl, _, rfl⟩⟩
    have I1 : Inv X pins σ (upd H s.heap.objs.size (.tup [.int (i : Nat), x])) { s with heap := h'', toks := tk + 1 } :=
      I.turnedNew (ch := [e, it]) (fun b ob hb q => (sb.2 b (fun z => hb (by simp [z]))).trans (hk b ob (fun z => hb (by simp [z])) (fun z => hb (by simp [z])) q)) hf (Nat.le_refl _) new
    refine ⟨.ref s.heap.objs.size, _, I1, rfl, ⟨_, x, rfl, I.hok.fresh (Nat.le_refl _), rfl, fun ys hy => ?_⟩, ⟨⟨y, ?_⟩, ?_, hne⟩, fun b hb => ?_⟩
    · rw [I.tuple_inj hy hq]; exact hx
    · have e1 : ((i + 1 : Nat) : Int) = (i : Int) + 1 := by omega
      rw [e1]; exact he'
    · obtain ⟨⟨o, ho', r⟩, _⟩ := st'
      exact ⟨o, (sb.2 it (Ne.symm hne)).trans ho', r⟩
    · have hb' : b < s.heap.objs.size := by
        have e' : b = e ∨ b = it := by simpa using hb
        rcases e' with rfl | rfl
        · exact hel
        · exact hilt
      rw [upd_ne (Nat.ne_of_lt hb')]
      exact (hf b hb).1
  done := by
    intro X hP hw hK hc i pins s σ H E I hf st hg
    subst hP hw hK
    obtain ⟨⟨old, he⟩, hit, hne⟩ := st
    obtain ⟨xs, hq, hx⟩ := hg
    obtain ⟨its, rv, p, hz⟩ := I.tuple hq
    obtain ⟨f0, f1, f2, f3, f4, f5⟩ := hf it (by simp)
    have hl := rv.length
    have hn : its.toArray.size = i := by simp; omega
    refine wpAny_pyNext_enum_endD (n := its.toArray.size) (draws_tup (A := X.A.in1) (I.ok.hd hc) it a hai its.toArray) he ⟨by rw [hn]; exact hit, p⟩ fun h' eb => ⟨rfl, ?_⟩
    exact I.turned (t' := s.toks) (fun b o hb q => eb b o hb q) f0 f1 f3 f4 f5
  self := fun A i s Q E st h => let ⟨⟨_, he⟩, _⟩ := st; wpAny_pyIter_enum he h
def iEnumT (K : PySem.W.Frag) (ta : TA) : TI := fun σ H R => ta σ H fun vs H1 => ∃ a xs, vs = [.ref a] ∧ SqT K H1 a xs ∧ R (IteT K a) H1
theorem pi_enumT {X : Cx} {e : Expr} {ta : TA} {p pos tpos : Pos} {elts : List Expr} {kk : Nat} (hg : Gl X "enumerate") (hm : X.mg "enumerate" = none) (ha : PA X [e] ta) (hs : starEach [e] X.env = [(false, eval e X.env)] := by rfl) :
    PI X (.Tuple elts kk tpos) (.Call (.Name "enumerate" p) [e] [] pos) (iEnumT X.K ta) := by
  intro pins s σ H R I h
  refine Call_ (ld_blt I hg hm boot_enumerate (PyProof.Rows.callWith_type1 (thn (ha pos pins s σ H _ I h) fun us s1 ⟨vs, H1, I1, r1, q1⟩ => ?_) hs rfl))
  obtain ⟨a, xs, ex, hq, q⟩ := q1
  subst ex
  obtain ⟨u, rfl, ru⟩ := vals1 r1
  cases ru
  obtain ⟨its, rv, p', hz⟩ := I1.tuple hq
  have la : a < s1.heap.objs.size := p'.lt
  refine call_enum_tup p' fun h' he hit hsz hk => wpAny_pyIter_enum he ?_
  have I2 : Inv X pins σ H1 { s1 with heap := h' } := I1.kept (t' := s1.toks) hk
  refine ⟨s1.heap.objs.size + 1, [s1.heap.objs.size + 1, s1.heap.objs.size], _, _, H1, rfl, I2, turn_enumT a (s1.heap.objs.size + 1) s1.heap.objs.size (Nat.ne_of_lt la) (Nat.ne_of_lt (Nat.lt_succ_of_lt la)), ⟨⟨.none, he⟩, hit, Nat.succ_ne_self _⟩, fun b hb => ?_, q⟩
  have hle : s1.heap.objs.size ≤ b := by
    have e' : b = s1.heap.objs.size + 1 ∨ b = s1.heap.objs.size := by simpa using hb
    rcases e' with z | z
    · rw [z]; exact Nat.le_succ _
    · rw [z]; exact Nat.le_refl _
  exact I1.fpOk hle (I1.hok.fresh hle)
theorem lc_enumT {K : PySem.W.Frag} {a : Addr} {xs : List V} {g : TG} {tt : TT} {te : TE} {vs : List Nat} {σ : St} {H1 : Hp} {D : Addr} {Qd : Hp → Prop} (Pv : Nat → Hp → Prop) (h0 : Pv 0 (upd H1 D (.lst []))) (hl : ∀ i H, i ≤ xs.length → Pv i H → SqT K H a xs)
    (hs : ∀ i x H T, xs[i]? = some x → Pv i H → H T = none → g (.ref T) (wipe σ vs) (upd H T (.tup [.int (i : Nat), x])) fun σ2 H2 => wipe σ2 vs = wipe σ vs ∧ tt σ2 H2 fun b H3 =>
      if b = true then te σ2 H3 fun y H4 => ∃ acc, H4 D = some (.lst acc) ∧ acc.length < sizeLine ∧ Pv (i + 1) (upd H4 D (.lst (acc ++ [y]))) else Pv (i + 1) H3) (hd : ∀ H, Pv xs.length H → Qd H) :
    ∃ W : Nat → Nat → Hp → Prop, (∃ m, W 0 m (upd H1 D (.lst []))) ∧ ∀ i m H, W i m H →
      ((IteT K a).stop i H ∧ Qd H) ∨ ((IteT K a).go i H ∧ ∃ Nx : Hp → Prop, (∀ H', Nx H' → ∃ m', m' < m ∧ W (i + 1) m' H') ∧ ∀ x H', (IteT K a).yld i H x H' → g x (wipe σ vs) H' fun σ2 H2 => wipe σ2 vs = wipe σ vs ∧ tt σ2 H2 fun b H3 =>
        if b = true then te σ2 H3 fun y H4 => ∃ acc, H4 D = some (.lst acc) ∧ acc.length < sizeLine ∧ Nx (upd H4 D (.lst (acc ++ [y]))) else Nx H3) := by
  refine ⟨fun i m H => m = xs.length - i ∧ i ≤ xs.length ∧ Pv i H, ⟨xs.length, by simp, Nat.zero_le _, h0⟩, ?_⟩
  rintro i m H ⟨rfl, hi, p⟩
  have q := hl i H hi p
  by_cases hlt : i < xs.length
  · refine .inr ⟨⟨xs, xs[i], q, by simp [hlt]⟩, Pv (i + 1), fun H' p' => ⟨xs.length - (i + 1), by omega, rfl, hlt, p'⟩, fun x H' y => ?_⟩
    obtain ⟨T, z, rfl, hT, rfl, hz⟩ := y
    exact hs i z _ T (hz xs q) p hT
  · have e : i = xs.length := by omega
    exact .inl ⟨⟨xs, q, e.symm⟩, hd H (by rw [← e]; exact p)⟩
/-! ### zip of two things that are drawn from, as list() takes it -/
abbrev ZipF (h : Heap) (z TI TO : Addr) (f0 : Value) (f1 : Bool) : Prop :=
  h.get? z = some { cls := .type "zip", dict := none, data := .fields #[f0, .bool f1, .bool false, .ref TI, .ref TO], slots := #[] }
structure ZAp (z TI TO i1 i2 : Addr) (fp1 fp2 : List Addr) : Prop where
  TIz : TI ≠ z
  TOz : TO ≠ z
  i1z : i1 ≠ z
  i2z : i2 ≠ z
  TITO : TI ≠ TO
  TIi1 : TI ≠ i1
  TIi2 : TI ≠ i2
  TOi1 : TO ≠ i1
  TOi2 : TO ≠ i2
  i12 : i1 ≠ i2
  z1 : z ∉ fp1
  z2 : z ∉ fp2
  t1 : TO ∉ fp1
  t2 : TO ∉ fp2
  n21 : i2 ∉ fp1
  n12 : i1 ∉ fp2
section
variable {prog : Program} {w : World} {A : Around} {E : Value → Shared → Prop} {s : Shared} {z TI TO i1 i2 : Addr} {fp1 fp2 : List Addr} {n1 n2 k1 k2 : Nat} {P1 P2 : Nat → Value → Prop} {S1 S2 : Nat → Heap → Prop} {a b : Value}
theorem zip_item_first {Q : Value → Shared → Prop} (D1 : Draws prog w A i1 fp1 n1 P1 S1) (D2 : Draws prog w A i2 fp2 n2 P2 S2) (D : ZAp z TI TO i1 i2 fp1 fp2) (hz : ZipF s.heap z TI TO .none false) (hTI : IsPair s.heap TI (.ref i1) (.ref i2)) (hTO : IsPair s.heap TO a b)
    (hs1 : S1 k1 s.heap) (l1 : k1 < n1) (hs2 : S2 k2 s.heap) (l2 : k2 < n2)
    (k : ∀ x y h' tk, P1 k1 x → P2 k2 y → ZipF h' z TI TO (rawInt s.heap.objs.size) false → IsPair h' TO x y → S1 (k1 + 1) h' → S2 (k2 + 1) h' → IsPair h' s.heap.objs.size x y → h'.objs.size = s.heap.objs.size + 1 →
      (∀ c o, c ≠ z → c ≠ TO → c ≠ i1 → c ≠ i2 → s.heap.get? c = some o → h'.get? c = some o) → Q (.ref s.heap.objs.size) { s with heap := h', toks := tk }) :
    wpAny (model prog w) A (Builtin.«zip.__next__» ⟨[.ref z], []⟩) (fun fin s' => ∃ v, fin = .done (.ret v) ∧ Q v s') E s := by
  have hi1 : i1 < s.heap.objs.size := by obtain ⟨o, e⟩ := D1.live _ _ hs1; exact Heap.lt_size e
  have hi2 : i2 < s.heap.objs.size := by obtain ⟨o, e⟩ := D2.live _ _ hs2; exact Heap.lt_size e
  show wpAny _ _ (field (.ref z) 2 >>= _) _ _ _
  refine wpAny_bind (wpAny_field hz rfl (x := .bool false) rfl ?_)
  show wpAny _ _ (field (.ref z) 3 >>= _) _ _ _
  refine wpAny_bind (wpAny_field hz rfl (x := .ref TI) rfl ?_)
  refine wpAny_bind (wpAny_seqItems hTI rfl ?_)
  show wpAny _ _ (Builtin.SmallTypes.ownedTupleIsFree (.ref z) >>= _) _ _ _
  refine wpAny_bind ?_
  unfold Builtin.SmallTypes.ownedTupleIsFree
  refine wpAny_bind (wpAny_field hz rfl (x := .none) rfl (wpAny_pure ?_))
  simp only [if_true]
  refine wpAny_bind (wpAny_rule (wpAny_bind (wpAny_field hz rfl (x := .ref TO) rfl (wpAny_bind (wpAny_setField_rec hz (by simp) fun h1 hz1 e1 => ?_)))))
  have hz1' : ZipF h1 z TI TO .ellipsis false := hz1
  refine wpAny_bind ?_
  simp only [List.zipIdx_cons, List.zipIdx_nil, List.forIn_cons, List.forIn_nil]
  refine wpAny_bind (wpAny_bind (wpAny_onRaise ?_))
  show wpAny _ _ (Builtin.SmallTypes.nextOf (.ref i1) >>= _) _ _ _
  refine wpAny_bind (D1.item k1 _ _ _ l1 (D1.frame _ _ _ hs1 fun c hc o e => e1.extBut c o (fun q => D.z1 (q ▸ hc)) e) fun x h2 tk2 px s1' e2 => wpAny_pure ?_)
  have hTO2 : IsPair h2 TO a b := e2.extBut _ _ D.TOi1 (e1.extBut _ _ D.TOz hTO)
  refine wpAny_bind (wpAny_seqItems hTO2 rfl (wpAny_bind (wpAny_updateSeq_pair hTO2 fun h3 hTO3 e3 => wpAny_bind (wpAny_letGo (wpAny_pure ?_)))))
  have hTO3' : IsPair h3 TO x b := hTO3
  refine wpAny_bind (wpAny_bind (wpAny_onRaise ?_))
  show wpAny _ _ (Builtin.SmallTypes.nextOf (.ref i2) >>= _) _ _ _
  have hs2' : S2 k2 h3 := D2.frame _ _ _ hs2 fun c hc o e => e3.extBut c o (fun q => D.t2 (q ▸ hc)) (e2.extBut c o (fun q => D.n12 (q ▸ hc)) (e1.extBut c o (fun q => D.z2 (q ▸ hc)) e))
  refine wpAny_bind (D2.item k2 _ _ _ l2 hs2' fun y h4 tk4 py s2' e4 => wpAny_pure ?_)
  have hTO4 : IsPair h4 TO x b := e4.extBut _ _ D.TOi2 hTO3'
  refine wpAny_bind (wpAny_seqItems hTO4 rfl (wpAny_bind (wpAny_updateSeq_pair hTO4 fun h5 hTO5 e5 => wpAny_bind (wpAny_letGo (wpAny_pure (wpAny_pure ?_))))))
  have hTO5' : IsPair h5 TO x y := hTO5
  refine wpAny_bind (wpAny_seqItems hTO5' rfl (wpAny_bind (wpAny_newTuple ?_)))
  have hsz : h5.objs.size = s.heap.objs.size := by rw [e5.1, e4.1, e3.1, e2.1, e1.1]
  have hz5 : ZipF h5 z TI TO .ellipsis false := e5.extBut _ _ D.TOz.symm (e4.extBut _ _ D.i2z.symm (e3.extBut _ _ D.TOz.symm (e2.extBut _ _ D.i1z.symm hz1')))
  have keep5 : ∀ c o, c ≠ z → c ≠ TO → c ≠ i1 → c ≠ i2 → s.heap.get? c = some o → h5.get? c = some o := fun c o c1 c2 c3 c4 e =>
    e5.extBut _ _ c2 (e4.extBut _ _ c4 (e3.extBut _ _ c2 (e2.extBut _ _ c3 (e1.extBut _ _ c1 e))))
  have hzlt : z < h5.objs.size := Heap.lt_size hz5
  show wpAny _ _ (Builtin.SmallTypes.ownedTupleHandOut (.ref z) (.ref h5.objs.size) >>= _) _ _ _
  refine wpAny_bind ?_
  unfold Builtin.SmallTypes.ownedTupleHandOut
  have hz6 : ZipF (h5.push { cls := .type "tuple", data := .seq #[x, y] }) z TI TO .ellipsis false := Heap.get?_push_of_some _ hz5
  refine wpAny_bind (wpAny_setField_rec hz6 (by simp) fun h7 hz7 e7 => ?_)
  have hz7' : ZipF h7 z TI TO (rawInt h5.objs.size) false := hz7
  refine wpAny_setField_rec hz7' (by simp) fun h8 hz8 e8 => ?_
  have hz8' : ZipF h8 z TI TO (rawInt h5.objs.size) false := hz8
  have up : ∀ c o, c ≠ z → h5.get? c = some o → h8.get? c = some o := fun c o c1 e => e8.extBut _ _ c1 (e7.extBut _ _ c1 (Heap.get?_push_of_some _ e))
  have hT8 : IsPair h8 h5.objs.size x y := e8.extBut _ _ (Nat.ne_of_gt hzlt) (e7.extBut _ _ (Nat.ne_of_gt hzlt) (Heap.get?_push_size _ rfl))
  have sz8 : h8.objs.size = h5.objs.size + 1 := by rw [e8.1, e7.1, Heap.size_push]
  rw [hsz] at hz8' hT8 sz8
  refine wpAny_pure ⟨_, rfl, ?_⟩
  show Q (.ref h5.objs.size) _
  rw [hsz]
  refine k x y h8 tk4 px py hz8' (up _ _ D.TOz hTO5') (D1.frame _ _ _ s1' fun c hc o e => up c o (fun q => D.z1 (q ▸ hc)) (e5.extBut _ _ (fun q => D.t1 (q ▸ hc)) (e4.extBut _ _ (fun q => D.n21 (q ▸ hc)) (e3.extBut _ _ (fun q => D.t1 (q ▸ hc)) e))))
    (D2.frame _ _ _ s2' fun c hc o e => up c o (fun q => D.z2 (q ▸ hc)) (e5.extBut _ _ (fun q => D.t2 (q ▸ hc)) e)) hT8 sz8 fun c o c1 c2 c3 c4 e => up c o c1 (keep5 c o c1 c2 c3 c4 e)
theorem loadAlive {M : Model} {x : Addr} {Q : Option Obj → Shared → Prop} (h : Q (s.heap.get? x) s) : wpAny M A (loadIfAlive x) Q E s :=
  fun Γ p hΓ => by unfold loadIfAlive; rw [Sem.wp_loadIfAlive]; exact wpAny_pure (A := A) (E := E) h Γ p hΓ
/-- the owned tuple is out: the zip says so, and is else as it was -/
theorem zip_not_free {T : Addr} {oT : Obj} {f1 : Bool} {Q : Bool → Shared → Prop} (hz : ZipF s.heap z TI TO (rawInt T) f1) (hT : s.heap.get? T = some oT) (k : ∀ h1, ZipF h1 z TI TO (rawInt T) true → Heap.SameBut z s.heap h1 → Q false { s with heap := h1 }) :
    wpAny (model prog w) A (Builtin.SmallTypes.ownedTupleIsFree (.ref z)) Q E s := by
  unfold Builtin.SmallTypes.ownedTupleIsFree
  refine wpAny_bind (wpAny_field hz rfl (x := rawInt T) rfl ?_)
  show wpAny _ _ (loadIfAlive ((T : Int).toNat) >>= _) _ _ _
  rw [Int.toNat_natCast]
  refine wpAny_bind (loadAlive ?_)
  rw [hT]
  show wpAny _ _ (field (.ref z) 1 >>= _) _ _ _
  refine wpAny_bind (wpAny_field hz rfl (x := .bool f1) rfl ?_)
  cases f1 with
  | true => exact wpAny_pure (k _ hz ⟨rfl, fun _ _ => rfl⟩)
  | false =>
    show wpAny _ _ (setField (.ref z) 1 (.bool true) >>= _) _ _ _
    exact wpAny_bind (wpAny_setField_rec hz (by simp) fun h1 hz1 e1 => wpAny_pure (k h1 hz1 e1))
/-- the owned tuple is out: a further one is made -/
theorem zip_item_more {Q : Value → Shared → Prop} {T : Addr} {oT : Obj} {f1 : Bool} (D1 : Draws prog w A i1 fp1 n1 P1 S1) (D2 : Draws prog w A i2 fp2 n2 P2 S2) (D : ZAp z TI TO i1 i2 fp1 fp2) (hz : ZipF s.heap z TI TO (rawInt T) f1) (hT : s.heap.get? T = some oT) (hTI : IsPair s.heap TI (.ref i1) (.ref i2)) (hTO : IsPair s.heap TO a b)
    (hs1 : S1 k1 s.heap) (l1 : k1 < n1) (hs2 : S2 k2 s.heap) (l2 : k2 < n2)
    (k : ∀ x y h' tk, P1 k1 x → P2 k2 y → ZipF h' z TI TO (rawInt T) true → S1 (k1 + 1) h' → S2 (k2 + 1) h' → IsPair h' s.heap.objs.size x y → h'.objs.size = s.heap.objs.size + 1 →
      (∀ c o, c ≠ z → c ≠ i1 → c ≠ i2 → s.heap.get? c = some o → h'.get? c = some o) → Q (.ref s.heap.objs.size) { s with heap := h', toks := tk }) :
    wpAny (model prog w) A (Builtin.«zip.__next__» ⟨[.ref z], []⟩) (fun fin s' => ∃ v, fin = .done (.ret v) ∧ Q v s') E s := by
  show wpAny _ _ (field (.ref z) 2 >>= _) _ _ _
  refine wpAny_bind (wpAny_field hz rfl (x := .bool false) rfl ?_)
  show wpAny _ _ (field (.ref z) 3 >>= _) _ _ _
  refine wpAny_bind (wpAny_field hz rfl (x := .ref TI) rfl ?_)
  refine wpAny_bind (wpAny_seqItems hTI rfl ?_)
  show wpAny _ _ (Builtin.SmallTypes.ownedTupleIsFree (.ref z) >>= _) _ _ _
  refine wpAny_bind (zip_not_free hz hT fun h1 hz1 e1 => ?_)
  simp only [Bool.false_eq_true, if_false]
  refine wpAny_bind ?_
  rw [← Array.forIn_toList]
  simp only [List.forIn_cons, List.forIn_nil]
  refine wpAny_bind (wpAny_bind (wpAny_holding ?_))
  show wpAny _ _ (Builtin.SmallTypes.nextOf (.ref i1) >>= _) _ _ _
  refine wpAny_bind (D1.item k1 _ _ _ l1 (D1.frame _ _ _ hs1 fun c hc o e => e1.extBut c o (fun q => D.z1 (q ▸ hc)) e) fun x h2 tk2 px s1' e2 => wpAny_pure (wpAny_pure ?_))
  refine wpAny_bind (wpAny_bind (wpAny_holding ?_))
  show wpAny _ _ (Builtin.SmallTypes.nextOf (.ref i2) >>= _) _ _ _
  have hs2' : S2 k2 h2 := D2.frame _ _ _ hs2 fun c hc o e => e2.extBut c o (fun q => D.n12 (q ▸ hc)) (e1.extBut c o (fun q => D.z2 (q ▸ hc)) e)
  refine wpAny_bind (D2.item k2 _ _ _ l2 hs2' fun y h4 tk4 py s2' e4 => wpAny_pure (wpAny_pure (wpAny_pure ?_)))
  refine wpAny_bind (wpAny_newTuple (hsz := by show 2 ≤ sizeLine; decide) (wpAny_pure ⟨_, rfl, ?_⟩))
  have hsz : h4.objs.size = s.heap.objs.size := by rw [e4.1, e2.1, e1.1]
  show Q (.ref h4.objs.size) _
  rw [hsz]
  have hz4 : ZipF h4 z TI TO (rawInt T) true := e4.extBut _ _ D.i2z.symm (e2.extBut _ _ D.i1z.symm hz1)
  have hnew : IsPair (h4.push { cls := .type "tuple", data := .seq #[x, y] }) s.heap.objs.size x y := by rw [← hsz]; exact Heap.get?_push_size _ rfl
  refine k x y _ tk4 px py (Heap.get?_push_of_some _ hz4) (D1.frame _ _ _ s1' fun c hc o e => Heap.get?_push_of_some _ (e4.extBut _ _ (fun q => D.n21 (q ▸ hc)) e)) (D2.frame _ _ _ s2' fun c hc o e => Heap.get?_push_of_some _ e) hnew
    (by rw [Heap.size_push, hsz]) fun c o c1 c3 c4 e => Heap.get?_push_of_some _ (e4.extBut _ _ c4 (e2.extBut _ _ c3 (e1.extBut _ _ c1 e)))
/-- the first one has ended, the owned tuple is out -/
theorem zip_end_more {Q : PySem.Fin → Shared → Prop} {T : Addr} {oT : Obj} {f1 : Bool} (D1 : Draws prog w A i1 fp1 n1 P1 S1) (D : ZAp z TI TO i1 i2 fp1 fp2) (hz : ZipF s.heap z TI TO (rawInt T) f1) (hT : s.heap.get? T = some oT) (hTI : IsPair s.heap TI (.ref i1) (.ref i2))
    (hs1 : S1 n1 s.heap)
    (k : ∀ h' e, (∀ c o, c ≠ z → c ≠ i1 → s.heap.get? c = some o → h'.get? c = some o) → (∃ o, h'.get? e = some o ∧ o.cls = .type "StopIteration") → E (.ref e) { s with heap := h' }) :
    wpAny (model prog w) A (Builtin.«zip.__next__» ⟨[.ref z], []⟩) Q E s := by
  show wpAny _ _ (field (.ref z) 2 >>= _) _ _ _
  refine wpAny_bind (wpAny_field hz rfl (x := .bool false) rfl ?_)
  show wpAny _ _ (field (.ref z) 3 >>= _) _ _ _
  refine wpAny_bind (wpAny_field hz rfl (x := .ref TI) rfl ?_)
  refine wpAny_bind (wpAny_seqItems hTI rfl ?_)
  show wpAny _ _ (Builtin.SmallTypes.ownedTupleIsFree (.ref z) >>= _) _ _ _
  refine wpAny_bind (zip_not_free hz hT fun h1 hz1 e1 => ?_)
  simp only [Bool.false_eq_true, if_false]
  refine wpAny_bind ?_
  rw [← Array.forIn_toList]
  simp only [List.forIn_cons, List.forIn_nil]
  refine wpAny_bind (wpAny_bind (wpAny_holding ?_))
  show wpAny _ _ (Builtin.SmallTypes.nextOf (.ref i1) >>= _) _ _ _
  refine wpAny_bind (D1.done _ _ _ (D1.frame _ _ _ hs1 fun c hc o e => e1.extBut c o (fun q => D.z1 (q ▸ hc)) e) fun h2 e e2 he => ?_)
  exact k h2 e (fun c o c1 c3 x => e2 _ _ c3 (e1.extBut _ _ c1 x)) he
theorem next_zip {Q : Option Value → Shared → Prop} {f0 : Value} {f1 : Bool} (hz : ZipF s.heap z TI TO f0 f1)
    (h : wpAny (model prog w) A.in1 (Builtin.«zip.__next__» ⟨[.ref z], []⟩) (fun fin s' => ∃ v, fin = .done (.ret v) ∧ Q (some v) s') (fun e s' => ∃ x o, e = .ref x ∧ s'.heap.get? x = some o ∧ o.cls = .type "StopIteration" ∧ Q none s') s) :
    wpAny (model prog w) A (pyNext (.ref z)) Q E s := by
  have hT : s.TypeIs (.ref z) "zip" := ⟨_, hz, rfl⟩
  unfold pyNext
  refine wpAny_bind (wpAny_attempt (wpAny_callSpecial?_slot (name := Str.ofString "__next__") hT PySem.F.slot_zip_next (wpAny_call_entry PySem.F.slot_zip_next hT PySem.F.entry_zip_next ?_ (PySem.F.args_zip_next_1 _))))
  refine wpAny_mono h (fun fin s' ⟨v, e, q⟩ => ⟨v, e, wpAny_pure q⟩) fun e s' ⟨x, o, ex, ho, hc, q⟩ => ?_
  subst ex
  exact wpAny_bind (wpAny_isInstance (T := "StopIteration") (b := true) ⟨o, ho, hc⟩ isSubtype_stop (wpAny_pure q))
end
/-! ### list() of such a zip: n pairs, n from 1 on -/
section
variable {prog : Program} {w : World} {A : Around} {R : Result → Shared → Prop} {z TI TO i1 i2 : Addr} {fp1 fp2 : List Addr} {n : Nat} {P1 P2 : Nat → Value → Prop} {S1 S2 : Nat → Heap → Prop}
/-- what the list holds so far: new pairs, apart from the zip's own things -/
def ZItems (P1 P2 : Nat → Value → Prop) (B : Nat) (acc : Array Value) (i : Nat) (h : Heap) : Prop :=
  acc.size = i ∧ (∀ j v, acc[j]? = some v → ∃ T x y, v = .ref T ∧ B ≤ T ∧ IsPair h T x y ∧ P1 j x ∧ P2 j y) ∧ ∀ (j j' : Nat) (v : Value), acc[j]? = some v → acc[j']? = some v → j = j'
theorem ZItems.mono {B : Nat} {acc : Array Value} {i : Nat} {h h' : Heap} (x : ZItems P1 P2 B acc i h) (k : ∀ c o, B ≤ c → h.get? c = some o → h'.get? c = some o) : ZItems P1 P2 B acc i h' :=
  ⟨x.1, fun j v e => let ⟨T, a, b, e1, hB, e2, p, q⟩ := x.2.1 j v e; ⟨T, a, b, e1, hB, k T _ hB e2, p, q⟩, x.2.2⟩
theorem ZItems.push {B : Nat} {acc : Array Value} {i : Nat} {h : Heap} {T : Addr} {x y : Value} (g : ZItems P1 P2 B acc i h) (hB : B ≤ T) (e : IsPair h T x y) (p : P1 i x) (q : P2 i y) (new : ∀ (j : Nat) (v : Value), acc[j]? = some v → v ≠ Value.ref T) : ZItems P1 P2 B (acc.push (.ref T)) (i + 1) h := by
  refine ⟨by rw [Array.size_push, g.1], fun j v hj => ?_, fun j j' v hj hj' => ?_⟩
  · rw [Array.getElem?_push] at hj
    split at hj
    · rename_i ej
      rw [g.1] at ej
      cases hj
      exact ⟨T, x, y, rfl, hB, e, by rw [ej]; exact p, by rw [ej]; exact q⟩
    · exact g.2.1 j v hj
  · rw [Array.getElem?_push] at hj hj'
    split at hj
    · cases hj
      split at hj'
      · omega
      · exact absurd rfl (new _ _ hj')
    · split at hj'
      · cases hj'
        exact absurd rfl (new _ _ hj)
      · exact g.2.2 j j' v hj hj'
theorem zip_loop (D1 : Draws prog w A.in1.in1 i1 fp1 n P1 S1) (D2 : Draws prog w A.in1.in1 i2 fp2 n P2 S2) (D : ZAp z TI TO i1 i2 fp1 fp2) (hn : n ≤ sizeLine) (S B : Addr) (hS1 : S ∉ fp1) (hS2 : S ∉ fp2) (hSz : S ≠ z) (hSI : S ≠ TI) (hSO : S ≠ TO) (hSi1 : S ≠ i1) (hSi2 : S ≠ i2) (res : Value)
    (hB : z < B ∧ TO < B ∧ i1 < B ∧ i2 < B ∧ S < B) :
    ∀ (k i : Nat) (s : Shared) (acc : Array Value) (c : Nat) (T : Addr) (f1 : Bool), n - i = k → i ≤ n → ZipF s.heap z TI TO (rawInt T) f1 → (∃ oT, s.heap.get? T = some oT) → B ≤ T → IsPair s.heap TI (.ref i1) (.ref i2) → (∃ a b, IsPair s.heap TO a b) → S1 i s.heap → S2 i s.heap → B ≤ s.heap.objs.size →
      s.heap.get? S = some { cls := .type "list", dict := none, data := .seq acc c, slots := #[] } → ZItems P1 P2 B acc i s.heap →
      (∀ h' tk acc' c', (∀ b o, b ≠ S → b ≠ z → b ≠ TO → b ≠ i1 → b ≠ i2 → s.heap.get? b = some o → h'.get? b = some o) → h'.get? S = some { cls := .type "list", dict := none, data := .seq acc' c', slots := #[] } → ZItems P1 P2 B acc' n h' → R (.ok (.ret res)) { s with heap := h', toks := tk }) →
      codeAny (model prog w) A (.builtin "list.extend.loop" ⟨[.ref S, .ref z, res], []⟩) R s := by
  intro k
  induction k with
  | zero =>
    intro i s acc c T f1 hk hi hz hT hBT hTI hTO s1 s2 hsz hS hacc hR
    have hin : i = n := by omega
    subst hin
    obtain ⟨oT, hT⟩ := hT
    refine codeAny_builtin PySem.F.entry_extend_loop ?_
    rw [Around.under_plainId PySem.F.plain_extend_loop _]
    show wpAny _ A.in1 (pyNext (.ref z) >>= _) _ _ s
    refine wpAny_bind (next_zip hz (zip_end_more D1 D hz hT hTI s1 fun h' e kp he => ?_))
    obtain ⟨o, ho, hc⟩ := he
    refine ⟨e, o, rfl, ho, hc, wpAny_pure (hR h' s.toks acc c (fun b o _ b2 _ b4 _ q => kp b o b2 b4 q) (kp S _ hSz hSi1 hS) (hacc.mono fun c o hc q => kp c o (fun e => ?_) (fun e => ?_) q))⟩
    · rw [e] at hc; exact absurd hB.1 (Nat.not_lt.mpr hc)
    · rw [e] at hc; exact absurd hB.2.2.1 (Nat.not_lt.mpr hc)
  | succ k ih =>
    intro i s acc c T f1 hk hi hz hT hBT hTI hTO s1 s2 hsz hS hacc hR
    have hlt : i < n := by omega
    obtain ⟨oT, hT⟩ := hT
    obtain ⟨ta, tb, hTO⟩ := hTO
    refine codeAny_builtin PySem.F.entry_extend_loop ?_
    rw [Around.under_plainId PySem.F.plain_extend_loop _]
    show wpAny _ A.in1 (pyNext (.ref z) >>= _) _ _ s
    refine wpAny_bind (next_zip hz (wpAny_mono (zip_item_more D1 D2 D hz hT hTI hTO s1 hlt s2 hlt fun x y h' tk px py hz' s1' s2' hp hsz' kp => ?_) (fun _ _ q => q) fun _ _ q => q))
    have hS' := kp S _ hSz hSi1 hSi2 hS
    show wpAny _ A.in1 (updateSeq S (·.push (.ref s.heap.objs.size)) >>= _) _ _ _
    refine wpAny_bind ?_
    have oth : ∀ b o, b ≠ S → h'.get? b = some o → (h'.update S (Obj.mapSeq (·.push (Value.ref s.heap.objs.size)))).get? b = some o := fun b o hb e => (Heap.get?_update_other _ _ (Ne.symm hb)).trans e
    have ltS : ∀ b, B ≤ b → b ≠ S := fun b hb e => by rw [e] at hb; exact absurd hB.2.2.2.2 (Nat.not_lt.mpr hb)
    refine wpAny_updateSeq (s := { s with heap := h', toks := tk }) hS' rfl (wpAny_pure ⟨plainId_quiet PySem.F.plain_extend_loop _, ih (i + 1) _ (acc.push (.ref s.heap.objs.size)) _ T true (by omega) hlt (oth _ _ (Ne.symm hSz) hz') ⟨oT, oth _ _ (ltS T hBT) (kp T _ (fun e => ?_) (fun e => ?_) (fun e => ?_) hT)⟩ hBT
      (oth _ _ (Ne.symm hSI) (kp TI _ D.TIz D.TIi1 D.TIi2 hTI)) ⟨ta, tb, oth _ _ (Ne.symm hSO) (kp TO _ D.TOz D.TOi1 D.TOi2 hTO)⟩ (D1.frame _ _ _ s1' fun b hb o e => oth b o (fun q => hS1 (q ▸ hb)) e) (D2.frame _ _ _ s2' fun b hb o e => oth b o (fun q => hS2 (q ▸ hb)) e) ?_ (Heap.get?_update_self _ hS' rfl) ?_ ?_⟩)
      (by rw [hacc.1]; omega) (by show (acc.push (Value.ref s.heap.objs.size)).size ≤ sizeLine + 1; rw [Array.size_push, hacc.1]; omega)
    · rw [e] at hBT; exact absurd hB.1 (Nat.not_lt.mpr hBT)
    · rw [e] at hBT; exact absurd hB.2.2.1 (Nat.not_lt.mpr hBT)
    · rw [e] at hBT; exact absurd hB.2.2.2.1 (Nat.not_lt.mpr hBT)
    · show B ≤ (h'.update S (Obj.mapSeq (·.push (Value.ref s.heap.objs.size)))).objs.size
      rw [show (h'.update S (Obj.mapSeq (·.push (Value.ref s.heap.objs.size)))).objs.size = h'.objs.size from (Heap.SameBut.update ..).1, hsz']
      exact Nat.le_succ_of_le hsz
    · have g1 : ZItems P1 P2 B acc i h' := hacc.mono fun c o hc q => kp c o (fun e => by rw [e] at hc; exact absurd hB.1 (Nat.not_lt.mpr hc)) (fun e => by rw [e] at hc; exact absurd hB.2.2.1 (Nat.not_lt.mpr hc)) (fun e => by rw [e] at hc; exact absurd hB.2.2.2.1 (Nat.not_lt.mpr hc)) q
      exact (g1.push hsz hp px py fun j v e ev => by
        obtain ⟨T', _, _, e1, _, e2, _⟩ := hacc.2.1 j v e
        rw [ev] at e1
        injection e1 with e1
        exact absurd (Heap.lt_size e2) (by rw [← e1]; exact Nat.lt_irrefl _)).mono fun c o hc q => oth c o (ltS c hc) q
    · exact fun h2 tk2 acc' c' kp2 hS2' it2 => hR h2 tk2 acc' c' (fun b o b1 b2 b3 b4 b5 q => kp2 b o b1 b2 b3 b4 b5 (oth b o b1 (kp b o b2 b4 b5 q))) hS2' it2
/-- the first turn: the owned tuple goes out -/
theorem zip_loop0 (D1 : Draws prog w A.in1.in1 i1 fp1 n P1 S1) (D2 : Draws prog w A.in1.in1 i2 fp2 n P2 S2) (D : ZAp z TI TO i1 i2 fp1 fp2) (hn : n ≤ sizeLine) (h1n : 0 < n) (S : Addr) (hS1 : S ∉ fp1) (hS2 : S ∉ fp2) (hSz : S ≠ z) (hSI : S ≠ TI) (hSO : S ≠ TO) (hSi1 : S ≠ i1) (hSi2 : S ≠ i2) (res : Value) {s : Shared} {c : Nat} {ta tb : Value}
    (hz : ZipF s.heap z TI TO .none false) (hTI : IsPair s.heap TI (.ref i1) (.ref i2)) (hTO : IsPair s.heap TO ta tb) (s1 : S1 0 s.heap) (s2 : S2 0 s.heap) (hS : s.heap.get? S = some { cls := .type "list", dict := none, data := .seq #[] c, slots := #[] })
    (hR : ∀ h' tk acc' c', (∀ b o, b ≠ S → b ≠ z → b ≠ TO → b ≠ i1 → b ≠ i2 → s.heap.get? b = some o → h'.get? b = some o) → h'.get? S = some { cls := .type "list", dict := none, data := .seq acc' c', slots := #[] } → ZItems P1 P2 s.heap.objs.size acc' n h' → R (.ok (.ret res)) { s with heap := h', toks := tk }) :
    codeAny (model prog w) A (.builtin "list.extend.loop" ⟨[.ref S, .ref z, res], []⟩) R s := by
  have lz := Heap.lt_size hz
  have lO := Heap.lt_size hTO
  have lS := Heap.lt_size hS
  have l1 : i1 < s.heap.objs.size := by obtain ⟨o, e⟩ := D1.live _ _ s1; exact Heap.lt_size e
  have l2 : i2 < s.heap.objs.size := by obtain ⟨o, e⟩ := D2.live _ _ s2; exact Heap.lt_size e
  refine codeAny_builtin PySem.F.entry_extend_loop ?_
  rw [Around.under_plainId PySem.F.plain_extend_loop _]
  show wpAny _ A.in1 (pyNext (.ref z) >>= _) _ _ s
  refine wpAny_bind (next_zip hz (wpAny_mono (zip_item_first D1 D2 D hz hTI hTO s1 h1n s2 h1n fun x y h' tk px py hz' hTO' s1' s2' hp hsz' kp => ?_) (fun _ _ q => q) fun _ _ q => q))
  have hS' := kp S _ hSz hSO hSi1 hSi2 hS
  show wpAny _ A.in1 (updateSeq S (·.push (.ref s.heap.objs.size)) >>= _) _ _ _
  refine wpAny_bind ?_
  have oth : ∀ b o, b ≠ S → h'.get? b = some o → (h'.update S (Obj.mapSeq (·.push (Value.ref s.heap.objs.size)))).get? b = some o := fun b o hb e => (Heap.get?_update_other _ _ (Ne.symm hb)).trans e
  have neS : s.heap.objs.size ≠ S := Nat.ne_of_gt lS
  have szU : (h'.update S (Obj.mapSeq (·.push (Value.ref s.heap.objs.size)))).objs.size = s.heap.objs.size + 1 := by
    rw [show (h'.update S (Obj.mapSeq (·.push (Value.ref s.heap.objs.size)))).objs.size = h'.objs.size from (Heap.SameBut.update ..).1, hsz']
  have it1 : ZItems P1 P2 s.heap.objs.size (#[].push (Value.ref s.heap.objs.size)) 1 (h'.update S (Obj.mapSeq (·.push (Value.ref s.heap.objs.size)))) := by
    have g0 : ZItems P1 P2 s.heap.objs.size #[] 0 h' := ⟨rfl, fun j v e => by simp at e, fun j j' v e => by simp at e⟩
    exact (g0.push (Nat.le_refl _) hp px py fun j v e => by simp at e).mono fun c o hc q => oth c o (fun e => by rw [e] at hc; exact absurd lS (Nat.not_lt.mpr hc)) q
  refine wpAny_updateSeq (s := { s with heap := h', toks := tk }) hS' rfl (wpAny_pure ⟨plainId_quiet PySem.F.plain_extend_loop _, zip_loop D1 D2 D hn S s.heap.objs.size hS1 hS2 hSz hSI hSO hSi1 hSi2 res ⟨lz, lO, l1, l2, lS⟩ (n - 1) 1 _ (#[].push (.ref s.heap.objs.size)) _ s.heap.objs.size false (by omega) h1n (oth _ _ (Ne.symm hSz) hz') ⟨_, oth _ _ neS hp⟩ (Nat.le_refl _)
      (oth _ _ (Ne.symm hSI) (kp TI _ D.TIz D.TITO D.TIi1 D.TIi2 hTI)) ⟨x, y, oth _ _ (Ne.symm hSO) hTO'⟩ (D1.frame _ _ _ s1' fun b hb o e => oth b o (fun q => hS1 (q ▸ hb)) e) (D2.frame _ _ _ s2' fun b hb o e => oth b o (fun q => hS2 (q ▸ hb)) e) (by rw [szU]; exact Nat.le_succ _) (Heap.get?_update_self _ hS' rfl) it1 ?_⟩)
      (by show (#[] : Array Value).size ≤ _; exact Nat.zero_le _) (by show 1 ≤ sizeLine + 1; exact Nat.le_add_left _ _)
  exact fun h2 tk2 acc' c' kp2 hS2' it2 => hR h2 tk2 acc' c' (fun b o b1 b2 b3 b4 b5 q => kp2 b o b1 b2 b3 b4 b5 (oth b o b1 (kp b o b2 b3 b4 b5 q))) hS2' it2
end
theorem zip_no_len : typeLookup (.type "zip") "__len__" = pure none := by rw [typeLookup_type, builtinLookup_eq_fast]; kernel_rfl
theorem zip_no_hint : typeLookup (.type "zip") "__length_hint__" = pure none := by rw [typeLookup_type, builtinLookup_eq_fast]; kernel_rfl
section
variable {prog : Program} {w : World} {A : Around} {E : Value → Shared → Prop} {s : Shared} {z TI TO i1 i2 : Addr} {fp1 fp2 : List Addr} {n : Nat} {P1 P2 : Nat → Value → Prop} {S1 S2 : Nat → Heap → Prop}
theorem iter_zip {Q : Value → Shared → Prop} {f0 : Value} {f1 : Bool} (hz : ZipF s.heap z TI TO f0 f1) (h : Q (.ref z) s) : wpAny (model prog w) A (pyIter (.ref z)) Q E s := by
  have hT : s.TypeIs (.ref z) "zip" := ⟨_, hz, rfl⟩
  refine wpAny_pyIter_slot hT PySem.F.slot_zip_iter (wpAny_call_entry PySem.F.slot_zip_iter hT PySem.F.entry_zip_iter ?_ (PySem.F.args_zip_iter_1 _))
  show wpAny _ _ (ret (.ref z)) _ _ s
  exact wpAny_pure ⟨_, rfl, "zip", _, hT, PySem.F.slot_zip_next.lookup, h⟩
theorem call_list_zip {Q : Value → Shared → Prop} {ta tb : Value} (D1 : Draws prog w A.in1.in1.in1 i1 fp1 n P1 S1) (D2 : Draws prog w A.in1.in1.in1 i2 fp2 n P2 S2) (D : ZAp z TI TO i1 i2 fp1 fp2) (hn : n ≤ sizeLine) (h1n : 0 < n)
    (lf1 : ∀ b ∈ fp1, b < s.heap.objs.size) (lf2 : ∀ b ∈ fp2, b < s.heap.objs.size) (hz : ZipF s.heap z TI TO .none false) (hTI : IsPair s.heap TI (.ref i1) (.ref i2)) (hTO : IsPair s.heap TO ta tb) (s1 : S1 0 s.heap) (s2 : S2 0 s.heap)
    (k : ∀ h' tk acc' c', (∀ b o, b ≠ z → b ≠ TO → b ≠ i1 → b ≠ i2 → s.heap.get? b = some o → h'.get? b = some o) → h'.get? s.heap.objs.size = some { cls := .type "list", dict := none, data := .seq acc' c', slots := #[] } → ZItems P1 P2 (s.heap.objs.size + 1) acc' n h' → Q (.ref s.heap.objs.size) { s with heap := h', toks := tk }) :
    wpAny (model prog w) A (call (.type "list") [.ref z]) Q E s := by
  have lz := Heap.lt_size hz
  have lI := Heap.lt_size hTI
  have lO := Heap.lt_size hTO
  have l1 : i1 < s.heap.objs.size := by obtain ⟨o, e⟩ := D1.live _ _ s1; exact Heap.lt_size e
  have l2 : i2 < s.heap.objs.size := by obtain ⟨o, e⟩ := D2.live _ _ s2; exact Heap.lt_size e
  refine callType_codes (Q₁ := fun obj t => obj = .ref s.heap.objs.size ∧ t = { s with heap := s.heap.push { cls := .type "list", data := .seq #[] } }) PySem.F.called_list (PySem.F.typeCall_list_1 _) PySem.F.entry_list_init (code_list_new _ ⟨rfl, rfl⟩) fun obj t ht => ?_
  obtain ⟨rfl, rfl⟩ := ht
  have hS : (s.heap.push { cls := .type "list", data := .seq #[] }).get? s.heap.objs.size = some { cls := .type "list", data := .seq #[] } := Heap.get?_push_size _ rfl
  have up : ∀ b o, s.heap.get? b = some o → (s.heap.push { cls := .type "list", data := .seq #[] }).get? b = some o := fun b o e => Heap.get?_push_of_some _ e
  refine ⟨⟨_, hS, rfl⟩, PySem.F.args_list_init_2 _ _, ?_⟩
  have szP : (s.heap.push { cls := .type "list", data := .seq #[] }).objs.size = s.heap.objs.size + 1 := Heap.size_push ..
  have hSz : s.heap.objs.size ≠ z := Nat.ne_of_gt lz
  generalize hg : s.heap.push { cls := .type "list", data := .seq #[] } = g at *
  generalize hS0 : s.heap.objs.size = S at *
  show wpAny _ A.in1.in1 (do let old ← Builtin.List.listItems (.ref S); Builtin.List.listUpdate (.ref S) (fun _ => #[]); letGo old.toList.reverse; Builtin.List.listExtendWith (.ref S) (.ref z) .none) _ _ _
  refine wpAny_bind ?_
  unfold Builtin.List.listItems
  refine wpAny_bind (wpAny_seqItems (s := { s with heap := g }) hS rfl (wpAny_pure ?_))
  show wpAny _ A.in1.in1 (updateSeq S (fun _ => #[]) >>= fun _ => letGo (#[] : Array Value).toList.reverse >>= fun _ => Builtin.List.listExtendWith (.ref S) (.ref z) .none) _ _ _
  refine wpAny_bind (wpAny_updateSeq (s := { s with heap := g }) hS rfl (wpAny_bind (wpAny_letGo ?_)))
  have hS2 := Heap.get?_update_self (Obj.mapSeq (fun _ => (#[] : Array Value))) hS rfl
  have o2 : ∀ b o, b ≠ S → g.get? b = some o → (g.update S (Obj.mapSeq (fun _ => (#[] : Array Value)))).get? b = some o := fun b o hb e => (Heap.get?_update_other _ _ (Ne.symm hb)).trans e
  have sz2 : (g.update S (Obj.mapSeq (fun _ => (#[] : Array Value)))).objs.size = S + 1 := by rw [show (g.update S (Obj.mapSeq (fun _ => (#[] : Array Value)))).objs.size = g.objs.size from (Heap.SameBut.update ..).1, szP]
  generalize g.update S (Obj.mapSeq (fun _ => (#[] : Array Value))) = g2 at *
  have hz2 : ZipF g2 z TI TO .none false := o2 _ _ (Ne.symm hSz) (up _ _ hz)
  have hTy : Shared.TypeIs { s with heap := g2 } (.ref z) "zip" := ⟨_, hz2, rfl⟩
  unfold Builtin.List.listExtendWith
  refine wpAny_bind (wpAny_typeOf hTy ?_)
  have q1 : Builtin.List.listSameRef (.ref S) (.ref z) = false := by simp [Builtin.List.listSameRef, hSz]
  have q2 : (Value.type "zip" == Value.type "list") = false := by decide
  have q3 : (Value.type "zip" == Value.type "tuple") = false := by decide
  simp only [q1, q2, q3, Bool.or_false, Bool.false_eq_true, if_false]
  refine wpAny_bind (iter_zip (s := { s with heap := g2 }) hz2 (wpAny_bind (wpAny_holding ?_)))
  unfold Builtin.List.listLengthHint
  refine wpAny_bind (wpAny_specialOf hTy zip_no_len ?_)
  show wpAny _ A.in1.in1 (specialOf (Value.ref z) (Str.ofString "__length_hint__") >>= _) _ _ _
  refine wpAny_bind (wpAny_specialOf hTy zip_no_hint (wpAny_pure ?_))
  show wpAny _ A.in1.in1 (rule "list.extend.makes-room" >>= fun _ => Builtin.List.listTouch (.ref S) >>= fun _ => again (.builtin "list.extend.loop" ⟨[.ref S, .ref z, .none], []⟩)) _ _ _
  refine wpAny_bind (wpAny_rule (wpAny_bind ?_))
  show wpAny _ A.in1.in1 (updateSeq S (·.push .none) >>= fun _ => updateSeq S (·.pop)) _ _ _
  refine wpAny_bind (wpAny_updateSeq (s := { s with heap := g2 }) hS2 rfl ?_)
  have hS3 := Heap.get?_update_self (Obj.mapSeq (·.push Value.none)) hS2 rfl
  refine wpAny_updateSeq (hz := by seq_fits) hS3 rfl ?_
  have hS4 := Heap.get?_update_self (Obj.mapSeq (·.pop)) hS3 rfl
  have o4 : ∀ b o, b ≠ S → g2.get? b = some o → ((g2.update S (Obj.mapSeq (·.push Value.none))).update S (Obj.mapSeq (·.pop))).get? b = some o := fun b o hb e => (Heap.get?_update_other _ _ (Ne.symm hb)).trans ((Heap.get?_update_other _ _ (Ne.symm hb)).trans e)
  have sz4 : ((g2.update S (Obj.mapSeq (·.push Value.none))).update S (Obj.mapSeq (·.pop))).objs.size = S + 1 := by
    rw [show ((g2.update S (Obj.mapSeq (·.push Value.none))).update S (Obj.mapSeq (·.pop))).objs.size = (g2.update S (Obj.mapSeq (·.push Value.none))).objs.size from (Heap.SameBut.update ..).1, show (g2.update S (Obj.mapSeq (·.push Value.none))).objs.size = g2.objs.size from (Heap.SameBut.update ..).1, sz2]
  have all : ∀ b o, b ≠ S → s.heap.get? b = some o → ((g2.update S (Obj.mapSeq (·.push Value.none))).update S (Obj.mapSeq (·.pop))).get? b = some o := fun b o hb e => o4 b o hb (o2 b o hb (up b o e))
  refine wpAny_pure ⟨plainId_quiet PySem.F.plain_extend_loop _, zip_loop0 (A := A.in1) D1 D2 D hn h1n S (fun m => Nat.lt_irrefl _ (lf1 _ m)) (fun m => Nat.lt_irrefl _ (lf2 _ m)) hSz (Nat.ne_of_gt lI) (Nat.ne_of_gt lO) (Nat.ne_of_gt l1) (Nat.ne_of_gt l2) .none
    (all _ _ (Ne.symm hSz) hz) (all _ _ (Nat.ne_of_lt lI) hTI) (all _ _ (Nat.ne_of_lt lO) hTO) (D1.frame _ _ _ s1 fun b hb o e => all b o (Nat.ne_of_lt (lf1 b hb)) e) (D2.frame _ _ _ s2 fun b hb o e => all b o (Nat.ne_of_lt (lf2 b hb)) e) hS4 fun h' tk acc' c' kp e it => ?_⟩
  refine ⟨rfl, k h' tk acc' c' (fun b o b1 b2 b3 b4 q => ?_) e (by rw [← sz4]; exact it)⟩
  have hb : b ≠ S := fun e => by rw [e, ← hS0] at q; exact Nat.lt_irrefl _ (Heap.lt_size q)
  exact kp b o hb b1 b2 b3 b4 (all b o hb q)
end
/-! ### zip(tuple, list) -/
abbrev zA (h : Heap) (t : Addr) : Heap := h.push { cls := .type "tuple_iterator", data := .fields #[.ref t, .int 0 0] }
abbrev zB (h : Heap) (t l : Addr) : Heap := (zA h t).push { cls := .type "list_iterator", data := .fields #[.ref l, .int 0 0] }
abbrev zC (h : Heap) (t l : Addr) : Heap := (zB h t l).push { cls := .type "tuple", data := .seq #[.ref h.objs.size, .ref (zA h t).objs.size] }
abbrev zD (h : Heap) (t l : Addr) : Heap := (zC h t l).push { cls := .type "tuple", data := .seq #[.none, .none] }
abbrev zE (h : Heap) (t l : Addr) : Heap := (zD h t l).push { cls := .type "zip", data := .fields #[.none, .bool false, .bool false, .ref (zB h t l).objs.size, .ref (zC h t l).objs.size] }
theorem meets_zip_tl (t l : Addr) (xs ys : Array Value) :
    Meets (Builtin.«zip.__new__» ⟨[.type "zip", .ref t, .ref l], []⟩) (fun _ R s => IsTup s.heap t xs ∧ s.heap.IsList l ys ∧ R (.ok (.ret (.ref (zD s.heap t l).objs.size))) { s with heap := zE s.heap t l }) :=
  .of_wp fun prog w A R s h => by
    obtain ⟨hp, g, d, tk, os⟩ := s; obtain ⟨ht, hl, h⟩ := h
    have hsub := sub_zip
    have hT : IsTup (Shared.heap ⟨hp, g, d, tk, os⟩) t xs := ht
    have hL : Heap.IsList (Shared.heap ⟨hp.push { cls := .type "tuple_iterator", data := .fields #[.ref t, .int 0 0] }, g, d, tk, os⟩) l ys := Heap.IsList.push hl _
    wp_walk using iter_tup hT, wpAny_pyIter_list hL
    exact ⟨_, rfl, h⟩
section
variable {prog : Program} {w : World} {A : Around} {E : Value → Shared → Prop} {s : Shared}
theorem call_zip_tl {t l : Addr} {xs ys : Array Value} {Q : Value → Shared → Prop} (ht : IsTup s.heap t xs) (hl : s.heap.IsList l ys)
    (k : ∀ h', ZipF h' (s.heap.objs.size + 4) (s.heap.objs.size + 2) (s.heap.objs.size + 3) .none false → IsPair h' (s.heap.objs.size + 2) (.ref s.heap.objs.size) (.ref (s.heap.objs.size + 1)) → IsPair h' (s.heap.objs.size + 3) .none .none →
      IsTupIter h' s.heap.objs.size t 0 → h'.IsListIter (s.heap.objs.size + 1) l 0 → h'.objs.size = s.heap.objs.size + 5 → (∀ c o, s.heap.get? c = some o → h'.get? c = some o) → Q (.ref (s.heap.objs.size + 4)) { s with heap := h' }) :
    wpAny (model prog w) A (call (.type "zip") [.ref t, .ref l]) Q E s := by
  refine callType_new PySem.F.called_zip (by decide) (PySem.F.typeCall_zip_2 _ _) (PySem.F.newCall_zip_2 _ _) (fun obj => PySem.F.args_object_init_3 obj _ _) PySem.F.entry_zip_new (meets_zip_tl t l xs ys) ⟨ht, hl, ?_⟩
  have y1 : (zA s.heap t).objs.size = s.heap.objs.size + 1 := Heap.size_push ..
  have y2 : (zB s.heap t l).objs.size = s.heap.objs.size + 2 := by rw [Heap.size_push, y1]
  have y3 : (zC s.heap t l).objs.size = s.heap.objs.size + 3 := by rw [Heap.size_push, y2]
  have y4 : (zD s.heap t l).objs.size = s.heap.objs.size + 4 := by rw [Heap.size_push, y3]
  have y5 : (zE s.heap t l).objs.size = s.heap.objs.size + 5 := by rw [Heap.size_push, y4]
  have g5 : (zE s.heap t l).get? (zD s.heap t l).objs.size = some _ := Heap.get?_push_size _ rfl
  have g4 : (zE s.heap t l).get? (zC s.heap t l).objs.size = some _ := Heap.get?_push_of_some _ (Heap.get?_push_size _ rfl)
  have g3 : (zE s.heap t l).get? (zB s.heap t l).objs.size = some _ := Heap.get?_push_of_some _ (Heap.get?_push_of_some _ (Heap.get?_push_size _ rfl))
  have g2 : (zE s.heap t l).get? (zA s.heap t).objs.size = some _ := Heap.get?_push_of_some _ (Heap.get?_push_of_some _ (Heap.get?_push_of_some _ (Heap.get?_push_size _ rfl)))
  have g1 : (zE s.heap t l).get? s.heap.objs.size = some _ := Heap.get?_push_of_some _ (Heap.get?_push_of_some _ (Heap.get?_push_of_some _ (Heap.get?_push_of_some _ (Heap.get?_push_size _ rfl))))
  show _ ∧ _
  rw [y2, y3, y4] at g5
  rw [y1, y2] at g3
  rw [y3] at g4
  rw [y1] at g2
  rw [y4]
  exact ⟨⟨_, g5, rfl⟩, k _ g5 g3 g4 ⟨_, g1, rfl, rfl⟩ ⟨_, g2, rfl, rfl⟩ y5 fun c o x => Heap.get?_push_of_some _ (Heap.get?_push_of_some _ (Heap.get?_push_of_some _ (Heap.get?_push_of_some _ (Heap.get?_push_of_some _ x))))⟩
end
/-- many new tuples are laid and tracked at once -/
def updT (H : Hp) : List (Addr × List V) → Hp
  | [] => H
  | (T, vs) :: r => upd (updT H r) T (.tup vs)
theorem updT_at {H : Hp} : ∀ {ts : List (Addr × List V)} {T : Addr} {vs : List V}, (ts.map (·.1)).Nodup → (T, vs) ∈ ts → updT H ts T = some (.tup vs)
  | [], _, _, _, m => by simp at m
  | (U, us) :: r, T, vs, nd, m => by
    have nd' : U ∉ r.map (·.1) ∧ (r.map (·.1)).Nodup := List.nodup_cons.mp nd
    rcases List.mem_cons.mp m with e | m
    · cases e; exact upd_same
    · have : T ≠ U := fun e => nd'.1 (e ▸ List.mem_map.mpr ⟨_, m, rfl⟩)
      show upd (updT H r) U (.tup us) T = _
      rw [upd_ne this]; exact updT_at nd'.2 m
theorem updT_old {H : Hp} : ∀ {ts : List (Addr × List V)} {b : Addr}, b ∉ ts.map (·.1) → updT H ts b = H b
  | [], _, _ => rfl
  | (U, us) :: r, b, m => by
    have m' : b ≠ U ∧ b ∉ r.map (·.1) := by simpa using m
    show upd (updT H r) U (.tup us) b = _
    rw [upd_ne m'.1]; exact updT_old m'.2
theorem refs_of : ∀ l : List Value, (∀ v ∈ l, ∃ T, v = Value.ref T) → ∃ ts : List Addr, l = ts.map Value.ref
  | [], _ => ⟨[], rfl⟩
  | v :: r, h => by
    obtain ⟨T, rfl⟩ := h v (List.mem_cons_self ..)
    obtain ⟨ts, e⟩ := refs_of r fun v m => h v (List.mem_cons_of_mem _ m)
    exact ⟨T :: ts, by rw [e]; rfl⟩
theorem vals_refs : ∀ ts : List Addr, Vals (ts.map V.ref) (ts.map Value.ref)
  | [] => .nil
  | _ :: r => .cons rfl (vals_refs r)
theorem nodup_of_ix {α : Type} : ∀ {l : List α}, (∀ (i j : Nat) (x : α), l[i]? = some x → l[j]? = some x → i = j) → l.Nodup
  | [], _ => List.nodup_nil
  | a :: r, h => by
    refine List.nodup_cons.mpr ⟨fun m => ?_, nodup_of_ix fun i j x hi hj => by have := h (i + 1) (j + 1) x (by simpa using hi) (by simpa using hj); omega⟩
    obtain ⟨i, hi⟩ := List.mem_iff_getElem?.mp m
    have := h 0 (i + 1) a rfl (by simpa using hi)
    omega
/-- new tuples and a new list of them, tracked at once -/
theorem Inv.laidTs {X : Cx} {pins : List (Addr × Obj)} {σ : St} {H : Hp} {s : Shared} {h' : Heap} {t' : Nat} {ps : List (Addr × List V)} {l : Addr} (I : Inv X pins σ H s) (k : ∀ b u, s.heap.get? b = some u → h'.get? b = some u) (nd : (ps.map (·.1)).Nodup)
    (hp : ∀ p ∈ ps, s.heap.objs.size ≤ p.1 ∧ p.2.length ≤ sizeLine ∧ ∃ its, Vals p.2 its ∧ IsTupD h' p.1 its.toArray) (hl : s.heap.objs.size ≤ l) (hlp : l ∉ ps.map (·.1)) {ys : List V} (hy : ys.length ≤ sizeLine) {its : List Value} {c : Nat} (vy : Vals ys its)
    (el : h'.get? l = some { cls := .type "list", data := .seq its.toArray c }) : Inv X pins σ (upd (updT H ps) l (.lst ys)) { s with heap := h', toks := t' } := by
  have old : ∀ b, b < s.heap.objs.size → (upd (updT H ps) l (.lst ys)) b = H b := fun b hb => by
    rw [upd_ne (Nat.ne_of_lt (Nat.lt_of_lt_of_le hb hl)), updT_old fun m => ?_]
    obtain ⟨p, mp, e⟩ := List.mem_map.mp m
    exact absurd hb (Nat.not_lt.mpr (e ▸ (hp p mp).1))
  have oldH : ∀ b o, H b = some o → (upd (updT H ps) l (.lst ys)) b = some o := fun b o e => (old b (I.hok.lt e)).trans e
  refine I.un ⟨fun b o q _ _ _ => k b o q, fun b o q _ _ _ => ⟨o.slots, k b o q⟩, fun b o q n _ => (old b (Heap.lt_size q)).trans n, fun b o q _ => ⟨o, k b o q⟩, fun b xs q => oldH b _ q, fun b o u q => oldH b _ q, fun b ts q => ⟨#[], by rw [oldH b _ q]; simp⟩⟩ ?_
  intro b o e
  by_cases hb : b = l
  · subst hb
    rw [upd_same] at e
    cases e
    exact ⟨hy, its, c, vy, el⟩
  rw [upd_ne hb] at e
  by_cases hm : b ∈ ps.map (·.1)
  · obtain ⟨⟨T, vs⟩, mp, rfl⟩ := List.mem_map.mp hm
    rw [updT_at nd mp] at e
    cases e
    obtain ⟨_, z, it, r, p⟩ := hp _ mp
    exact ⟨z, it, r, p⟩
  · rw [updT_old hm] at e
    exact (I.hok b o e).stay (fun c v _ q => k c v q) (fun c q => oldH c _ q) fun c xs q => oldH c _ q
/-- list(zip(t, l)), a tuple and a list of one length, one or more -/
def tLZip (K : PySem.W.Frag) (t : TA) : TE := fun σ H Q => t σ H fun vs H1 => ∃ (a b : Addr) (xs ys : List V), vs = [.ref a, .ref b] ∧ SqT K H1 a xs ∧ SqL K H1 b ys ∧ xs.length = ys.length ∧ 0 < xs.length ∧
  ∀ (l : Addr) (ts : List Addr) (H2 : Hp), H1 l = none → ts.length = xs.length → (∀ T ∈ ts, H1 T = none) → H2 l = some (.lst (ts.map V.ref)) → (∀ (i : Nat) (T : Addr) (x y : V), ts[i]? = some T → xs[i]? = some x → ys[i]? = some y → H2 T = some (.tup [x, y])) → Same H1 H2 → Q (.ref l) H2
theorem boot_list9 : bootBuiltins "list" = some (.type "list") := by decide +kernel
theorem pe_lzip {X : Cx} {e1 e2 : Expr} {t : TA} {p p2 pos pos2 : Pos} (hc : X.calm = true) (hgL : Gl X "list") (hmL : X.mg "list" = none) (hgZ : Gl X "zip") (hmZ : X.mg "zip" = none) (ha : PA X [e1, e2] t)
    (hs : starEach [e1, e2] X.env = (false, eval e1 X.env) :: starEach [e2] X.env := by rfl) (hpl : (backTo pos2 (starEach [e2] X.env)).any (·.1) = false := by rfl)
    (hs0 : starEach [.Call (.Name "zip" p2) [e1, e2] [] pos2] X.env = [(false, eval (.Call (.Name "zip" p2) [e1, e2] [] pos2) X.env)] := by rfl) :
    PE X (.Call (.Name "list" p) [.Call (.Name "zip" p2) [e1, e2] [] pos2] [] pos) (tLZip X.K t) := by
  intro pins s σ H Q I h
  refine wpAny_Call_Name_kw (ld_blt I hgL hmL boot_list9 (PyProof.Rows.callWith_type1 ?_ hs0 rfl))
  rw [hs0]
  refine Calls.spliced_cons (wpAny_Call_Name_kw (ld_blt I hgZ hmZ boot_zip5 (PyProof.Rows.callWith_type1 (thn (ha pos2 pins s σ H _ I h) fun us s1 ⟨vs, H1, I1, r1, q1⟩ => ?_) hs hpl)))
  obtain ⟨a, b, xs, ys, ex, hx, hy, hlen, hpos, q⟩ := q1
  subst ex
  obtain ⟨u, u', rfl, ra, rb⟩ := vals2 r1
  cases ra
  cases rb
  obtain ⟨its, rv, pa, hz⟩ := I1.tuple hx
  obtain ⟨its2, rv2, pb, hz2⟩ := I1.list hy
  have la : a < s1.heap.objs.size := pa.lt
  have lb : b < s1.heap.objs.size := pb.lt
  have e1 := rv.length
  have e2 := rv2.length
  refine call_zip_tl pa pb.isList fun h' hz' hTI hTO it1 it2 hsz kp => Calls.spliced_nil ?_
  have hh := I1.ok.hd hc
  have nA : ∀ k : Nat, a ≠ s1.heap.objs.size + k := fun k => Nat.ne_of_lt (Nat.lt_of_lt_of_le la (Nat.le_add_right _ _))
  have nB : ∀ k : Nat, b ≠ s1.heap.objs.size + k := fun k => Nat.ne_of_lt (Nat.lt_of_lt_of_le lb (Nat.le_add_right _ _))
  have nn : ∀ j k : Nat, j ≠ k → s1.heap.objs.size + j ≠ s1.heap.objs.size + k := fun j k h e => h (Nat.add_left_cancel e)
  have n0 : ∀ k : Nat, 0 < k → s1.heap.objs.size ≠ s1.heap.objs.size + k := fun k hk => Nat.ne_of_lt (Nat.lt_add_of_pos_right hk)
  have mA : ∀ k : Nat, 0 < k → s1.heap.objs.size + k ∉ [s1.heap.objs.size, a] := fun k hk m => by
    rcases List.mem_cons.mp m with e | m
    · exact n0 k hk e.symm
    · rcases List.mem_cons.mp m with e | m
      · exact nA k e.symm
      · cases m
  have mB : ∀ k : Nat, k ≠ 1 → s1.heap.objs.size + k ∉ [s1.heap.objs.size + 1, b] := fun k hk m => by
    rcases List.mem_cons.mp m with e | m
    · exact nn k 1 hk e
    · rcases List.mem_cons.mp m with e | m
      · exact nB k e.symm
      · cases m
  have D : ZAp (s1.heap.objs.size + 4) (s1.heap.objs.size + 2) (s1.heap.objs.size + 3) s1.heap.objs.size (s1.heap.objs.size + 1) [s1.heap.objs.size, a] [s1.heap.objs.size + 1, b] :=
    ⟨nn 2 4 (by decide), nn 3 4 (by decide), n0 4 (by decide), nn 1 4 (by decide), nn 2 3 (by decide), (n0 2 (by decide)).symm, nn 2 1 (by decide), (n0 3 (by decide)).symm, nn 3 1 (by decide), n0 1 (by decide),
      mA 4 (by decide), mB 4 (by decide), mA 3 (by decide), mB 3 (by decide), mA 1 (by decide), mB 0 (by decide)⟩
  have hnn : its.toArray.size = xs.length := by simp; omega
  have hnn2 : its2.toArray.size = xs.length := by simp; omega
  have d1 := draws_tup (prog := X.prog) (w := X.w) (A := X.A.in1.in1.in1) hh s1.heap.objs.size a (nA 0) its.toArray
  have d2 := Draws.list (prog := X.prog) (w := X.w) (A := X.A.in1.in1.in1) hh (s1.heap.objs.size + 1) b (nB 1) its2.toArray
  rw [hnn] at d1
  rw [hnn2] at d2
  have I2 : Inv X pins σ H1 { s1 with heap := h' } := I1.kept (t' := s1.toks) kp
  refine call_list_zip d1 d2 D hz hpos ?_ ?_ hz' hTI hTO ⟨it1, pa.keeps kp⟩ ⟨it2, pb.isList.at fun o e => kp _ o e⟩ fun h2 tk acc c' kp2 el it => ?_
  · intro c m
    show c < h'.objs.size
    rw [hsz]
    rcases List.mem_cons.mp m with e | m
    · rw [e]; exact Nat.lt_add_of_pos_right (by decide)
    · rcases List.mem_cons.mp m with e | m
      · rw [e]; exact Nat.lt_of_lt_of_le la (Nat.le_add_right _ _)
      · cases m
  · intro c m
    show c < h'.objs.size
    rw [hsz]
    rcases List.mem_cons.mp m with e | m
    · rw [e]; exact Nat.add_lt_add_left (by decide) _
    · rcases List.mem_cons.mp m with e | m
      · rw [e]; exact Nat.lt_of_lt_of_le lb (Nat.le_add_right _ _)
      · cases m
  obtain ⟨it0, it1', it2'⟩ := it
  obtain ⟨ts, hts⟩ := refs_of acc.toList fun v m => by
    obtain ⟨j, hj⟩ := List.mem_iff_getElem?.mp m
    obtain ⟨T, _, _, e, _⟩ := it1' j v (by simpa using hj)
    exact ⟨T, e⟩
  have hlt : ts.length = xs.length := by
    have := congrArg List.length hts
    rw [List.length_map, Array.length_toList, it0] at this
    exact this.symm
  have at_ts : ∀ (j : Nat) (T : Addr), ts[j]? = some T → acc[j]? = some (Value.ref T) := fun j T e => by
    have : acc.toList[j]? = some (Value.ref T) := by rw [hts, List.getElem?_map, e]; rfl
    simpa using this
  have ndt : ts.Nodup := nodup_of_ix fun i j x hi hj => it2' i j _ (at_ts i x hi) (at_ts j x hj)
  have big : ∀ T ∈ ts, h'.objs.size + 1 ≤ T := fun T m => by
    obtain ⟨j, hj⟩ := List.mem_iff_getElem?.mp m
    obtain ⟨T', _, _, e, hB, _⟩ := it1' j _ (at_ts j T hj)
    injection e with e
    rw [e]; exact hB
  have fst : ((ts.zip ((xs.zip ys).map fun p => [p.1, p.2])).map (·.1)) = ts := List.map_fst_zip (by rw [List.length_map, List.length_zip]; omega)
  have kp3 : ∀ b u, s1.heap.get? b = some u → h2.get? b = some u := fun b u e => by
    have hb := Heap.lt_size e
    exact kp2 b u (Nat.ne_of_lt (Nat.lt_of_lt_of_le hb (Nat.le_add_right _ _))) (Nat.ne_of_lt (Nat.lt_of_lt_of_le hb (Nat.le_add_right _ _))) (Nat.ne_of_lt hb) (Nat.ne_of_lt (Nat.lt_of_lt_of_le hb (Nat.le_add_right _ _))) (kp b u e)
  have leN : s1.heap.objs.size ≤ h'.objs.size := by rw [hsz]; exact Nat.le_add_right _ _
  have pr : ∀ p ∈ ts.zip ((xs.zip ys).map fun p => [p.1, p.2]), s1.heap.objs.size ≤ p.1 ∧ p.2.length ≤ sizeLine ∧ ∃ its, Vals p.2 its ∧ IsTupD h2 p.1 its.toArray := fun p m => by
    obtain ⟨j, hj⟩ := List.mem_iff_getElem?.mp m
    rw [List.getElem?_zip_eq_some] at hj
    obtain ⟨h1, h3⟩ := hj
    rw [List.getElem?_map] at h3
    obtain ⟨⟨x, y⟩, h4, h5⟩ := Option.map_eq_some_iff.mp h3
    rw [List.getElem?_zip_eq_some] at h4
    obtain ⟨hx', hy'⟩ := h4
    obtain ⟨T, x', y', e, hB, hP, p1, p2⟩ := it1' j _ (at_ts j _ h1)
    injection e with e
    obtain ⟨u, hu, ru⟩ := rv.get hx'
    obtain ⟨u2, hu2, ru2⟩ := rv2.get hy'
    have ex : x' = u := by
      have q1 : its.toArray[j]? = some x' := p1
      have q2 : its.toArray[j]? = some u := by simpa using hu
      rw [q1] at q2; exact Option.some.inj q2
    have ey : y' = u2 := by
      have q1 : its2.toArray[j]? = some y' := p2
      have q2 : its2.toArray[j]? = some u2 := by simpa using hu2
      rw [q1] at q2; exact Option.some.inj q2
    subst ex ey
    rw [← h5]
    refine ⟨?_, (by show 2 ≤ sizeLine; decide), [x', y'], .cons ru (.cons ru2 .nil), ⟨_, by rw [e]; exact hP, rfl, rfl, _, rfl⟩⟩
    rw [e]; exact Nat.le_trans leN (Nat.le_of_succ_le hB)
  have nl : h'.objs.size ∉ ts := fun m => Nat.lt_irrefl _ (big _ m)
  have I3 := I1.laidTs (t' := tk) (l := h'.objs.size) (ys := ts.map V.ref) (its := ts.map Value.ref) (c := c') kp3 (by rw [fst]; exact ndt) pr leN (by rw [fst]; exact nl) (by rw [List.length_map, hlt]; exact hz) (vals_refs ts) (by
    have : acc = (ts.map Value.ref).toArray := by rw [← hts]
    rw [← this]; exact el)
  refine ⟨.ref h'.objs.size, _, I3, rfl, q h'.objs.size ts _ (I1.hok.fresh leN) hlt (fun T m => I1.hok.fresh (Nat.le_trans leN (Nat.le_of_succ_le (big T m)))) upd_same (fun i T x y hT hx' hy' => ?_) fun b o e => ?_⟩
  · have mT : T ∈ ts := List.mem_of_getElem? hT
    have ne : T ≠ h'.objs.size := fun e => nl (by rw [← e]; exact mT)
    rw [upd_ne ne]
    refine updT_at (by rw [fst]; exact ndt) (List.mem_of_getElem? (i := i) ?_)
    rw [List.getElem?_zip_eq_some]
    refine ⟨hT, ?_⟩
    rw [List.getElem?_map]
    have : (xs.zip ys)[i]? = some (x, y) := by rw [List.getElem?_zip_eq_some]; exact ⟨hx', hy'⟩
    rw [this]; rfl
  · have hb := I1.hok.lt e
    rw [upd_ne (Nat.ne_of_lt (Nat.lt_of_lt_of_le hb leN)), updT_old (by rw [fst]; exact fun m => Nat.lt_irrefl _ (Nat.lt_of_lt_of_le hb (Nat.le_trans leN (Nat.le_of_succ_le (big _ m)))))]
    exact e
end L2
namespace L2
open PySem PySem.Spec PyProof.Rows
/-! ### the same rules with the written part named (for a comprehension's block) -/
section
variable {X : Cx} {K : PySem.W.Frag}
theorem ix_tupK (h : X.K = K) : IxR X (rIxT K) := h ▸ ix_tup
theorem ix_listK (h : X.K = K) : IxR X (rIxL K) := h ▸ ix_list
theorem call_len_seqK (h : X.K = K) : CallR X (.builtin "len") (fun xs H Q => ∃ p ys, xs = [.ref p] ∧ (SqL K H p ys ∨ SqT K H p ys) ∧ Q (.int ys.length) H) := h ▸ call_len_seq
theorem call_isinstK (h : X.K = K) : CallR X (.builtin "isinstance") (fun xs H Q => ∃ (x : V) (n : String) (t : Value) (b : Bool), xs = [x, .ty n] ∧ TyOf K H x t ∧ PySem.W.kitOne K t (.type n) = some b ∧ Q (.bl b) H) := h ▸ call_isinst
theorem mt_indexTK (h : X.K = K) : MtR X "tuple.index" (rIndexT K) := h ▸ mt_indexT
theorem op_eqDK (h : X.K = K) (hu : X.A.units + 64 < cLine) : OpR X (compareOp .Eq) (rEqD K) := h ▸ op_eqD hu
theorem op_neDK (h : X.K = K) (hu : X.A.units + 64 < cLine) : OpR X (compareOp .NotEq) (rNeD K) := h ▸ op_neD hu
theorem pg_tupK {es : List Expr} {k : Nat} {pos : Pos} {t : TGs} {n : Nat} (h : X.K = K) (hc : X.calm = true) (hp : PGs X es t) (hn : (assignEach es X.env).length = n := by rfl) (hst : (assignEach es X.env).findIdx? (·.1) = none := by rfl) : PG X (.Tuple es k pos) (gTup K n t) := h ▸ pg_tup hc hp hn hst
theorem pe_bmK {o e : Expr} {es : List Expr} {to : TE} {t : TA} {name : Str} {apos cpos : Pos} {T id : String} {r : V → List V → Hp → VK → Prop} (h : X.K = K) (pa : PlainAttrs T) (slot : Slot T name id) (hty : typeOf (.builtin id) = pure (.type "method_descriptor")) (hm : MtR X id r) (ho : PE X o to) (ha : PA X (e :: es) t)
    (hbase : attributeBase o name X.env (eval o X.env) = eval o X.env := by rfl)
    (hfew : ((backTo cpos (starEach (e :: es) X.env)).all (fun x => !x.1) && (backToKw cpos (keywordEach [] X.env)).all (fun x => x.1.isSome) && decide ((e :: es).length + ([] : List Keyword).length + (if ([] : List Keyword).isEmpty then 0 else 1) < 30)) = true := by rfl)
    (hline : (apos.endLine == cpos.line) = true := by rfl) (hs : starEach (e :: es) X.env = (false, eval e X.env) :: starEach es X.env := by rfl) (hplain : (backTo cpos (starEach es X.env)).any (·.1) = false := by rfl) :
    PE X (.Call (.Attribute o name apos) (e :: es) [] cpos) (tBM K T r to t) := h ▸ pe_bm pa slot hty hm ho ha hbase hfew hline hs hplain
end
end L2
namespace L2
open PySem PySem.Spec PyProof.Rows
/-- isinstance(t, T), t any tuple that may be read -/
theorem call_isinstS {X : Cx} {K : PySem.W.Frag} (hK : X.K = K) : CallR X (.builtin "isinstance") (fun xs H Q => ∃ (a : Addr) (ys : List V) (n : String) (b : Bool), xs = [.ref a, .ty n] ∧ SqT K H a ys ∧ PySem.W.kitOne K (.type "tuple") (.type n) = some b ∧ Q (.bl b) H) := by
  subst hK
  intro pins s σ H xs us Q I r h
  obtain ⟨a, ys, n, b, rfl, hq, e, q⟩ := h
  obtain ⟨u, w', rfl, r1, r2⟩ := vals2 r
  cases r1
  cases (show w' = Value.type n from r2)
  obtain ⟨its, _, ⟨o, h1, h2, _⟩, _⟩ := I.tuple hq
  exact PySem.W.kia_one PySem.W.kitx_tuple I.kIn ⟨o, h1, h2⟩ e (fun z => nomatch z) fun tk => ⟨.bl b, H, I.tok _, rfl, q⟩
theorem rep_succ {α : Type} (n : Nat) (a : α) : List.replicate (n + 1) a = List.replicate n a ++ [a] := List.replicate_succ'
theorem rep_bl (n : Nat) : List.replicate n (V.bl true) = (List.replicate n true).map V.bl := by rw [List.map_replicate]
theorem rep_all (n : Nat) : (List.replicate n true).all id = true := by
  rw [List.all_eq_true]
  intro x m
  rw [List.eq_of_mem_replicate m]; rfl
end L2

end
section
set_option Elab.async false
set_option linter.all false
set_option maxRecDepth 100000
namespace L2
open PySem PySem.Spec PyProof.Rows
/-! ### zip(tuple, tuple) in a for -/
section
variable {prog : Program} {w : World} {A : Around} {E : Value → Shared → Prop} {s : Shared} {z TI TO i1 i2 : Addr} {fp1 fp2 : List Addr} {n1 n2 k1 k2 : Nat} {P1 P2 : Nat → Value → Prop} {S1 S2 : Nat → Heap → Prop} {a b : Value}
/-- the first one has ended, no tuple is out -/
theorem zip_end_first {Q : PySem.Fin → Shared → Prop} (D1 : Draws prog w A i1 fp1 n1 P1 S1) (D : ZAp z TI TO i1 i2 fp1 fp2) (hz : ZipF s.heap z TI TO .none false) (hTI : IsPair s.heap TI (.ref i1) (.ref i2)) (hs1 : S1 n1 s.heap)
    (k : ∀ h' e, (∀ c o, c ≠ z → c ≠ i1 → s.heap.get? c = some o → h'.get? c = some o) → (∃ o, h'.get? e = some o ∧ o.cls = .type "StopIteration") → E (.ref e) { s with heap := h' }) :
    wpAny (model prog w) A (Builtin.«zip.__next__» ⟨[.ref z], []⟩) Q E s := by
  show wpAny _ _ (field (.ref z) 2 >>= _) _ _ _
  apply wpAny_bind
  apply wpAny_field hz rfl (x := .bool false) rfl
  show wpAny _ _ (field (.ref z) 3 >>= _) _ _ _
  apply wpAny_bind
  apply wpAny_field hz rfl (x := .ref TI) rfl
  apply wpAny_bind
  apply wpAny_seqItems hTI rfl
  show wpAny _ _ (Builtin.SmallTypes.ownedTupleIsFree (.ref z) >>= _) _ _ _
  apply wpAny_bind
  unfold Builtin.SmallTypes.ownedTupleIsFree
  apply wpAny_bind
  apply wpAny_field hz rfl (x := .none) rfl
  apply wpAny_pure
  simp only [if_true]
  refine wpAny_bind (wpAny_rule (wpAny_bind (wpAny_field hz rfl (x := .ref TO) rfl (wpAny_bind (wpAny_setField_rec hz (by simp) fun h1 hz1 e1 => ?_)))))
  have hz1' : ZipF h1 z TI TO .ellipsis false := hz1
  apply wpAny_bind
  simp only [List.zipIdx_cons, List.zipIdx_nil, List.forIn_cons, List.forIn_nil]
  refine wpAny_bind (wpAny_bind (wpAny_onRaise ?_))
  show wpAny _ _ (Builtin.SmallTypes.nextOf (.ref i1) >>= _) _ _ _
  refine wpAny_bind (D1.done _ _ _ (D1.frame _ _ _ hs1 fun c hc o e => e1.extBut c o (fun q => D.z1 (q ▸ hc)) e) fun h2 e e2 he => ?_)
  obtain ⟨oe, hoe, hce⟩ := he
  have hz2 : ZipF h2 z TI TO .ellipsis false := e2 _ _ D.i1z.symm hz1'
  have hez : e ≠ z := fun x => by subst x; rw [hz2] at hoe; cases hoe; simp at hce
  exact wpAny_setField_rec hz2 (by simp) fun h3 _ e3 => k h3 e (fun c o c1 c3 x => e3.extBut _ _ c1 (e2 _ _ c3 (e1.extBut _ _ c1 x))) ⟨oe, e3.extBut _ _ hez hoe, hce⟩
abbrev yB (h : Heap) (t l : Addr) : Heap := (zA h t).push { cls := .type "tuple_iterator", data := .fields #[.ref l, .int 0 0] }
abbrev yC (h : Heap) (t l : Addr) : Heap := (yB h t l).push { cls := .type "tuple", data := .seq #[.ref h.objs.size, .ref (zA h t).objs.size] }
abbrev yD (h : Heap) (t l : Addr) : Heap := (yC h t l).push { cls := .type "tuple", data := .seq #[.none, .none] }
abbrev yE (h : Heap) (t l : Addr) : Heap := (yD h t l).push { cls := .type "zip", data := .fields #[.none, .bool false, .bool false, .ref (yB h t l).objs.size, .ref (yC h t l).objs.size] }
theorem meets_zip_tt (t l : Addr) (xs ys : Array Value) :
    Meets (Builtin.«zip.__new__» ⟨[.type "zip", .ref t, .ref l], []⟩) (fun _ R s => IsTup s.heap t xs ∧ IsTup s.heap l ys ∧ R (.ok (.ret (.ref (yD s.heap t l).objs.size))) { s with heap := yE s.heap t l }) :=
  .of_wp fun prog w A R s h => by
    obtain ⟨hp, g, d, tk, os⟩ := s; obtain ⟨ht, hl, h⟩ := h
    have hsub := sub_zip
    have hT : IsTup (Shared.heap ⟨hp, g, d, tk, os⟩) t xs := ht
    have hL : IsTup (Shared.heap ⟨hp.push { cls := .type "tuple_iterator", data := .fields #[.ref t, .int 0 0] }, g, d, tk, os⟩) l ys := let ⟨o, e, r⟩ := hl; ⟨o, Heap.get?_push_of_some _ e, r⟩
    wp_walk using iter_tup hT, iter_tup hL
    exact ⟨_, rfl, h⟩
theorem call_zip_tt {t l : Addr} {xs ys : Array Value} {Q : Value → Shared → Prop} (ht : IsTup s.heap t xs) (hl : IsTup s.heap l ys)
    (k : ∀ h', ZipF h' (s.heap.objs.size + 4) (s.heap.objs.size + 2) (s.heap.objs.size + 3) .none false → IsPair h' (s.heap.objs.size + 2) (.ref s.heap.objs.size) (.ref (s.heap.objs.size + 1)) → IsPair h' (s.heap.objs.size + 3) .none .none →
      IsTupIter h' s.heap.objs.size t 0 → IsTupIter h' (s.heap.objs.size + 1) l 0 → h'.objs.size = s.heap.objs.size + 5 → (∀ c o, s.heap.get? c = some o → h'.get? c = some o) → Q (.ref (s.heap.objs.size + 4)) { s with heap := h' }) :
    wpAny (model prog w) A (call (.type "zip") [.ref t, .ref l]) Q E s := by
  refine callType_new PySem.F.called_zip (by decide) (PySem.F.typeCall_zip_2 _ _) (PySem.F.newCall_zip_2 _ _) (fun obj => PySem.F.args_object_init_3 obj _ _) PySem.F.entry_zip_new (meets_zip_tt t l xs ys) ⟨ht, hl, ?_⟩
  have y1 : (zA s.heap t).objs.size = s.heap.objs.size + 1 := Heap.size_push ..
  have y2 : (yB s.heap t l).objs.size = s.heap.objs.size + 2 := by rw [Heap.size_push, y1]
  have y3 : (yC s.heap t l).objs.size = s.heap.objs.size + 3 := by rw [Heap.size_push, y2]
  have y4 : (yD s.heap t l).objs.size = s.heap.objs.size + 4 := by rw [Heap.size_push, y3]
  have y5 : (yE s.heap t l).objs.size = s.heap.objs.size + 5 := by rw [Heap.size_push, y4]
  have g5 : (yE s.heap t l).get? (yD s.heap t l).objs.size = some _ := Heap.get?_push_size _ rfl
  have g4 : (yE s.heap t l).get? (yC s.heap t l).objs.size = some _ := Heap.get?_push_of_some _ (Heap.get?_push_size _ rfl)
  have g3 : (yE s.heap t l).get? (yB s.heap t l).objs.size = some _ := Heap.get?_push_of_some _ (Heap.get?_push_of_some _ (Heap.get?_push_size _ rfl))
  have g2 : (yE s.heap t l).get? (zA s.heap t).objs.size = some _ := Heap.get?_push_of_some _ (Heap.get?_push_of_some _ (Heap.get?_push_of_some _ (Heap.get?_push_size _ rfl)))
  have g1 : (yE s.heap t l).get? s.heap.objs.size = some _ := Heap.get?_push_of_some _ (Heap.get?_push_of_some _ (Heap.get?_push_of_some _ (Heap.get?_push_of_some _ (Heap.get?_push_size _ rfl))))
  show _ ∧ _
  rw [y2, y3, y4] at g5
  rw [y1, y2] at g3
  rw [y3] at g4
  rw [y1] at g2
  rw [y4]
  exact ⟨⟨_, g5, rfl⟩, k _ g5 g3 g4 ⟨_, g1, rfl, rfl⟩ ⟨_, g2, rfl, rfl⟩ y5 fun c o x => Heap.get?_push_of_some _ (Heap.get?_push_of_some _ (Heap.get?_push_of_some _ (Heap.get?_push_of_some _ (Heap.get?_push_of_some _ x))))⟩
end
def ItzT (K : PySem.W.Frag) (a b : Addr) : It :=
  ⟨fun i H => ∃ (xs ys : List V) (x y : V), SqT K H a xs ∧ SqT K H b ys ∧ xs[i]? = some x ∧ ys[i]? = some y,
    fun i H v H' => ∃ T x y, v = .ref T ∧ H T = none ∧ H' = upd H T (.tup [x, y]) ∧ (∀ xs, SqT K H a xs → xs[i]? = some x) ∧ ∀ ys, SqT K H b ys → ys[i]? = some y,
    fun i H => ∃ xs : List V, SqT K H a xs ∧ xs.length = i⟩
theorem turn_zipT {P : Program} {w : World} {K : PySem.W.Frag} {elts : List Expr} {kk : Nat} {tpos : Pos} {a b z TI TO i1 i2 : Addr} (D : ZAp z TI TO i1 i2 [i1, a] [i2, b]) (ha : a ≠ i1) (hb : b ≠ i2) :
    Turn P w K (.Tuple elts kk tpos) (ItzT K a b) [z, TI, TO, i1, i2] z (fun i h => ZipF h z TI TO .none false ∧ IsPair h TI (.ref i1) (.ref i2) ∧ (∃ x y, IsPair h TO x y) ∧ IsTupIter h i1 a i ∧ IsTupIter h i2 b i) where
  mem := by simp
  obj := fun i h st c hc => by
    obtain ⟨hz, hTI, ⟨x, y, hTO⟩, ⟨o1, e1, _, d1⟩, ⟨o2, e2, _, d2⟩⟩ := st
    have e' : c = z ∨ c = TI ∨ c = TO ∨ c = i1 ∨ c = i2 := by simpa using hc
    rcases e' with q | q | q | q | q
    · rw [q]; exact ⟨_, hz, fun v q => nomatch q⟩
    · rw [q]; exact ⟨_, hTI, fun v q => nomatch q⟩
    · rw [q]; exact ⟨_, hTO, fun v q => nomatch q⟩
    · rw [q]; exact ⟨o1, e1, fun v q => by rw [d1] at q; cases q⟩
    · rw [q]; exact ⟨o2, e2, fun v q => by rw [d2] at q; cases q⟩
  keep := fun i h h' st k => by
    obtain ⟨hz, hTI, ⟨x, y, hTO⟩, ⟨o1, e1, r1⟩, ⟨o2, e2, r2⟩⟩ := st
    exact ⟨k z (by simp) _ hz, k TI (by simp) _ hTI, ⟨x, y, k TO (by simp) _ hTO⟩, ⟨o1, k i1 (by simp) o1 e1, r1⟩, ⟨o2, k i2 (by simp) o2 e2, r2⟩⟩
  item := by
    intro X hP hw hK hc i pins s σ H E I hf st hg
    subst hP hw hK
    obtain ⟨hz, hTI, ⟨x0, y0, hTO⟩, h1, h2⟩ := st
    obtain ⟨xs, ys, x, y, hqx, hqy, hx, hy⟩ := hg
    obtain ⟨its, rv, p, _⟩ := I.tuple hqx
    obtain ⟨its2, rv2, p2, _⟩ := I.tuple hqy
    obtain ⟨u, hu, ru⟩ := rv.get hx
    obtain ⟨u2, hu2, ru2⟩ := rv2.get hy
    have hzl : z < s.heap.objs.size := Heap.lt_size hz
    have hil : i < its.toArray.size := by simpa using (List.getElem?_eq_some_iff.mp hu).1
    have hil2 : i < its2.toArray.size := by simpa using (List.getElem?_eq_some_iff.mp hu2).1
    refine next_zip hz (wpAny_mono (zip_item_first (Q := fun v s' => ∃ u, some v = some u ∧ _) (draws_tup (A := X.A.in1) (I.ok.hd hc) i1 a ha its.toArray) (draws_tup (A := X.A.in1) (I.ok.hd hc) i2 b hb its2.toArray) D hz hTI hTO ⟨h1, p⟩ hil ⟨h2, p2⟩ hil2 fun x' y' h' tk px py z' TO' st1 st2 hT hsz hk => ⟨_, rfl, ?_⟩) (fun _ _ q => q) fun _ _ q => False.elim q)
    have ex : x' = u := by
      have : its.toArray[i]? = some u := by simpa using hu
      rw [this] at px; exact (Option.some.inj px).symm
    have ey : y' = u2 := by
      have : its2.toArray[i]? = some u2 := by simpa using hu2
      rw [this] at py; exact (Option.some.inj py).symm
    subst ex
    subst ey
    refine wpAny_letOwnedTupleGo_zip (s := { s with heap := h', toks := tk }) z' fun h'' z'' sb => ?_
    have hT2 : h''.get? s.heap.objs.size = some { cls := .type "tuple", data := .seq #[x', y'] } := (sb.2 _ (Nat.ne_of_gt hzl)).trans hT
    have new : ObjOk X.prog X.w (upd H s.heap.objs.size (.tup [x, y])) h'' s.heap.objs.size (.tup [x, y]) :=
      ⟨by show 2 ≤ sizeLine; decide, [x', y'], .cons ru (.cons ru2 .nil), ⟨_, hT2, rfl, rfl, _, rfl⟩⟩
    have I1 : Inv X pins σ (upd H s.heap.objs.size (.tup [x, y])) { s with heap := h'', toks := tk } :=
      I.turnedNew (t' := tk) (ch := [z, TI, TO, i1, i2]) (fun c o hb q => (sb.2 c (fun q' => hb (by simp [q']))).trans (hk c o (fun q' => hb (by simp [q'])) (fun q' => hb (by simp [q'])) (fun q' => hb (by simp [q'])) (fun q' => hb (by simp [q'])) q)) hf (Nat.le_refl _) new
    refine ⟨.ref s.heap.objs.size, _, I1, rfl, ⟨_, x, y, rfl, I.hok.fresh (Nat.le_refl _), rfl, fun l hl => by rw [I.tuple_inj hl hqx]; exact hx, fun l hl => by rw [I.tuple_inj hl hqy]; exact hy⟩, ⟨z'', ?_, ⟨x', y', ?_⟩, ?_, ?_⟩, fun c hcm => ?_⟩
    · exact (sb.2 _ D.TIz).trans (hk _ _ D.TIz D.TITO D.TIi1 D.TIi2 hTI)
    · exact (sb.2 _ D.TOz).trans TO'
    · obtain ⟨⟨o, ho, r⟩, _⟩ := st1
      exact ⟨o, (sb.2 _ D.i1z).trans ho, r⟩
    · obtain ⟨⟨o, ho, r⟩, _⟩ := st2
      exact ⟨o, (sb.2 _ D.i2z).trans ho, r⟩
    · have hlt : c < s.heap.objs.size := by
        have e' : c = z ∨ c = TI ∨ c = TO ∨ c = i1 ∨ c = i2 := by simpa using hcm
        rcases e' with q | q | q | q | q
        · rw [q]; exact hzl
        · rw [q]; exact Heap.lt_size hTI
        · rw [q]; exact Heap.lt_size hTO
        · rw [q]; obtain ⟨_, e1, _⟩ := h1; exact Heap.lt_size e1
        · rw [q]; obtain ⟨_, e2, _⟩ := h2; exact Heap.lt_size e2
      rw [upd_ne (Nat.ne_of_lt hlt)]
      exact (hf c hcm).1
  done := by
    intro X hP hw hK hc i pins s σ H E I hf st hg
    subst hP hw hK
    obtain ⟨hz, hTI, ⟨x0, y0, hTO⟩, h1, h2⟩ := st
    obtain ⟨xs, hqx, hend⟩ := hg
    obtain ⟨its, rv, p, _⟩ := I.tuple hqx
    have l1 := rv.length
    have hn : its.toArray.size = i := by simp; omega
    refine next_zip hz (zip_end_first (n1 := its.toArray.size) (draws_tup (A := X.A.in1) (I.ok.hd hc) i1 a ha its.toArray) D hz hTI ⟨by rw [hn]; exact h1, p⟩ fun h' e hk ⟨o, ho, hcl⟩ => ⟨e, o, rfl, ho, hcl, rfl, ?_⟩)
    exact I.turnedL (t' := s.toks) (ch := [z, TI, TO, i1, i2]) (fun c o hb q => hk c o (fun q' => hb (by simp [q'])) (fun q' => hb (by simp [q'])) q) hf
  self := fun A i s Q E st h => iter_zip st.1 h
def iZipT (K : PySem.W.Frag) (ta : TA) : TI := fun σ H R => ta σ H fun vs H1 => ∃ a b xs ys, vs = [.ref a, .ref b] ∧ SqT K H1 a xs ∧ SqT K H1 b ys ∧ R (ItzT K a b) H1
theorem pi_zipT {X : Cx} {e e2 : Expr} {ta : TA} {p pos tpos : Pos} {elts : List Expr} {kk : Nat} (hg : Gl X "zip") (hm : X.mg "zip" = none) (ha : PA X [e, e2] ta)
    (hs : starEach [e, e2] X.env = (false, eval e X.env) :: starEach [e2] X.env := by rfl) (hpl : (backTo pos (starEach [e2] X.env)).any (·.1) = false := by rfl) :
    PI X (.Tuple elts kk tpos) (.Call (.Name "zip" p) [e, e2] [] pos) (iZipT X.K ta) := by
  intro pins s σ H R I h
  refine Call_ (ld_blt I hg hm boot_zip5 (PyProof.Rows.callWith_type1 (thn (ha pos pins s σ H _ I h) fun us s1 ⟨vs, H1, I1, r1, q1⟩ => ?_) hs hpl))
  obtain ⟨a, b, xs, ys, ex, hqx, hqy, q⟩ := q1
  subst ex
  obtain ⟨u, u', rfl, r, r'⟩ := vals2 r1
  cases r
  cases r'
  obtain ⟨its, rv, p1, _⟩ := I1.tuple hqx
  obtain ⟨its2, rv2, p2, _⟩ := I1.tuple hqy
  have la : a < s1.heap.objs.size := p1.lt
  have lb : b < s1.heap.objs.size := p2.lt
  refine call_zip_tt p1 p2 fun h' hz hTI hTO h1 h2 hsz hk => iter_zip hz ?_
  have I2 : Inv X pins σ H1 { s1 with heap := h' } := I1.kept (t' := s1.toks) hk
  have nA : ∀ k : Nat, a ≠ s1.heap.objs.size + k := fun k => Nat.ne_of_lt (Nat.lt_of_lt_of_le la (Nat.le_add_right _ _))
  have nB : ∀ k : Nat, b ≠ s1.heap.objs.size + k := fun k => Nat.ne_of_lt (Nat.lt_of_lt_of_le lb (Nat.le_add_right _ _))
  have nn : ∀ j k : Nat, j ≠ k → s1.heap.objs.size + j ≠ s1.heap.objs.size + k := fun j k h e => h (Nat.add_left_cancel e)
  have n0 : ∀ k : Nat, 0 < k → s1.heap.objs.size ≠ s1.heap.objs.size + k := fun k hk => Nat.ne_of_lt (Nat.lt_add_of_pos_right hk)
  have mA : ∀ k : Nat, 0 < k → s1.heap.objs.size + k ∉ [s1.heap.objs.size, a] := fun k hk m => by
    rcases List.mem_cons.mp m with e | m
    · exact n0 k hk e.symm
    · rcases List.mem_cons.mp m with e | m
      · exact nA k e.symm
      · cases m
  have mB : ∀ k : Nat, k ≠ 1 → s1.heap.objs.size + k ∉ [s1.heap.objs.size + 1, b] := fun k hk m => by
    rcases List.mem_cons.mp m with e | m
    · exact nn k 1 hk e
    · rcases List.mem_cons.mp m with e | m
      · exact nB k e.symm
      · cases m
  have D : ZAp (s1.heap.objs.size + 4) (s1.heap.objs.size + 2) (s1.heap.objs.size + 3) s1.heap.objs.size (s1.heap.objs.size + 1) [s1.heap.objs.size, a] [s1.heap.objs.size + 1, b] :=
    ⟨nn 2 4 (by decide), nn 3 4 (by decide), n0 4 (by decide), nn 1 4 (by decide), nn 2 3 (by decide), (n0 2 (by decide)).symm, nn 2 1 (by decide), (n0 3 (by decide)).symm, nn 3 1 (by decide), n0 1 (by decide), mA 4 (by decide), mB 4 (by decide), mA 3 (by decide), mB 3 (by decide), mA 1 (by decide), mB 0 (by decide)⟩
  refine ⟨s1.heap.objs.size + 4, [s1.heap.objs.size + 4, s1.heap.objs.size + 2, s1.heap.objs.size + 3, s1.heap.objs.size, s1.heap.objs.size + 1], _, _, H1, rfl, I2, turn_zipT D (nA 0) (nB 1), ⟨hz, hTI, ⟨_, _, hTO⟩, h1, h2⟩, fun c hcm => ?_, q⟩
  have e' : c = s1.heap.objs.size + 4 ∨ c = s1.heap.objs.size + 2 ∨ c = s1.heap.objs.size + 3 ∨ c = s1.heap.objs.size ∨ c = s1.heap.objs.size + 1 := by simpa using hcm
  have hle : s1.heap.objs.size ≤ c := by
    rcases e' with z | z | z | z | z
    · rw [z]; exact Nat.le_add_right _ _
    · rw [z]; exact Nat.le_add_right _ _
    · rw [z]; exact Nat.le_add_right _ _
    · rw [z]; exact Nat.le_refl _
    · rw [z]; exact Nat.le_add_right _ _
  exact I1.fpOk hle (I1.hok.fresh hle)
/-- for x, y in zip(t, u) -/
theorem for_zipT {K : PySem.W.Frag} {a b : Addr} {xs ys : List V} {g : TG} {tb : TS} {D : Ends} {σ : St} {H : Hp} (Pv : Nat → St → Hp → Prop) (he : xs.length = ys.length) (h0 : Pv 0 σ H) (hl : ∀ i σ H, i ≤ xs.length → Pv i σ H → SqT K H a xs ∧ SqT K H b ys)
    (hs : ∀ i x y T σ H, xs[i]? = some x → ys[i]? = some y → Pv i σ H → H T = none → g (.ref T) σ (upd H T (.tup [x, y])) fun σ2 H2 => tb { D with nx := Pv (i + 1), ct := Pv (i + 1), bk := D.nx } σ2 H2) (hd : ∀ σ H, Pv xs.length σ H → D.nx σ H) :
    ∃ W : Nat → Nat → St → Hp → Prop, (∃ m, W 0 m σ H) ∧ ∀ i m σ H, W i m σ H →
      ((ItzT K a b).stop i H ∧ D.nx σ H) ∨ ((ItzT K a b).go i H ∧ ∃ N : St → Hp → Prop, (∀ σ' H', N σ' H' → ∃ m', m' < m ∧ W (i + 1) m' σ' H') ∧ ∀ x H', (ItzT K a b).yld i H x H' → g x σ H' fun σ2 H2 => tb { D with nx := N, ct := N, bk := D.nx } σ2 H2) := by
  refine ⟨fun i m σ H => m = xs.length - i ∧ i ≤ xs.length ∧ Pv i σ H, ⟨xs.length, by simp, Nat.zero_le _, h0⟩, ?_⟩
  rintro i m σ H ⟨rfl, hi, p⟩
  obtain ⟨q1, q2⟩ := hl i σ H hi p
  by_cases hlt : i < xs.length
  · refine .inr ⟨⟨xs, ys, xs[i], ys[i], q1, q2, List.getElem?_eq_getElem hlt, List.getElem?_eq_getElem (he ▸ hlt)⟩, Pv (i + 1), fun σ' H' p' => ⟨xs.length - (i + 1), by omega, rfl, hlt, p'⟩, fun v H' ⟨T, x, y, e1, e2, e3, e4, e5⟩ => ?_⟩
    subst e1
    subst e3
    exact hs i x y T σ H (e4 xs q1) (e5 ys q2) p e2
  · have e : i = xs.length := by omega
    exact .inl ⟨⟨xs, q1, e.symm⟩, hd σ H (by rw [← e]; exact p)⟩
/-- for i, x in enumerate(l) -/
theorem for_enum {K : PySem.W.Frag} {a : Addr} {xs : List V} {g : TG} {tb : TS} {D : Ends} {σ : St} {H : Hp} (Pv : Nat → St → Hp → Prop) (h0 : Pv 0 σ H) (hl : ∀ i σ H, i ≤ xs.length → Pv i σ H → SqL K H a xs)
    (hs : ∀ i x T σ H, xs[i]? = some x → Pv i σ H → H T = none → g (.ref T) σ (upd H T (.tup [.int (i : Nat), x])) fun σ2 H2 => tb { D with nx := Pv (i + 1), ct := Pv (i + 1), bk := D.nx } σ2 H2) (hd : ∀ σ H, Pv xs.length σ H → D.nx σ H) :
    ∃ W : Nat → Nat → St → Hp → Prop, (∃ m, W 0 m σ H) ∧ ∀ i m σ H, W i m σ H →
      ((Ite K a).stop i H ∧ D.nx σ H) ∨ ((Ite K a).go i H ∧ ∃ N : St → Hp → Prop, (∀ σ' H', N σ' H' → ∃ m', m' < m ∧ W (i + 1) m' σ' H') ∧ ∀ x H', (Ite K a).yld i H x H' → g x σ H' fun σ2 H2 => tb { D with nx := N, ct := N, bk := D.nx } σ2 H2) := by
  refine ⟨fun i m σ H => m = xs.length - i ∧ i ≤ xs.length ∧ Pv i σ H, ⟨xs.length, by simp, Nat.zero_le _, h0⟩, ?_⟩
  rintro i m σ H ⟨rfl, hi, p⟩
  have q1 := hl i σ H hi p
  by_cases hlt : i < xs.length
  · refine .inr ⟨⟨xs, xs[i], q1, List.getElem?_eq_getElem hlt⟩, Pv (i + 1), fun σ' H' p' => ⟨xs.length - (i + 1), by omega, rfl, hlt, p'⟩, fun v H' ⟨T, x, e1, e2, e3, e4⟩ => ?_⟩
    subst e1
    subst e3
    exact hs i x T σ H (e4 xs q1) p e2
  · have e : i = xs.length := by omega
    subst e
    exact .inl ⟨⟨xs, q1, Nat.le_refl _⟩, hd σ H p⟩
end L2

end
section
set_option Elab.async false
set_option linter.all false
set_option maxRecDepth 100000
namespace L2
open PySem PySem.Spec PyProof.Rows
/-! ### (a, b, ..) = a list of that length -/
section
variable {prog : Program} {w : World} {A : Around} {E : Value → Shared → Prop} {s : Shared}
theorem draw_lst {it l : Addr} {items : Array Value} (hne : l ≠ it) : ∀ (n i : Nat) (s : Shared) (Q : List Value → Shared → Prop), s.heap.IsListIter it l i → s.heap.IsList l items → i + n ≤ items.size →
    (∀ h', h'.IsListIter it l (i + n) → Heap.SameBut it s.heap h' → Q ((items.toList.drop i).take n) { s with heap := h' }) → wpAny (model prog w) A (draw (.ref it) n) Q E s
  | 0, i, s, Q, hit, _, _, hQ => by
    show wpAny _ _ (pure []) Q E s
    exact wpAny_pure (by simpa using hQ s.heap hit (Heap.SameBut.refl ..))
  | n + 1, i, s, Q, hit, hl, hle, hQ => by
    have hlt : i < items.size := by omega
    show wpAny _ _ (pyNext (.ref it) >>= _) Q E s
    refine wpAny_bind (wpAny_pyNext_list_item hit hl (x := items[i]) (by simp [hlt]) fun h1 hit1 hs1 => ?_)
    refine wpAny_bind (wpAny_holding (draw_lst hne n (i + 1) _ _ hit1 (hl.extBut hs1.extBut hne) (by omega) fun h2 hit2 hs2 => wpAny_pure ?_))
    have hd : items.toList.drop i = items[i] :: items.toList.drop (i + 1) := by simp [List.drop_eq_getElem_cons, hlt]
    have e := hQ h2 (by rw [show i + (n + 1) = i + 1 + n by omega]; exact hit2) (hs1.trans hs2)
    rw [hd, List.take_succ_cons] at e
    exact e
theorem unpackI_lst {l : Addr} {items : Array Value} {Q : List Value → Shared → Prop} (hh : A.handled = none) (hl : s.heap.IsList l items)
    (hQ : ∀ h', Heap.ExtBut s.heap.objs.size s.heap h' → Q items.toList { s with heap := h' }) : wpAny (model prog w) A (unpackItems (.ref l) items.size none) Q E s := by
  have hlt : l ≠ s.heap.objs.size := by obtain ⟨o, ho, _⟩ := hl; exact Nat.ne_of_lt (Heap.lt_size ho)
  unfold unpackItems
  apply wpAny_bind
  unfold notIterableAtAll
  apply wpAny_bind
  apply wpAny_specialOf hl.typeIs slot_list_iter.lookup
  apply wpAny_pure
  simp only [Bool.false_eq_true, if_false]
  apply wpAny_bind
  refine wpAny_holding (wpAny_pyIter_list hl ?_)
  apply wpAny_bind
  refine wpAny_holding (draw_lst hlt items.size 0 _ _ ⟨_, Heap.get?_push_size _ rfl, rfl, rfl⟩ (hl.push _) (by omega) fun h1 hit1 hs1 => ?_)
  have hall : List.take items.size (List.drop 0 items.toList) = items.toList := by
    rw [List.drop_zero]; exact List.take_of_length_le (by simp)
  rw [hall, if_neg (by simp)]
  have hl1 : h1.IsList l items := (hl.push _).extBut hs1.extBut hlt
  rw [Nat.zero_add] at hit1
  apply wpAny_bind
  refine wpAny_holding (wpAny_pyNext_list_end hh hit1 hl1 (by simp) fun h2 he2 => ?_)
  simp only [Option.isSome_none, Bool.false_eq_true, if_false]
  exact wpAny_pure (hQ h2 fun b o hb e => he2 b o hb (hs1.extBut b o hb (Heap.get?_push_of_some _ e)))
end
def gLst (K : PySem.W.Frag) (n : Nat) (t : TGs) : TG := fun v σ H Q => ∃ a xs, v = .ref a ∧ SqL K H a xs ∧ xs.length = n ∧ t xs σ H Q
theorem pg_lst {X : Cx} {es : List Expr} {k : Nat} {pos : Pos} {t : TGs} {n : Nat} (hc : X.calm = true) (h : PGs X es t)
    (hn : (assignEach es X.env).length = n := by rfl) (hst : (assignEach es X.env).findIdx? (·.1) = none := by rfl) : PG X (.Tuple es k pos) (gLst X.K n t) := by
  intro pins s σ H v u Q I r hw
  obtain ⟨a, xs, e1, hq, hl, hw⟩ := hw
  subst e1
  cases r
  obtain ⟨its, rv, ht, hz⟩ := I.list hq
  rw [assign_Tuple]
  apply wpAny_bind
  apply wpAny_standAt
  unfold unpack
  have hsz : (assignEach es X.env).length = its.toArray.size := by simp [hn, ← hl, rv.length]
  rw [hsz, hst]
  apply wpAny_bind
  apply wpAny_holding
  refine unpackI_lst (I.ok.hd hc) ht.isList fun h' hx => ?_
  have I1 : Inv X pins σ H { s with heap := h' } := I.kept (t' := s.toks) fun b o e => hx b o (Nat.ne_of_lt (Heap.lt_size e)) e
  exact h pins _ σ H xs _ Q I1 (by simpa using rv) hw
theorem cut_first (vs : List V) (h : 0 < vs.length) : cutV vs (some 1) none = vs.drop 1 := by
  have e : HT.sIx vs.length 0 (some 1) = 1 := by
    show (if (1 : Int) < 0 then (1 + (vs.length : Int)).toNat else min (1 : Int).toNat vs.length) = 1
    rw [if_neg (by decide)]
    show min 1 vs.length = 1
    omega
  unfold cutV
  rw [e, HT.sIx_none, List.take_of_length_le (by rw [List.length_drop]; omega)]
end L2

end
section
set_option Elab.async false
set_option linter.all false
set_option maxRecDepth 100000
namespace L2
open PySem PySem.Spec PyProof.Rows
/-! ### for x in reversed(a list) -/
theorem for_rev {K : PySem.W.Frag} {a : Addr} {xs : List V} {g : TG} {tb : TS} {D : Ends} {σ : St} {H : Hp} (Pv : Nat → St → Hp → Prop) (h0 : Pv 0 σ H) (hl : ∀ i σ H, i ≤ xs.length → Pv i σ H → SqL K H a xs)
    (hs : ∀ i x σ H, i < xs.length → xs[xs.length - 1 - i]? = some x → Pv i σ H → g x σ H fun σ2 H2 => tb { D with nx := Pv (i + 1), ct := Pv (i + 1), bk := D.nx } σ2 H2) (hd : ∀ σ H, Pv xs.length σ H → D.nx σ H) :
    ∃ Wd : Nat → Nat → St → Hp → Prop, (∃ m, Wd 0 m σ H) ∧ ∀ i m σ H, Wd i m σ H →
      ((Itv K a xs.length).stop i H ∧ D.nx σ H) ∨ ((Itv K a xs.length).go i H ∧ ∃ N : St → Hp → Prop, (∀ σ' H', N σ' H' → ∃ m', m' < m ∧ Wd (i + 1) m' σ' H') ∧ ∀ x H', (Itv K a xs.length).yld i H x H' → g x σ H' fun σ2 H2 => tb { D with nx := N, ct := N, bk := D.nx } σ2 H2) := by
  refine ⟨fun i m σ H => m = xs.length - i ∧ i ≤ xs.length ∧ Pv i σ H, ⟨_, rfl, Nat.zero_le _, h0⟩, ?_⟩
  rintro i m σ H ⟨e0, hi, p⟩
  subst e0
  have q := hl i σ H hi p
  by_cases hlt : i < xs.length
  · have hx : xs[xs.length - 1 - i]? = some xs[xs.length - 1 - i] := List.getElem?_eq_getElem (by omega)
    refine .inr ⟨⟨hlt, xs, _, q, hx⟩, Pv (i + 1), fun σ' H' p' => ⟨_, by omega, rfl, hlt, p'⟩, fun x H' y => ?_⟩
    obtain ⟨e, y⟩ := y
    subst e
    exact hs i x σ _ hlt (y xs q) p
  · have e : i = xs.length := by omega
    subst e
    exact .inl ⟨Nat.le_refl _, hd σ H p⟩
/-- an if whose test is false, whatever it makes on the way -/
theorem tifF {c : TT} {t u : TS} {D : Ends} {σ : St} {H : Hp} (h : ∀ Qb : Bool → Hp → Prop, (∀ H', Same H H' → Qb false H') → c σ H Qb) (k : ∀ H', Same H H' → u D σ H') : tIfS c t u D σ H :=
  h _ fun H' g => by
    show (if false = true then t D σ H' else u D σ H')
    rw [if_neg (by decide)]
    exact k H' g
theorem seqF {c : TT} {t rest : TS} {D : Ends} {σ : St} {H : Hp} (h : ∀ Qb : Bool → Hp → Prop, (∀ H', Same H H' → Qb false H') → c σ H Qb) (k : ∀ H', Same H H' → rest D σ H') : tSeq (tIfS c t tNext) rest D σ H :=
  tifF h k
end L2

end
section
namespace Num
/-! ### the greatest divisor of three, lowest terms -/
def g3 (a b c : Int) : Nat := Nat.gcd (Nat.gcd a.natAbs b.natAbs) c.natAbs
/-- the divisor that brings (a, b, c) down, of c's sign -/
def dv (a b c : Int) : Int := if c < 0 then -(g3 a b c : Int) else (g3 a b c : Int)
theorem g3_pos {a b c : Int} (h : c ≠ 0) : 0 < g3 a b c := Nat.gcd_pos_of_pos_right _ (by omega)
theorem g3_le {a b c : Int} (h : c ≠ 0) : g3 a b c ≤ c.natAbs := Nat.gcd_le_right _ (by omega)
theorem dv_ne {a b c : Int} (h : c ≠ 0) : dv a b c ≠ 0 := by
  have := g3_pos (a := a) (b := b) h
  unfold dv; split <;> omega
theorem dv_abs {a b c : Int} : (dv a b c).natAbs = g3 a b c := by
  unfold dv; split <;> omega
theorem g3_dvd_c (a b c : Int) : (g3 a b c : Int) ∣ c := Int.ofNat_dvd_left.mpr (Nat.gcd_dvd_right _ _)
theorem g3_dvd_a (a b c : Int) : (g3 a b c : Int) ∣ a := Int.ofNat_dvd_left.mpr (Nat.dvd_trans (Nat.gcd_dvd_left _ _) (Nat.gcd_dvd_left _ _))
theorem g3_dvd_b (a b c : Int) : (g3 a b c : Int) ∣ b := Int.ofNat_dvd_left.mpr (Nat.dvd_trans (Nat.gcd_dvd_left _ _) (Nat.gcd_dvd_right _ _))
theorem dv_dvd {a b c x : Int} (h : (g3 a b c : Int) ∣ x) : dv a b c ∣ x := by
  unfold dv; split
  · exact Int.neg_dvd.mpr h
  · exact h
theorem fdiv_dvd {d x : Int} (h : d ∣ x) : d * x.fdiv d = x := Int.mul_fdiv_cancel' h
/-- what lowest terms say -/
theorem low_a (a b c : Int) : dv a b c * a.fdiv (dv a b c) = a := fdiv_dvd (dv_dvd (g3_dvd_a a b c))
theorem low_b (a b c : Int) : dv a b c * b.fdiv (dv a b c) = b := fdiv_dvd (dv_dvd (g3_dvd_b a b c))
theorem low_c (a b c : Int) : dv a b c * c.fdiv (dv a b c) = c := fdiv_dvd (dv_dvd (g3_dvd_c a b c))
theorem low_pos {a b c : Int} (h : c ≠ 0) : 0 < c.fdiv (dv a b c) := by
  have e := low_c a b c
  have hg := g3_pos (a := a) (b := b) h
  generalize c.fdiv (dv a b c) = q at e
  unfold dv at e
  split at e
  · rename_i hc
    rcases Int.lt_or_le 0 q with hq | hq
    · exact hq
    · have : 0 ≤ -(g3 a b c : Int) * q := Int.mul_nonneg_of_nonpos_of_nonpos (by omega) hq
      omega
  · rename_i hc
    rcases Int.lt_or_le 0 q with hq | hq
    · exact hq
    · have : (g3 a b c : Int) * q ≤ 0 := Int.mul_nonpos_of_nonneg_of_nonpos (by omega) hq
      omega
theorem dv_pos {a b c : Int} (h : 0 < c) : 0 < dv a b c := by
  have := g3_pos (a := a) (b := b) (c := c) (by omega)
  unfold dv; rw [if_neg (by omega)]; omega
/-! ### Euclid, turn by turn -/
theorem gcd_turn {x y : Int} (hx : 0 ≤ x) (hy : 0 < y) : Nat.gcd x.natAbs y.natAbs = Nat.gcd y.natAbs (x % y).natAbs := by
  have h1 : (x % y).natAbs = x.natAbs % y.natAbs := by
    have h2 : x = (x.natAbs : Int) := by omega
    have h3 : y = (y.natAbs : Int) := by omega
    rw [h2, h3]
    simp only [Int.natAbs_natCast]
    rw [← Int.natCast_emod]
    exact Int.natAbs_natCast _
  rw [h1, Nat.gcd_comm y.natAbs, ← Nat.gcd_rec, Nat.gcd_comm]
/-! ### squares -/
theorem sq_le {x y : Int} (h0 : 0 ≤ x) (h : x ≤ y) : x * x ≤ y * y := Int.mul_le_mul h h h0 (by omega)
theorem sq_lt {x y : Int} (h0 : 0 ≤ x) (h : x < y) : x * x < y * y := by
  have h1 : x * x ≤ x * y := Int.mul_le_mul_of_nonneg_left (by omega) h0
  have h2 : x * y < y * y := Int.mul_lt_mul_of_pos_right h (by omega)
  omega
theorem lt_of_sq {x y : Int} (hy : 0 ≤ y) (h : x * x < y * y) : x < y := by
  rcases Int.lt_or_le x y with h1 | h1
  · exact h1
  · have := sq_le hy h1; omega
theorem le_of_sq {x y : Int} (hy : 0 ≤ y) (h : x * x ≤ y * y) : x ≤ y := by
  rcases Int.lt_or_le y x with h1 | h1
  · have := sq_lt hy h1; omega
  · exact h1
/-- s is the whole root of n -/
def Rt (n s : Int) : Prop := 0 ≤ s ∧ s * s ≤ n ∧ n < (s + 1) * (s + 1)
theorem newton {n g : Int} (hg : 0 < g) (hn : 0 ≤ n) : n < ((g + n / g) / 2 + 1) * ((g + n / g) / 2 + 1) := by
  have h1 := Int.mul_ediv_add_emod n g
  have h2 := Int.emod_lt_of_pos n hg
  have hq : 0 ≤ n / g := Int.ediv_nonneg hn (by omega)
  generalize n / g = q at *
  generalize n % g = r at *
  have h3 : 2 * ((g + q) / 2 + 1) ≥ g + q + 1 := by omega
  generalize ((g + q) / 2 + 1) = t at *
  have h4 : (g + q + 1) * (g + q + 1) ≤ (2 * t) * (2 * t) := sq_le (by omega) h3
  have h5 : 0 ≤ (g - (q + 1)) * (g - (q + 1)) := by
    rcases Int.le_total 0 (g - (q + 1)) with h | h
    · exact Int.mul_nonneg h h
    · exact Int.mul_nonneg_of_nonpos_of_nonpos h h
  have e1 : (g + q + 1) * (g + q + 1) = (g - (q + 1)) * (g - (q + 1)) + 4 * (g * q) + 4 * g := by grind
  have e2 : (2 * t) * (2 * t) = 4 * (t * t) := by grind
  omega
theorem newton_end {n g : Int} (hg : 0 < g) (hn : 0 ≤ n) (h : g ≤ (g + n / g) / 2) : g * g ≤ n := by
  have h1 := Int.mul_ediv_add_emod n g
  have h2 := Int.emod_nonneg n (show g ≠ 0 by omega)
  generalize n / g = q at *
  have h3 : g ≤ q := by omega
  have h4 : g * g ≤ g * q := Int.mul_le_mul_of_nonneg_left h3 (by omega)
  omega
theorem newton_pos {n g : Int} (hg : 0 < g) (hn : 0 < n) : 0 < (g + n / g) / 2 := by
  have h := newton hg (show 0 ≤ n by omega)
  rcases Int.lt_or_le 0 ((g + n / g) / 2) with h1 | h1
  · exact h1
  · have h2 : 0 ≤ (g + n / g) / 2 := by
      have hq : 0 ≤ n / g := Int.ediv_nonneg (by omega) (by omega)
      omega
    have h3 : (g + n / g) / 2 = 0 := by omega
    rw [h3] at h; omega
/-! ### no root but 0 is a square -/
theorem no_sq_nat (p r : Nat) (hp : 1 < p) (h1 : ∀ m, m < p → m * m % p = 0 → m = 0) (h2 : ∀ m, m < p → r * (m * m) % p = 0 → m = 0) :
    ∀ (n x y : Nat), y ≤ n → x * x = p * r * (y * y) → y = 0 := by
  intro n
  induction n with
  | zero => intro x y hy _; omega
  | succ n ih =>
    intro x y hy e
    have hx : x % p = 0 := by
      apply h1 (x % p) (Nat.mod_lt _ (by omega))
      rw [← Nat.mul_mod, e, Nat.mul_assoc]
      exact Nat.mul_mod_right _ _
    obtain ⟨x', rfl⟩ := Nat.dvd_of_mod_eq_zero hx
    have e2 : p * (x' * x') = r * (y * y) := by
      apply Nat.eq_of_mul_eq_mul_left (show 0 < p by omega)
      calc p * (p * (x' * x')) = p * x' * (p * x') := by grind
        _ = p * r * (y * y) := e
        _ = p * (r * (y * y)) := by grind
    have hy' : y % p = 0 := by
      apply h2 (y % p) (Nat.mod_lt _ (by omega))
      have : r * (y % p * (y % p)) % p = r * (y * y) % p := by
        rw [Nat.mul_mod, ← Nat.mul_mod y y p, ← Nat.mul_mod]
      rw [this, ← e2]
      exact Nat.mul_mod_right _ _
    obtain ⟨y', rfl⟩ := Nat.dvd_of_mod_eq_zero hy'
    rcases Nat.eq_zero_or_pos y' with h0 | h0
    · subst h0; simp
    · have h3 : y' ≤ n := by
        have : 2 * y' ≤ p * y' := Nat.mul_le_mul_right _ hp
        omega
      have e3 : x' * x' = p * r * (y' * y') := by
        apply Nat.eq_of_mul_eq_mul_left (show 0 < p by omega)
        rw [e2]; grind
      have := ih x' y' h3 e3
      omega
def Root (r : Int) : Prop := r = 0 ∨ r = 2 ∨ r = 3 ∨ r = 5 ∨ r = 6 ∨ r = 7 ∨ r = 13
theorem no_sq {r x y : Int} (hr : Root r) (h0 : r ≠ 0) (e : x * x = r * (y * y)) : y = 0 := by
  have key : ∀ (p q : Nat), 1 < p → (∀ m, m < p → m * m % p = 0 → m = 0) → (∀ m, m < p → q * (m * m) % p = 0 → m = 0) → r = ((p * q : Nat) : Int) → y = 0 := by
    intro p q hp h1 h2 hr
    have e' : x.natAbs * x.natAbs = p * q * (y.natAbs * y.natAbs) := by
      have h := congrArg Int.natAbs e
      rw [Int.natAbs_mul, Int.natAbs_mul, Int.natAbs_mul, hr, Int.natAbs_natCast] at h
      exact h
    have := no_sq_nat p q hp h1 h2 _ _ _ (Nat.le_refl _) e'
    omega
  rcases hr with h | h | h | h | h | h | h
  · exact absurd h h0
  · exact key 2 1 (by decide) (by decide) (by decide) h
  · exact key 3 1 (by decide) (by decide) (by decide) h
  · exact key 5 1 (by decide) (by decide) (by decide) h
  · exact key 2 3 (by decide) (by decide) (by decide) h
  · exact key 7 1 (by decide) (by decide) (by decide) h
  · exact key 13 1 (by decide) (by decide) (by decide) h
/-! ### the sign of a + b * root -/
/-- what the law asks the sign of -/
def wor (r a b : Int) : Int := a * (if a < 0 then -a else a) + r * b * (if b < 0 then -b else b)
theorem wor_scale {r a b d : Int} (h : 0 < d) : wor r (d * a) (d * b) = d * d * wor r a b := by
  have e : ∀ z : Int, (if d * z < 0 then -(d * z) else d * z) = d * (if z < 0 then -z else z) := by
    intro z
    by_cases hz : z < 0
    · rw [if_pos hz, if_pos (Int.mul_neg_of_pos_of_neg h hz)]; grind
    · rw [if_neg hz, if_neg (by have := Int.mul_nonneg (show (0 : Int) ≤ d by omega) (show 0 ≤ z by omega); omega)]
  unfold wor
  rw [e, e]; grind
theorem wor_neg_scale {r a b d : Int} (h : 0 < d) : wor r (d * a) (d * b) < 0 ↔ wor r a b < 0 := by
  rw [wor_scale h]
  have hd : 0 < d * d := Int.mul_pos h h
  constructor
  · intro h1
    rcases Int.lt_or_le (wor r a b) 0 with h2 | h2
    · exact h2
    · have := Int.mul_nonneg (show 0 ≤ d * d by omega) h2; omega
  · intro h1; exact Int.mul_neg_of_pos_of_neg hd h1
/-! ### the whole part -/
/-- F is the whole part of b times the root -/
def FlR (r b F : Int) : Prop := ∃ s, Rt (r * b * b) s ∧ F = if 0 ≤ b then s else -s - 1
theorem floor_lo {r a b c F q : Int} (hF : FlR r b F) (hc : 0 < c) (hr : 0 ≤ r) (hq : q = (a + F) / c) : ¬ wor r (a - q * c) b < 0 := by
  obtain ⟨s, ⟨hs0, hs1, hs2⟩, rfl⟩ := hF
  have h1 := Int.mul_ediv_add_emod (a + if 0 ≤ b then s else -s - 1) c
  have h2 := Int.emod_nonneg (a + if 0 ≤ b then s else -s - 1) (show c ≠ 0 by omega)
  rw [← hq] at h1
  have e : c * q = q * c := Int.mul_comm _ _
  generalize hX : a - q * c = X
  unfold wor
  have eb : r * b * b = r * (b * b) := Int.mul_assoc _ _ _
  by_cases hb : 0 ≤ b
  · rw [if_pos hb] at h1 h2
    have hX1 : -s ≤ X := by omega
    rw [if_neg (show ¬ b < 0 by omega)]
    by_cases hx : X < 0
    · rw [if_pos hx]
      have : (-X) * (-X) ≤ s * s := sq_le (by omega) (by omega)
      have e3 : X * -X = -(-X * -X) := by grind
      omega
    · rw [if_neg hx]
      have := Int.mul_nonneg (show 0 ≤ X by omega) (show 0 ≤ X by omega)
      have : 0 ≤ s * s := Int.mul_nonneg hs0 hs0
      omega
  · rw [if_neg hb] at h1 h2
    have hX1 : s + 1 ≤ X := by omega
    rw [if_pos (show b < 0 by omega), if_neg (show ¬ X < 0 by omega)]
    have := sq_le (show 0 ≤ s + 1 by omega) hX1
    have e3 : r * b * -b = -(r * b * b) := by grind
    omega
theorem floor_hi {r a b c F q : Int} (hF : FlR r b F) (hc : 0 < c) (hR : Root r) (hb0 : r = 0 → b = 0) (hq : q = (a + F) / c) : wor r (a - (q + 1) * c) b < 0 := by
  have hr : 0 ≤ r := by rcases hR with h | h | h | h | h | h | h <;> omega
  obtain ⟨s, ⟨hs0, hs1, hs2⟩, rfl⟩ := hF
  have h1 := Int.mul_ediv_add_emod (a + if 0 ≤ b then s else -s - 1) c
  have h2 := Int.emod_lt_of_pos (a + if 0 ≤ b then s else -s - 1) hc
  rw [← hq] at h1
  have e : (q + 1) * c = c * q + c := by grind
  generalize hX : a - (q + 1) * c = X
  unfold wor
  by_cases hb : 0 ≤ b
  · rw [if_pos hb] at h1 h2
    have hX1 : X ≤ -s - 1 := by omega
    rw [if_neg (show ¬ b < 0 by omega), if_pos (show X < 0 by omega)]
    have : (s + 1) * (s + 1) ≤ (-X) * (-X) := sq_le (by omega) (by omega)
    have e3 : X * -X = -(-X * -X) := by grind
    omega
  · rw [if_neg hb] at h1 h2
    have hX1 : X ≤ s := by omega
    rw [if_pos (show b < 0 by omega)]
    have e3 : r * b * -b = -(r * b * b) := by grind
    have hr0 : r ≠ 0 := fun h => by have := hb0 h; omega
    have hlt : s * s < r * b * b := by
      rcases Int.lt_or_eq_of_le hs1 with h | h
      · exact h
      · have := no_sq hR hr0 (x := s) (y := b) (by rw [h]; exact Int.mul_assoc _ _ _)
        omega
    by_cases hx : X < 0
    · rw [if_pos hx]
      have e4 : X * -X = -(-X * -X) := by grind
      have : 0 < (-X) * (-X) := Int.mul_pos (by omega) (by omega)
      have : 0 ≤ s * s := Int.mul_nonneg hs0 hs0
      omega
    · rw [if_neg hx]
      have := sq_le (show 0 ≤ X by omega) hX1
      omega
end Num

end
section
set_option Elab.async false
set_option linter.all false
set_option maxRecDepth 100000
namespace L2
open PySem PyProof.Rows
/-! ### numbers as they stand in the heap -/
abbrev N3 := Int × Int × Int
def vN (x : N3) : List V := [.int x.1, .int x.2.1, .int x.2.2]
def lw (a b c : Int) : N3 := (a.fdiv (Num.dv a b c), b.fdiv (Num.dv a b c), c.fdiv (Num.dv a b c))
def addN (x y : N3) : N3 := lw (x.1 * y.2.2 + y.1 * x.2.2) (x.2.1 * y.2.2 + y.2.1 * x.2.2) (x.2.2 * y.2.2)
def subN (x y : N3) : N3 := lw (x.1 * y.2.2 - y.1 * x.2.2) (x.2.1 * y.2.2 - y.2.1 * x.2.2) (x.2.2 * y.2.2)
theorem subN_eq (x y : N3) : lw (x.1 * y.2.2 + -y.1 * x.2.2) (x.2.1 * y.2.2 + -y.2.1 * x.2.2) (x.2.2 * y.2.2) = subN x y := by
  unfold subN
  rw [Int.neg_mul, Int.neg_mul, ← Int.sub_eq_add_neg, ← Int.sub_eq_add_neg]
/-- a number of the root r, its parts below 2 ^ k -/
structure Ok (r : Int) (k : Nat) (x : N3) : Prop where
  pos : 0 < x.2.2
  low : Num.g3 x.1 x.2.1 x.2.2 = 1
  root : r = 0 → x.2.1 = 0
  za : Sz k x.1
  zb : Sz k x.2.1
  zc : Sz k x.2.2
theorem Ok.mono {r : Int} {k l : Nat} {x : N3} (h : Ok r k x) (hl : k ≤ l) : Ok r l x := ⟨h.pos, h.low, h.root, h.za.mono hl, h.zb.mono hl, h.zc.mono hl⟩
theorem g3_low {a b c : Int} (h : c ≠ 0) : Num.g3 (a.fdiv (Num.dv a b c)) (b.fdiv (Num.dv a b c)) (c.fdiv (Num.dv a b c)) = 1 := by
  have ea := congrArg Int.natAbs (Num.low_a a b c)
  have eb := congrArg Int.natAbs (Num.low_b a b c)
  have ec := congrArg Int.natAbs (Num.low_c a b c)
  rw [Int.natAbs_mul, Num.dv_abs] at ea eb ec
  have hg := Num.g3_pos (a := a) (b := b) h
  have e : Num.g3 a b c = Num.g3 a b c * Num.g3 (a.fdiv (Num.dv a b c)) (b.fdiv (Num.dv a b c)) (c.fdiv (Num.dv a b c)) := by
    show Nat.gcd (Nat.gcd a.natAbs b.natAbs) c.natAbs = _
    rw [← ea, ← eb, ← ec, Nat.gcd_mul_left, Nat.gcd_mul_left]
    rfl
  generalize Num.g3 (a.fdiv (Num.dv a b c)) (b.fdiv (Num.dv a b c)) (c.fdiv (Num.dv a b c)) = q at e
  generalize Num.g3 a b c = g at e hg
  have : g * 1 = g * q := by rw [Nat.mul_one]; exact e
  exact (Nat.eq_of_mul_eq_mul_left hg this).symm
theorem lw_ok {r : Int} {k : Nat} {a b c : Int} (hc : c ≠ 0) (hr : r = 0 → b = 0) (za : Sz k a) (zb : Sz k b) (zc : Sz k c) : Ok r (k + 1) (lw a b c) :=
  ⟨Num.low_pos hc, g3_low hc, fun h => by show b.fdiv _ = 0; rw [hr h, Int.zero_fdiv], Sz.fdiv za, Sz.fdiv zb, Sz.fdiv zc⟩
theorem addN_ok {r : Int} {k l : Nat} {x y : N3} (h : Ok r k x) (g : Ok r l y) : Ok r (k + l + 2) (addN x y) := by
  have e : max (k + l) (l + k) + 1 = k + l + 1 := by omega
  refine lw_ok (k := k + l + 1) (by have := Int.mul_pos h.pos g.pos; omega) (fun e => by rw [h.root e, g.root e]; simp) ?_ ?_ ((h.zc.mul g.zc).mono (by omega))
  · rw [← e]; exact (h.za.mul g.zc).add (g.za.mul h.zc)
  · rw [← e]; exact (h.zb.mul g.zc).add (g.zb.mul h.zc)
theorem subN_ok {r : Int} {k l : Nat} {x y : N3} (h : Ok r k x) (g : Ok r l y) : Ok r (k + l + 2) (subN x y) := by
  have e : max (k + l) (l + k) + 1 = k + l + 1 := by omega
  refine lw_ok (k := k + l + 1) (by have := Int.mul_pos h.pos g.pos; omega) (fun e => by rw [h.root e, g.root e]; simp) ?_ ?_ ((h.zc.mul g.zc).mono (by omega))
  · rw [← e]; exact (h.za.mul g.zc).sub (g.za.mul h.zc)
  · rw [← e]; exact (h.zb.mul g.zc).sub (g.zb.mul h.zc)
theorem lw_self {r : Int} {k : Nat} {x : N3} (h : Ok r k x) : lw x.1 x.2.1 x.2.2 = x := by
  have hp := h.pos
  have e : Num.dv x.1 x.2.1 x.2.2 = 1 := by
    unfold Num.dv
    rw [if_neg (by omega), h.low]
    rfl
  unfold lw
  rw [e, Int.fdiv_one, Int.fdiv_one, Int.fdiv_one]
def zeroN : N3 := (0, 0, 1)
theorem zero_ok (r : Int) (k : Nat) (hk : 1 ≤ k) : Ok r k zeroN := ⟨by decide, by decide, fun _ => rfl, Sz.zero, Sz.zero, (Sz.sm (k := 1) 1 (by decide)).mono hk⟩
/-! ### ends -/
def pre (xs : List N3) (i : Nat) : N3 := (xs.take i).foldl addN zeroN
theorem pre_zero (xs : List N3) : pre xs 0 = zeroN := rfl
theorem pre_succ {xs : List N3} {i : Nat} {x : N3} (h : xs[i]? = some x) : pre xs (i + 1) = addN (pre xs i) x := by
  unfold pre
  rw [List.take_succ, h]
  show (xs.take i ++ [x]).foldl addN zeroN = _
  rw [List.foldl_append]
  rfl
def ends (xs : List N3) (m : Nat) : List N3 := (List.range m).map (pre xs)
theorem ends_succ (xs : List N3) (m : Nat) : ends xs (m + 1) = ends xs m ++ [pre xs m] := by
  unfold ends
  rw [List.range_succ, List.map_append]
  rfl
theorem ends_len (xs : List N3) (m : Nat) : (ends xs m).length = m := by unfold ends; rw [List.length_map, List.length_range]
theorem ends_at {xs : List N3} {m i : Nat} (h : i < m) : (ends xs m)[i]? = some (pre xs i) := by
  unfold ends
  rw [List.getElem?_map, List.getElem?_range h]
  rfl
theorem pre_ok {r : Int} {xs : List N3} (h : ∀ x ∈ xs, Ok r 20 x) : ∀ i, i ≤ xs.length → Ok r (20 + 24 * i) (pre xs i)
  | 0, _ => zero_ok r _ (by decide)
  | i + 1, hi => by
    have hx : xs[i]? = some xs[i] := List.getElem?_eq_getElem (by omega)
    rw [pre_succ hx]
    exact (addN_ok (pre_ok h i (by omega)) (h _ (List.getElem_mem _))).mono (by omega)
theorem pre_okB {r : Int} {xs : List N3} (h : ∀ x ∈ xs, Ok r 20 x) (hl : xs.length ≤ 12) {i : Nat} (hi : i ≤ xs.length) : Ok r 400 (pre xs i) := (pre_ok h i hi).mono (by omega)
/-! ### numbers, rows of numbers in the heap -/
def NumAt (K : PySem.W.Frag) (H : Hp) (v : V) (x : N3) : Prop := ∃ a, v = .ref a ∧ SqT K H a (vN x)
theorem NumAt.mono {K : PySem.W.Frag} {H H' : Hp} {v : V} {x : N3} (h : NumAt K H v x) (s : Same H H') : NumAt K H' v x := let ⟨a, e, q⟩ := h; ⟨a, e, s.tup q⟩
theorem NumAt.monoX {K : PySem.W.Frag} {H H' : Hp} {p : Addr} {ys : List V} {v : V} {x : N3} (h : NumAt K H v x) (s : SameX p H H') (hp : H p = some (.lst ys)) : NumAt K H' v x := let ⟨a, e, q⟩ := h; ⟨a, e, s.tup hp q⟩
def Nums (K : PySem.W.Frag) (H : Hp) (vs : List V) (xs : List N3) : Prop := vs.length = xs.length ∧ ∀ (i : Nat) (v : V) (x : N3), vs[i]? = some v → xs[i]? = some x → NumAt K H v x
theorem Nums.mono {K : PySem.W.Frag} {H H' : Hp} {vs : List V} {xs : List N3} (h : Nums K H vs xs) (s : Same H H') : Nums K H' vs xs := ⟨h.1, fun i v x a b => (h.2 i v x a b).mono s⟩
theorem Nums.monoX {K : PySem.W.Frag} {H H' : Hp} {p : Addr} {ys vs : List V} {xs : List N3} (h : Nums K H vs xs) (s : SameX p H H') (hp : H p = some (.lst ys)) : Nums K H' vs xs := ⟨h.1, fun i v x a b => (h.2 i v x a b).monoX s hp⟩
theorem Nums.nil {K : PySem.W.Frag} {H : Hp} : Nums K H [] [] := ⟨rfl, fun i v x a => by simp at a⟩
theorem Nums.snoc {K : PySem.W.Frag} {H : Hp} {vs : List V} {xs : List N3} {v : V} {x : N3} (h : Nums K H vs xs) (g : NumAt K H v x) : Nums K H (vs ++ [v]) (xs ++ [x]) := by
  refine ⟨by rw [List.length_append, List.length_append, h.1]; rfl, fun i w y a b => ?_⟩
  by_cases hi : i < vs.length
  · rw [List.getElem?_append_left hi] at a
    rw [List.getElem?_append_left (by rw [← h.1]; exact hi)] at b
    exact h.2 i w y a b
  · rw [List.getElem?_append_right (by omega)] at a
    rw [List.getElem?_append_right (by rw [← h.1]; omega)] at b
    rw [h.1] at a
    have hz : i - xs.length = 0 := by
      rcases Nat.eq_zero_or_pos (i - xs.length) with z | z
      · exact z
      · rw [List.getElem?_singleton, if_neg (by omega)] at a; cases a
    rw [hz] at a b
    cases a
    cases b
    exact g
theorem Nums.get {K : PySem.W.Frag} {H : Hp} {vs : List V} {xs : List N3} {i : Nat} {x : N3} (h : Nums K H vs xs) (e : xs[i]? = some x) : ∃ v, vs[i]? = some v ∧ NumAt K H v x := by
  have hi : i < vs.length := by rw [h.1]; exact (List.getElem?_eq_some_iff.mp e).1
  exact ⟨vs[i], List.getElem?_eq_getElem hi, h.2 i _ _ (List.getElem?_eq_getElem hi) e⟩
theorem Nums.getV {K : PySem.W.Frag} {H : Hp} {vs : List V} {xs : List N3} {i : Nat} {v : V} (h : Nums K H vs xs) (e : vs[i]? = some v) : ∃ x, xs[i]? = some x ∧ NumAt K H v x := by
  have hi : i < xs.length := by rw [← h.1]; exact (List.getElem?_eq_some_iff.mp e).1
  exact ⟨xs[i], List.getElem?_eq_getElem hi, h.2 i _ _ e (List.getElem?_eq_getElem hi)⟩
theorem Nums.take {K : PySem.W.Frag} {H : Hp} {vs : List V} {xs : List N3} (h : Nums K H vs xs) (m : Nat) : Nums K H (vs.take m) (xs.take m) := by
  refine ⟨by rw [List.length_take, List.length_take, h.1], fun i v x a b => ?_⟩
  rw [List.getElem?_take] at a b
  split at a
  · rename_i hi
    rw [if_pos hi] at b
    exact h.2 i v x a b
  · cases a
/-- the last one left out -/
theorem cut_last (vs : List V) (h : 0 < vs.length) : cutV vs none (some (-1)) = vs.take (vs.length - 1) := by
  have e : HT.sIx vs.length vs.length (some (-1)) = vs.length - 1 := by
    show (if (-1 : Int) < 0 then (-1 + (vs.length : Int)).toNat else min (-1 : Int).toNat vs.length) = vs.length - 1
    rw [if_pos (by decide)]; omega
  unfold cutV
  rw [e, HT.sIx_none, List.drop_zero, Nat.sub_zero]
theorem at_last {vs : List V} {v : V} (h : vs[vs.length - 1]? = some v) : atI vs (-1) = some v := by
  have hl : 0 < vs.length := by
    rcases Nat.eq_zero_or_pos vs.length with z | z
    · rw [List.length_eq_zero_iff.mp z] at h; cases h
    · exact z
  obtain ⟨hi, e⟩ := List.getElem?_eq_some_iff.mp h
  have e2 : vs = vs.dropLast ++ [v] := by
    have := List.dropLast_concat_getLast (l := vs) (by intro z; rw [z] at hl; exact Nat.lt_irrefl _ hl)
    rw [List.getLast_eq_getElem, e] at this
    exact this.symm
  rw [e2]
  exact atI_last _ _
/-! ### as data -/
def dN (x : N3) : PyData := .tuple [.int x.1, .int x.2.1, .int x.2.2]
theorem NumAt.dp {K : PySem.W.Frag} {H : Hp} {v : V} {x : N3} (h : NumAt K H v x) : Dp K H v (dN x) := by
  obtain ⟨a, rfl, q⟩ := h
  exact .tup q (.cons (.int _) (.cons (.int _) (.cons (.int _) .nil)))
theorem dp_all {K : PySem.W.Frag} {H : Hp} : ∀ {vs : List V} {ds : List PyData}, vs.length = ds.length → (∀ (i : Nat) (v : V) (d : PyData), vs[i]? = some v → ds[i]? = some d → Dp K H v d) → DpAll K H vs ds
  | [], [], _, _ => .nil
  | [], _ :: _, h, _ => by cases h
  | _ :: _, [], h, _ => by cases h
  | v :: vs, d :: ds, h, g => .cons (g 0 v d rfl rfl) (dp_all (Nat.succ.inj h) fun i w e a b => g (i + 1) w e (by simpa using a) (by simpa using b))
theorem Nums.dp {K : PySem.W.Frag} {H : Hp} {vs : List V} {xs : List N3} (h : Nums K H vs xs) : DpAll K H vs (xs.map dN) := dp_all (by rw [List.length_map]; exact h.1) fun i v d a b => by
  rw [List.getElem?_map] at b
  obtain ⟨x, hx, rfl⟩ := Option.map_eq_some_iff.mp b
  exact (h.2 i v x a hx).dp
theorem shaped_dN (x : N3) : SeqAt.shaped (dN x) = true := by rfl
theorem lay_all {ds : List PyData} : (∀ d ∈ ds, d.canLay0 = true) → PyData.canLayAll0 ds = true := by
  intro h
  induction ds with
  | nil => rfl
  | cons d r ih =>
    unfold PyData.canLayAll0
    rw [h d (List.mem_cons_self ..), ih fun e m => h e (List.mem_cons_of_mem _ m)]
    rfl
theorem depth_all {k : Nat} : ∀ {ds : List PyData}, (∀ d ∈ ds, d.depth ≤ k) → PyData.depthAll ds ≤ k
  | [], _ => by unfold PyData.depthAll; exact Nat.zero_le _
  | d :: r, h => by
    unfold PyData.depthAll
    exact Nat.max_le.mpr ⟨h d (List.mem_cons_self ..), depth_all fun e m => h e (List.mem_cons_of_mem _ m)⟩
theorem shaped_list {ds : List PyData} (h : ∀ d ∈ ds, d.canLay0 = true ∧ d.depth ≤ 8) : SeqAt.shaped (.list ds) = true := by
  unfold SeqAt.shaped
  have h1 : PyData.canLay0 (.list ds) = true := by unfold PyData.canLay0; exact lay_all fun d m => (h d m).1
  have h2 : PyData.depth (.list ds) ≤ 64 := by
    unfold PyData.depth
    have := depth_all (k := 8) fun d m => (h d m).2
    omega
  rw [h1, decide_eq_true h2]
  rfl
theorem lay_dN (x : N3) : (dN x).canLay0 = true ∧ (dN x).depth ≤ 8 := ⟨rfl, by show 1 ≤ 8; decide⟩
theorem shaped_nums (xs : List N3) : SeqAt.shaped (.list (xs.map dN)) = true := shaped_list fun d m => by
  obtain ⟨x, _, rfl⟩ := List.mem_map.mp m
  exact lay_dN x
def dP (i : Int) (x : N3) : PyData := .tuple [.int i, dN x]
theorem lay_dP (i : Int) (x : N3) : (dP i x).canLay0 = true ∧ (dP i x).depth ≤ 8 := ⟨rfl, by show 2 ≤ 8; decide⟩
theorem eqv_self {d : PyData} (h : SeqAt.shaped d = true) : PyData.eqv d d = true := SeqAt.eqv_refl d (SeqAt.canLay_of_shaped h)
/-! ### changes -/
def laidL (xs : List N3) (os : List Nat) : List N3 := os.map fun i => xs.getD i zeroN
theorem laidL_ok {r : Int} {k : Nat} {xs : List N3} {os : List Nat} (h : ∀ x ∈ xs, Ok r k x) (hk : 1 ≤ k) : ∀ x ∈ laidL xs os, Ok r k x := fun x m => by
  obtain ⟨i, _, rfl⟩ := List.mem_map.mp m
  by_cases hi : i < xs.length
  · rw [List.getD_eq_getElem?_getD, List.getElem?_eq_getElem hi]
    exact h _ (List.getElem_mem _)
  · rw [List.getD_eq_getElem?_getD, List.getElem?_eq_none (by omega)]
    exact zero_ok r k hk
abbrev vO (os : List Nat) : List V := os.map fun (i : Nat) => V.int (i : Int)
/-- a change of the root r, its longs xs, its order os, stands at c -/
structure ChAt (K : PySem.W.Frag) (H : Hp) (c : Addr) (r : Int) (xs : List N3) (os : List Nat) : Prop where
  at_ : ∃ (L O : Addr) (vs : List V), H c = some (.tup [.int r, .ref L, .ref O]) ∧ H L = some (.tup vs) ∧ H O = some (.tup (vO os)) ∧ Nums K H vs xs
  ok : ∀ x ∈ xs, Ok r 20 x
  len : os.length = xs.length
  pos : 0 < xs.length
  few : xs.length ≤ 12
  perm : os.Perm (List.range xs.length)
theorem ChAt.mono {K : PySem.W.Frag} {H H' : Hp} {c : Addr} {r : Int} {xs : List N3} {os : List Nat} (h : ChAt K H c r xs os) (s : Same H H') : ChAt K H' c r xs os := by
  obtain ⟨⟨L, O, vs, h1, h2, h3, h4⟩, a, b, d, e, f⟩ := h
  exact ⟨⟨L, O, vs, s _ _ h1, s _ _ h2, s _ _ h3, h4.mono s⟩, a, b, d, e, f⟩
theorem ChAt.nd {K : PySem.W.Frag} {H : Hp} {c : Addr} {r : Int} {xs : List N3} {os : List Nat} (h : ChAt K H c r xs os) : os.Nodup := h.perm.nodup_iff.mpr List.nodup_range
theorem ChAt.lt {K : PySem.W.Frag} {H : Hp} {c : Addr} {r : Int} {xs : List N3} {os : List Nat} (h : ChAt K H c r xs os) {i : Nat} (m : i ∈ os) : i < xs.length := List.mem_range.mp (h.perm.mem_iff.mp m)
theorem laidL_len (xs : List N3) (os : List Nat) : (laidL xs os).length = os.length := by unfold laidL; rw [List.length_map]
theorem ends_take (xs : List N3) (m : Nat) : (ends xs (m + 1)).take m = ends xs m := by
  rw [ends_succ]
  have := ends_len xs m
  rw [List.take_append_of_le_length (by omega), List.take_of_length_le (by omega)]
theorem ends_ok {r : Int} {xs : List N3} (h : ∀ x ∈ xs, Ok r 20 x) (hl : xs.length ≤ 12) {m : Nat} (hm : m ≤ xs.length + 1) : ∀ x ∈ ends xs m, Ok r 400 x := fun x hx => by
  unfold ends at hx
  obtain ⟨i, hi, rfl⟩ := List.mem_map.mp hx
  exact pre_okB h hl (by have := List.mem_range.mp hi; omega)
def ZeroK (K : PySem.W.Frag) (a : Addr) : Prop := ∀ H, SqT K H a (vN zeroN)
theorem merge_out : ∀ {kvs acc : List (Key × V)} {k : Key}, k ∉ kvs.map (·.1) → valV (mergeK acc kvs) k = valV acc k
  | [], _, _, _ => rfl
  | p :: r, acc, k, h => by
    have h' : k ≠ p.1 ∧ k ∉ r.map (·.1) := by simpa using h
    show valV (mergeK (putK acc p.1 p.2) r) k = _
    rw [merge_out h'.2, valV_put, if_neg h'.1]
theorem merge_val : ∀ {kvs acc : List (Key × V)} {k : Key} {v : V}, (kvs.map (·.1)).Nodup → (k, v) ∈ kvs → valV (mergeK acc kvs) k = some v
  | [], _, _, _, _, m => by simp at m
  | p :: r, acc, k, v, nd, m => by
    have nd' : p.1 ∉ r.map (·.1) ∧ (r.map (·.1)).Nodup := List.nodup_cons.mp nd
    show valV (mergeK (putK acc p.1 p.2) r) k = _
    rcases List.mem_cons.mp m with e | m
    · subst e
      rw [merge_out nd'.1, valV_put, if_pos rfl]
    · exact merge_val nd'.2 m
theorem paired_of {α β : Type} {R : α → β → Prop} : ∀ {l : List α} {m : List β}, l.length = m.length → (∀ (i : Nat) (a : α) (b : β), l[i]? = some a → m[i]? = some b → R a b) → Paired R l m
  | [], [], _, _ => .nil
  | [], _ :: _, h, _ => by cases h
  | _ :: _, [], h, _ => by cases h
  | a :: l, b :: m, h, g => .cons (g 0 a b rfl rfl) (paired_of (Nat.succ.inj h) fun i a b x y => g (i + 1) a b (by simpa using x) (by simpa using y))
theorem nodup_map {α β : Type} {f : α → β} (hf : ∀ a b, f a = f b → a = b) : ∀ {l : List α}, l.Nodup → (l.map f).Nodup
  | [], _ => List.nodup_nil
  | a :: r, h => by
    have h' := List.nodup_cons.mp h
    refine List.nodup_cons.mpr ⟨fun m => ?_, nodup_map hf h'.2⟩
    obtain ⟨b, hb, e⟩ := List.mem_map.mp m
    exact h'.1 (hf _ _ e ▸ hb)
theorem flat_vO (os : List Nat) : (vO os).all flatV = true := by
  rw [List.all_eq_true]
  intro v m
  obtain ⟨i, _, rfl⟩ := List.mem_map.mp m
  rfl
theorem eqV_int (i : Int) : eqV (.int i) (.int i) = true := by simp [eqV]
theorem eqV_ne {i j : Int} (h : i ≠ j) : eqV (.int i) (.int j) = false := by simp [eqV]; exact h
theorem seq_ix {k n : Nat} (h : k < n) : seqIndex? (k : Int) n = some k := by
  unfold seqIndex?
  simp
  omega
theorem erase_map : ∀ (ls : List Nat) (k : Nat), (vO ls).eraseIdx k = vO (ls.eraseIdx k)
  | [], k => by cases k <;> rfl
  | a :: r, 0 => rfl
  | a :: r, k + 1 => by
    show _ :: (vO r).eraseIdx k = _ :: vO (r.eraseIdx k)
    rw [erase_map r k]
theorem erase_perm : ∀ {ls : List Nat} {k : Nat} (h : k < ls.length), ([ls[k]] ++ ls.eraseIdx k).Perm ls
  | [], _, h => absurd h (Nat.not_lt_zero _)
  | a :: r, 0, _ => List.Perm.refl _
  | a :: r, k + 1, h => by
    have h' : k < r.length := Nat.lt_of_succ_lt_succ h
    exact (List.Perm.swap a r[k] (r.eraseIdx k)).trans ((erase_perm h').cons a)
/-! ### pairs of a whole number and a number -/
def PrAt (K : PySem.W.Frag) (H : Hp) (v : V) (p : Int × N3) : Prop := ∃ T u, v = .ref T ∧ H T = some (.tup [.int p.1, u]) ∧ NumAt K H u p.2
def Prs (K : PySem.W.Frag) (H : Hp) (vs : List V) (ps : List (Int × N3)) : Prop := vs.length = ps.length ∧ ∀ (i : Nat) (v : V) (p : Int × N3), vs[i]? = some v → ps[i]? = some p → PrAt K H v p
theorem PrAt.mono {K : PySem.W.Frag} {H H' : Hp} {v : V} {p : Int × N3} (h : PrAt K H v p) (s : Same H H') : PrAt K H' v p := let ⟨T, u, e, a, b⟩ := h; ⟨T, u, e, s _ _ a, b.mono s⟩
theorem PrAt.monoX {K : PySem.W.Frag} {H H' : Hp} {q : Addr} {ys : List V} {v : V} {p : Int × N3} (h : PrAt K H v p) (s : SameX q H H') (hp : H q = some (.lst ys)) : PrAt K H' v p :=
  let ⟨T, u, e, a, b⟩ := h; ⟨T, u, e, s _ _ a (ne_of a hp (by intro z; cases z)), b.monoX s hp⟩
theorem PrAt.dp {K : PySem.W.Frag} {H : Hp} {v : V} {p : Int × N3} (h : PrAt K H v p) : Dp K H v (dP p.1 p.2) := by
  obtain ⟨T, u, rfl, a, b⟩ := h
  exact .tup (SqT.of a) (.cons (.int _) (.cons b.dp .nil))
theorem Prs.mono {K : PySem.W.Frag} {H H' : Hp} {vs : List V} {ps : List (Int × N3)} (h : Prs K H vs ps) (s : Same H H') : Prs K H' vs ps := ⟨h.1, fun i v p a b => (h.2 i v p a b).mono s⟩
theorem Prs.monoX {K : PySem.W.Frag} {H H' : Hp} {q : Addr} {ys vs : List V} {ps : List (Int × N3)} (h : Prs K H vs ps) (s : SameX q H H') (hp : H q = some (.lst ys)) : Prs K H' vs ps := ⟨h.1, fun i v p a b => (h.2 i v p a b).monoX s hp⟩
theorem Prs.nil {K : PySem.W.Frag} {H : Hp} : Prs K H [] [] := ⟨rfl, fun i v x a => by simp at a⟩
theorem Prs.snoc {K : PySem.W.Frag} {H : Hp} {vs : List V} {xs : List (Int × N3)} {v : V} {x : Int × N3} (h : Prs K H vs xs) (g : PrAt K H v x) : Prs K H (vs ++ [v]) (xs ++ [x]) := by
  refine ⟨by rw [List.length_append, List.length_append, h.1]; rfl, fun i w y a b => ?_⟩
  by_cases hi : i < vs.length
  · rw [List.getElem?_append_left hi] at a
    rw [List.getElem?_append_left (by rw [← h.1]; exact hi)] at b
    exact h.2 i w y a b
  · rw [List.getElem?_append_right (by omega)] at a
    rw [List.getElem?_append_right (by rw [← h.1]; omega)] at b
    rw [h.1] at a
    have hz : i - xs.length = 0 := by
      rcases Nat.eq_zero_or_pos (i - xs.length) with z | z
      · exact z
      · rw [List.getElem?_singleton, if_neg (by omega)] at a; cases a
    rw [hz] at a b
    cases a
    cases b
    exact g
theorem Prs.getV {K : PySem.W.Frag} {H : Hp} {vs : List V} {xs : List (Int × N3)} {i : Nat} {v : V} (h : Prs K H vs xs) (e : vs[i]? = some v) : ∃ x, xs[i]? = some x ∧ PrAt K H v x := by
  have hi : i < xs.length := by rw [← h.1]; exact (List.getElem?_eq_some_iff.mp e).1
  exact ⟨xs[i], List.getElem?_eq_getElem hi, h.2 i _ _ e (List.getElem?_eq_getElem hi)⟩
theorem Prs.dp {K : PySem.W.Frag} {H : Hp} {vs : List V} {ps : List (Int × N3)} (h : Prs K H vs ps) : DpAll K H vs (ps.map fun p => dP p.1 p.2) := dp_all (by rw [List.length_map]; exact h.1) fun i v d a b => by
  rw [List.getElem?_map] at b
  obtain ⟨x, hx, rfl⟩ := Option.map_eq_some_iff.mp b
  exact (h.2 i v x a hx).dp
theorem shaped_prs (ps : List (Int × N3)) : SeqAt.shaped (.list (ps.map fun p => dP p.1 p.2)) = true := shaped_list fun d m => by
  obtain ⟨x, _, rfl⟩ := List.mem_map.mp m
  exact lay_dP _ _
/-- the pieces as they lie -/
def laidP (xs : List N3) (os : List Nat) : List (Int × N3) := os.map fun (o : Nat) => ((o : Int), pre (laidL xs os) (os.idxOf o))
theorem laidP_at {xs : List N3} {os : List Nat} (nd : os.Nodup) {i : Nat} {o : Nat} (h : os[i]? = some o) : (laidP xs os)[i]? = some ((o : Int), pre (laidL xs os) i) := by
  obtain ⟨hi, e⟩ := List.getElem?_eq_some_iff.mp h
  have ei : os.idxOf o = i := by
    have m : o ∈ os := List.mem_of_getElem? h
    have hj : os.idxOf o < os.length := List.idxOf_lt_length_of_mem m
    exact nd_ix nd (by rw [List.getElem?_eq_getElem hj, List.getElem_idxOf hj]) h
  unfold laidP
  rw [List.getElem?_map, h]
  show some ((o : Int), pre (laidL xs os) (os.idxOf o)) = _
  rw [ei]
theorem laidP_len (xs : List N3) (os : List Nat) : (laidP xs os).length = os.length := by unfold laidP; rw [List.length_map]
end L2

end
section
namespace Num
/-! ### the order of a + b * root: signs by norms -/
def nrm (r a b : Int) : Int := a * a - r * (b * b)
/-- a + b * root is above 0 -/
def Pos (r a b : Int) : Prop := (0 < nrm r a b ∧ 0 < a) ∨ (nrm r a b < 0 ∧ 0 < b)
/-- no square but 0 is r times a square -/
def Irr (r : Int) : Prop := 0 ≤ r ∧ ∀ x y : Int, r ≠ 0 → x * x = r * (y * y) → y = 0
def Val (r b : Int) : Prop := r = 0 → b = 0
theorem Root.irr {r : Int} (h : Root r) : Irr r := ⟨by rcases h with h | h | h | h | h | h | h <;> omega, fun _ _ h0 e => no_sq h h0 e⟩
theorem sq_nn (x : Int) : 0 ≤ x * x := by
  rcases Int.le_total 0 x with h | h
  · exact Int.mul_nonneg h h
  · exact Int.mul_nonneg_of_nonpos_of_nonpos h h
theorem sq_zero {x : Int} (h : x * x = 0) : x = 0 := by
  rcases Int.mul_eq_zero.mp h with h | h <;> exact h
theorem nrm_zero {r a b : Int} (I : Irr r) (v : Val r b) (h : nrm r a b = 0) : a = 0 ∧ b = 0 := by
  unfold nrm at h
  have hb : b = 0 := by
    by_cases h0 : r = 0
    · exact v h0
    · exact I.2 a b h0 (by omega)
  subst hb
  exact ⟨sq_zero (by simpa using h), rfl⟩
theorem nrm_neg (r a b : Int) : nrm r (-a) (-b) = nrm r a b := by unfold nrm; grind
theorem nrm_mul (r a b c d : Int) : nrm r (a * c + r * (b * d)) (a * d + b * c) = nrm r a b * nrm r c d := by unfold nrm; grind
theorem Pos.not_zero {r a b : Int} (h : Pos r a b) : ¬ (a = 0 ∧ b = 0) := by
  rintro ⟨rfl, rfl⟩
  rcases h with ⟨_, h⟩ | ⟨_, h⟩ <;> omega
theorem Pos.not_neg {r a b : Int} (h : Pos r a b) : ¬ Pos r (-a) (-b) := by
  intro g
  unfold Pos at h g
  rw [nrm_neg] at g
  omega
theorem tri {r a b : Int} (I : Irr r) (v : Val r b) : (a = 0 ∧ b = 0) ∨ Pos r a b ∨ Pos r (-a) (-b) := by
  rcases Int.lt_trichotomy (nrm r a b) 0 with h | h | h
  · right
    have hb : b ≠ 0 := by
      rintro rfl
      have := sq_nn a
      unfold nrm at h
      simp at h
      omega
    rcases Int.lt_or_le 0 b with g | g
    · exact .inl (.inr ⟨h, g⟩)
    · exact .inr (.inr ⟨by rw [nrm_neg]; exact h, by omega⟩)
  · exact .inl (nrm_zero I v h)
  · right
    have ha : a ≠ 0 := by
      rintro rfl
      have := Int.mul_nonneg I.1 (sq_nn b)
      unfold nrm at h
      omega
    rcases Int.lt_or_le 0 a with g | g
    · exact .inl (.inl ⟨h, g⟩)
    · exact .inr (.inl ⟨by rw [nrm_neg]; exact h, by omega⟩)
/-- |y| < x from the squares -/
theorem abs_lt_sq {x y : Int} (hx : 0 ≤ x) (h : y * y < x * x) : -x < y ∧ y < x := by
  refine ⟨?_, lt_of_sq hx h⟩
  have : -y < x := lt_of_sq hx (by rw [Int.neg_mul_neg]; exact h)
  omega
theorem mul_lt_mul' {a b c d : Int} (ha : 0 ≤ a) (hc : 0 ≤ c) (h : a < b) (g : c < d) : a * c < b * d := by
  have h1 : a * c ≤ a * d := Int.mul_le_mul_of_nonneg_left (Int.le_of_lt g) ha
  have h2 : a * d < b * d := Int.mul_lt_mul_of_pos_right h (by omega)
  omega
/-- both norms above 0: a * c is above r * |b * d| -/
theorem pp {r a b c d : Int} (hr : 0 ≤ r) (h : 0 < nrm r a b) (ha : 0 < a) (g : 0 < nrm r c d) (hc : 0 < c) : -(a * c) < r * (b * d) ∧ r * (b * d) < a * c := by
  unfold nrm at h g
  refine abs_lt_sq (Int.le_of_lt (Int.mul_pos ha hc)) ?_
  have h1 := mul_lt_mul' (Int.mul_nonneg hr (sq_nn b)) (Int.mul_nonneg hr (sq_nn d)) (show r * (b * b) < a * a by omega) (show r * (d * d) < c * c by omega)
  have e1 : r * (b * d) * (r * (b * d)) = r * (b * b) * (r * (d * d)) := by grind
  have e2 : a * c * (a * c) = a * a * (c * c) := by grind
  omega
/-- both below: r * b * d is above |a * c| -/
theorem nn {r a b c d : Int} (h : nrm r a b < 0) (hb : 0 < b) (g : nrm r c d < 0) (hd : 0 < d) (hr : 0 ≤ r) : -(r * (b * d)) < a * c ∧ a * c < r * (b * d) := by
  unfold nrm at h g
  refine abs_lt_sq (Int.mul_nonneg hr (Int.le_of_lt (Int.mul_pos hb hd))) ?_
  have h1 := mul_lt_mul' (sq_nn a) (sq_nn c) (show a * a < r * (b * b) by omega) (show c * c < r * (d * d) by omega)
  have e1 : r * (b * d) * (r * (b * d)) = r * (b * b) * (r * (d * d)) := by grind
  have e2 : a * c * (a * c) = a * a * (c * c) := by grind
  omega
/-- one above, the other below: a * d is above |b * c| -/
theorem pn {r a b c d : Int} (hr : 0 ≤ r) (h : 0 < nrm r a b) (ha : 0 < a) (g : nrm r c d < 0) (hd : 0 < d) : -(a * d) < b * c ∧ b * c < a * d := by
  unfold nrm at h g
  have hr0 : 0 < r := by
    rcases Int.lt_or_le 0 r with q | q
    · exact q
    · have : r = 0 := by omega
      subst this
      have := sq_nn c
      simp at g
      omega
  refine abs_lt_sq (Int.le_of_lt (Int.mul_pos ha hd)) ?_
  have h1 := mul_lt_mul' (Int.mul_nonneg hr (sq_nn b)) (sq_nn c) (show r * (b * b) < a * a by omega) (show c * c < r * (d * d) by omega)
  have e1 : r * (b * b) * (c * c) = r * (b * c * (b * c)) := by grind
  have e2 : a * a * (r * (d * d)) = r * (a * d * (a * d)) := by grind
  rw [e1, e2] at h1
  exact Int.lt_of_mul_lt_mul_left h1 hr
theorem Pos.mul {r a b c d : Int} (hr : 0 ≤ r) (h : Pos r a b) (g : Pos r c d) : Pos r (a * c + r * (b * d)) (a * d + b * c) := by
  unfold Pos
  rw [nrm_mul]
  rcases h with ⟨h1, h2⟩ | ⟨h1, h2⟩
  · rcases g with ⟨g1, g2⟩ | ⟨g1, g2⟩
    · exact .inl ⟨Int.mul_pos h1 g1, by have := pp hr h1 h2 g1 g2; omega⟩
    · exact .inr ⟨Int.mul_neg_of_pos_of_neg h1 g1, by have := pn hr h1 h2 g1 g2; omega⟩
  · rcases g with ⟨g1, g2⟩ | ⟨g1, g2⟩
    · refine .inr ⟨Int.mul_neg_of_neg_of_pos h1 g1, ?_⟩
      have := pn hr g1 g2 h1 h2
      have e1 : d * a = a * d := Int.mul_comm _ _
      have e2 : c * b = b * c := Int.mul_comm _ _
      omega
    · exact .inl ⟨Int.mul_pos_of_neg_of_neg h1 g1, by have := nn h1 h2 g1 g2 hr; omega⟩
theorem nrm_add (r a b c d : Int) : nrm r (a + c) (b + d) = nrm r a b + nrm r c d + 2 * (a * c - r * (b * d)) := by unfold nrm; grind
theorem add_pp {r a b c d : Int} (hr : 0 ≤ r) (h : 0 < nrm r a b ∧ 0 < a) (g : 0 < nrm r c d ∧ 0 < c) : 0 < nrm r (a + c) (b + d) ∧ 0 < a + c := by
  have := pp hr h.1 h.2 g.1 g.2
  rw [nrm_add]
  omega
theorem add_nn {r a b c d : Int} (hr : 0 ≤ r) (h : nrm r a b < 0 ∧ 0 < b) (g : nrm r c d < 0 ∧ 0 < d) : nrm r (a + c) (b + d) < 0 ∧ 0 < b + d := by
  have := nn h.1 h.2 g.1 g.2 hr
  rw [nrm_add]
  omega
theorem add_pn {r a b c d : Int} (I : Irr r) (vb : Val r b) (vd : Val r d) (h : 0 < nrm r a b ∧ 0 < a) (g : nrm r c d < 0 ∧ 0 < d) : Pos r (a + c) (b + d) := by
  rcases Int.lt_trichotomy (nrm r (a + c) (b + d)) 0 with q | q | q
  · refine .inr ⟨q, ?_⟩
    rcases Int.lt_trichotomy 0 (b + d) with z | z | z
    · exact z
    · exfalso
      rw [← z] at q
      have := sq_nn (a + c)
      unfold nrm at q
      simp at q
      omega
    · exfalso
      have := add_nn I.1 g (c := -(a + c)) (d := -(b + d)) ⟨by rw [nrm_neg]; exact q, by omega⟩
      have e1 : c + -(a + c) = -a := by omega
      have e2 : d + -(b + d) = -b := by omega
      rw [e1, e2, nrm_neg] at this
      omega
  · exfalso
    have ⟨z1, z2⟩ := nrm_zero I (show Val r (b + d) from fun e => by rw [vb e, vd e]; rfl) q
    have e1 : c = -a := by omega
    have e2 : d = -b := by omega
    rw [e1, e2, nrm_neg] at g
    omega
  · refine .inl ⟨q, ?_⟩
    rcases Int.lt_trichotomy 0 (a + c) with z | z | z
    · exact z
    · exfalso
      rw [← z] at q
      have := Int.mul_nonneg I.1 (sq_nn (b + d))
      unfold nrm at q
      omega
    · exfalso
      have := add_pp I.1 h (c := -(a + c)) (d := -(b + d)) ⟨by rw [nrm_neg]; exact q, by omega⟩
      have e1 : a + -(a + c) = -c := by omega
      have e2 : b + -(b + d) = -d := by omega
      rw [e1, e2, nrm_neg] at this
      omega
theorem Pos.add {r a b c d : Int} (I : Irr r) (vb : Val r b) (vd : Val r d) (h : Pos r a b) (g : Pos r c d) : Pos r (a + c) (b + d) := by
  rcases h with h | h
  · rcases g with g | g
    · exact .inl (add_pp I.1 h g)
    · exact add_pn I vb vd h g
  · rcases g with g | g
    · have := add_pn I vd vb g h
      rw [Int.add_comm a c, Int.add_comm b d]
      exact this
    · exact .inr (add_nn I.1 h g)
theorem Pos.nat {r n : Int} (h : 0 < n) : Pos r n 0 := .inl ⟨by unfold nrm; have := Int.mul_pos h h; simp; omega, h⟩
theorem Pos.scale {r a b n : Int} (hr : 0 ≤ r) (h : 0 < n) (g : Pos r a b) : Pos r (n * a) (n * b) := by
  have := Pos.mul hr (Pos.nat (r := r) h) g
  simpa using this
theorem Pos.unscale {r a b n : Int} (I : Irr r) (v : Val r b) (h : 0 < n) (g : Pos r (n * a) (n * b)) : Pos r a b := by
  rcases tri (a := a) I v with ⟨rfl, rfl⟩ | q | q
  · exact absurd ⟨by simp, by simp⟩ g.not_zero
  · exact q
  · have := Pos.scale I.1 h q
    rw [Int.mul_neg, Int.mul_neg] at this
    exact absurd this g.not_neg
/-- what stands by a factor above 0 -/
theorem Pos.of_mul {r a b c d : Int} (I : Irr r) (va : Val r b) (h : Pos r c d) (g : Pos r (a * c + r * (b * d)) (a * d + b * c)) : Pos r a b := by
  rcases tri (a := a) I va with ⟨rfl, rfl⟩ | q | q
  · exact absurd ⟨by simp, by simp⟩ g.not_zero
  · exact q
  · have := Pos.mul I.1 q h
    have e1 : -a * c + r * (-b * d) = -(a * c + r * (b * d)) := by grind
    have e2 : -a * d + -b * c = -(a * d + b * c) := by grind
    rw [e1, e2] at this
    exact absurd this g.not_neg
/-! ### the law's sign, the program's test -/
theorem wor_pos {r a b : Int} (I : Irr r) (v : Val r b) (h : Pos r a b) : 0 < wor r a b := by
  unfold wor
  have hr := I.1
  have hbb := Int.mul_nonneg hr (sq_nn b)
  have eb : r * b * b = r * (b * b) := Int.mul_assoc _ _ _
  have en : r * b * -b = -(r * (b * b)) := by grind
  have ea : a * -a = -(a * a) := by grind
  rcases h with ⟨h1, h2⟩ | ⟨h1, h2⟩
  · unfold nrm at h1
    rw [if_neg (by omega)]
    split
    · rw [en]; omega
    · rw [eb]; have := Int.mul_pos h2 h2; omega
  · unfold nrm at h1
    rw [if_neg (show ¬ b < 0 by omega), eb]
    split
    · rw [ea]; omega
    · have := sq_nn a; omega
theorem wor_neg_eq (r a b : Int) : wor r (-a) (-b) = -wor r a b := by
  unfold wor
  have e : ∀ z : Int, (if -z < 0 then - -z else -z) = (if z < 0 then -z else z) := by
    intro z
    by_cases h : z < 0
    · rw [if_neg (by omega), if_pos h]
    · by_cases h2 : z = 0
      · subst h2; simp
      · rw [if_pos (by omega), if_neg h]; omega
  rw [e, e]; grind
theorem wor_lt_iff {r a b : Int} (I : Irr r) (v : Val r b) : wor r a b < 0 ↔ Pos r (-a) (-b) := by
  constructor
  · intro h
    rcases tri (a := a) I v with ⟨rfl, rfl⟩ | q | q
    · unfold wor at h; simp at h
    · have := wor_pos I v q; omega
    · exact q
  · intro h
    have := wor_pos I (fun e => by rw [v e]; rfl) h
    rw [wor_neg_eq] at this
    omega
/-- is_below_zero, as the program asks it -/
def below (r a b : Int) : Bool := if a < 0 then decide (b ≤ 0) || decide (r * b * b < a * a) else decide (b < 0) && decide (a * a < r * b * b)
theorem below_iff {r a b : Int} (I : Irr r) (v : Val r b) : below r a b = true ↔ Pos r (-a) (-b) := by
  have eb : r * b * b = r * (b * b) := Int.mul_assoc _ _ _
  have hbb := Int.mul_nonneg I.1 (sq_nn b)
  unfold below Pos
  rw [nrm_neg, eb]
  unfold nrm
  by_cases ha : a < 0
  · rw [if_pos ha]
    simp only [Bool.or_eq_true, decide_eq_true_eq]
    constructor
    · rintro (h | h)
      · rcases Int.lt_trichotomy (a * a - r * (b * b)) 0 with q | q | q
        · have hb : b ≠ 0 := by
            rintro rfl
            have := Int.mul_pos_of_neg_of_neg ha ha
            simp at q
            omega
          exact .inr ⟨q, by omega⟩
        · have := nrm_zero I v (show nrm r a b = 0 from q)
          omega
        · exact .inl ⟨q, by omega⟩
      · exact .inl ⟨by omega, by omega⟩
    · rintro (⟨h1, _⟩ | ⟨_, h2⟩)
      · exact .inr (by omega)
      · exact .inl (by omega)
  · rw [if_neg ha]
    simp only [Bool.and_eq_true, decide_eq_true_eq]
    constructor
    · rintro ⟨h1, h2⟩
      exact .inr ⟨by omega, by omega⟩
    · rintro (⟨_, h2⟩ | ⟨h1, h2⟩)
      · omega
      · exact ⟨by omega, by omega⟩
end Num

end
section
set_option Elab.async false
set_option linter.all false
/-! worths: pairs of fractions p + q·√r -/
namespace Wo
open Num
abbrev W := Rat × Rat
def ad (x y : W) : W := (x.1 + y.1, x.2 + y.2)
def sb (x y : W) : W := (x.1 - y.1, x.2 - y.2)
def ml (r : Int) (x y : W) : W := (x.1 * y.1 + r * (x.2 * y.2), x.1 * y.2 + x.2 * y.1)
def z : W := (0, 0)
theorem ext2 {x y : W} (h1 : x.1 = y.1) (h2 : x.2 = y.2) : x = y := Prod.ext h1 h2
def nr (r : Int) (x : W) : Rat := x.1 * x.1 - r * (x.2 * x.2)
/-- above 0 -/
def Ps (r : Int) (x : W) : Prop := (0 < nr r x ∧ 0 < x.1) ∨ (nr r x < 0 ∧ 0 < x.2)
def Vl (r : Int) (x : W) : Prop := r = 0 → x.2 = 0
def of3 (a b c : Int) : W := ((a : Rat) / c, (b : Rat) / c)
theorem castne {c : Int} (h : c ≠ 0) : (c : Rat) ≠ 0 := by exact_mod_cast h
theorem castpos {c : Int} (h : 0 < c) : (0 : Rat) < c := by exact_mod_cast h
theorem divpos {a c : Rat} (hc : 0 < c) : 0 < a / c ↔ 0 < a := by
  have hne : c ≠ 0 := by grind
  constructor
  · intro h
    have := Rat.mul_pos h hc
    have e : a / c * c = a := by grind
    rw [e] at this; exact this
  · intro h
    have hi : 0 < c⁻¹ := Rat.inv_pos.mpr hc
    have := Rat.mul_pos h hi
    have e : a * c⁻¹ = a / c := by grind
    rw [e] at this; exact this
theorem nr_of {r a b c : Int} (hc : 0 < c) : nr r (of3 a b c) = ((nrm r a b : Int) : Rat) / ((c : Rat) * c) := by
  have h0 := castne (c := c) (by omega)
  unfold nr of3 nrm
  simp only [Rat.intCast_sub, Rat.intCast_mul]
  grind
theorem ps_of {r a b c : Int} (hc : 0 < c) : Ps r (of3 a b c) ↔ Pos r a b := by
  have hcp := castpos hc
  have hcc : (0 : Rat) < (c : Rat) * c := Rat.mul_pos hcp hcp
  have ng : ∀ {x y : Rat}, 0 < y → (x / y < 0 ↔ x < 0) := fun {x y} hy => by
    have := divpos (a := -x) hy
    have e : -x / y = -(x / y) := by grind
    rw [e] at this
    constructor
    · intro h
      have := this.mp (by grind)
      grind
    · intro h
      have := this.mpr (by grind)
      grind
  unfold Ps Pos
  rw [nr_of hc, divpos hcc, ng hcc]
  show _ ∧ 0 < (a : Rat) / c ∨ _ ∧ 0 < (b : Rat) / c ↔ _
  rw [divpos hcp, divpos hcp]
  constructor
  · rintro (⟨h1, h2⟩ | ⟨h1, h2⟩)
    · exact .inl ⟨by exact_mod_cast h1, by exact_mod_cast h2⟩
    · exact .inr ⟨by exact_mod_cast h1, by exact_mod_cast h2⟩
  · rintro (⟨h1, h2⟩ | ⟨h1, h2⟩)
    · exact .inl ⟨by exact_mod_cast h1, by exact_mod_cast h2⟩
    · exact .inr ⟨by exact_mod_cast h1, by exact_mod_cast h2⟩
theorem vl_of {r a b c : Int} (hc : 0 < c) : Vl r (of3 a b c) ↔ Val r b := by
  have h0 := castne (c := c) (by omega)
  unfold Vl Val of3
  constructor
  · intro h e
    have := h e
    have e2 : (b : Rat) = 0 := by
      have : (b : Rat) / c = 0 := this
      grind
    exact_mod_cast e2
  · intro h e
    rw [h e]
    show ((0 : Int) : Rat) / (c : Rat) = 0
    simp only [Rat.intCast_zero]
    grind
theorem as3 (x : W) : ∃ a b c : Int, 0 < c ∧ x = of3 a b c := by
  obtain ⟨p, q⟩ := x
  have hp : (p.den : Rat) ≠ 0 := by have := p.den_nz; exact_mod_cast this
  have hq : (q.den : Rat) ≠ 0 := by have := q.den_nz; exact_mod_cast this
  have ep : p = (p.num : Rat) / (p.den : Rat) := by rw [← Rat.mkRat_eq_div, Rat.mkRat_self]
  have eq : q = (q.num : Rat) / (q.den : Rat) := by rw [← Rat.mkRat_eq_div, Rat.mkRat_self]
  refine ⟨p.num * (q.den : Int), q.num * (p.den : Int), (p.den : Int) * (q.den : Int), ?_, ?_⟩
  · have h1 := p.den_pos
    have h2 := q.den_pos
    exact Int.mul_pos (by omega) (by omega)
  · unfold of3
    refine ext2 ?_ ?_
    · show p = _
      simp only [Rat.intCast_mul, Rat.intCast_natCast]
      grind
    · show q = _
      simp only [Rat.intCast_mul, Rat.intCast_natCast]
      grind
theorem ad_of {a b c d e f : Int} (hc : 0 < c) (hf : 0 < f) : ad (of3 a b c) (of3 d e f) = of3 (a * f + d * c) (b * f + e * c) (c * f) := by
  have h0 := castne (c := c) (by omega)
  have h1 := castne (c := f) (by omega)
  unfold ad of3
  simp only [Rat.intCast_add, Rat.intCast_mul]
  refine ext2 ?_ ?_ <;> grind
theorem sb_of {a b c d e f : Int} (hc : 0 < c) (hf : 0 < f) : sb (of3 a b c) (of3 d e f) = of3 (a * f - d * c) (b * f - e * c) (c * f) := by
  have h0 := castne (c := c) (by omega)
  have h1 := castne (c := f) (by omega)
  unfold sb of3
  simp only [Rat.intCast_sub, Rat.intCast_mul]
  refine ext2 ?_ ?_ <;> grind
theorem ml_of {r a b c d e f : Int} (hc : 0 < c) (hf : 0 < f) : ml r (of3 a b c) (of3 d e f) = of3 (a * d + r * b * e) (a * e + b * d) (c * f) := by
  have h0 := castne (c := c) (by omega)
  have h1 := castne (c := f) (by omega)
  unfold ml of3
  simp only [Rat.intCast_add, Rat.intCast_mul]
  refine ext2 ?_ ?_ <;> grind
theorem Ps.ad {r : Int} {x y : W} (I : Irr r) (vx : Vl r x) (vy : Vl r y) (hx : Ps r x) (hy : Ps r y) : Ps r (ad x y) := by
  obtain ⟨a, b, c, hc, rfl⟩ := as3 x
  obtain ⟨d, e, f, hf, rfl⟩ := as3 y
  have p1 := (ps_of hc).mp hx
  have p2 := (ps_of hf).mp hy
  have v1 := (vl_of hc).mp vx
  have v2 := (vl_of hf).mp vy
  rw [ad_of hc hf, ps_of (Int.mul_pos hc hf)]
  have q1 := p1.scale I.1 hf
  have q2 := p2.scale I.1 hc
  have := q1.add I (fun e => by rw [v1 e]; simp) (fun e => by rw [v2 e]; simp) q2
  rw [Int.mul_comm a f, Int.mul_comm b f, Int.mul_comm d c, Int.mul_comm e c]
  exact this
theorem Ps.ml {r : Int} {x y : W} (I : Irr r) (hx : Ps r x) (hy : Ps r y) : Ps r (ml r x y) := by
  obtain ⟨a, b, c, hc, rfl⟩ := as3 x
  obtain ⟨d, e, f, hf, rfl⟩ := as3 y
  rw [ml_of hc hf, ps_of (Int.mul_pos hc hf), Int.mul_assoc r b e]
  exact ((ps_of hc).mp hx).mul I.1 ((ps_of hf).mp hy)
theorem tric {r : Int} {x : W} (I : Irr r) (v : Vl r x) : x = z ∨ Ps r x ∨ Ps r (sb z x) := by
  obtain ⟨a, b, c, hc, rfl⟩ := as3 x
  have h0 := castne (c := c) (by omega)
  have en : sb z (of3 a b c) = of3 (-a) (-b) c := by
    unfold sb z of3
    simp only [Rat.intCast_neg]
    refine ext2 ?_ ?_ <;> grind
  rw [en, ps_of hc, ps_of hc]
  rcases tri I ((vl_of hc).mp v) (a := a) with ⟨rfl, rfl⟩ | h | h
  · left
    unfold of3 z
    simp only [Rat.intCast_zero]
    exact ext2 (by show (0 : Rat) / c = 0; grind) (by show (0 : Rat) / c = 0; grind)
  · exact .inr (.inl h)
  · exact .inr (.inr h)
theorem Ps.irr {r : Int} (h : Ps r z) : False := by
  rcases h with ⟨_, h⟩ | ⟨_, h⟩ <;> exact absurd h (by unfold z; grind)
/-- less -/
def Lt (r : Int) (x y : W) : Prop := Ps r (sb y x)
theorem Lt.irr {r : Int} {x : W} (h : Lt r x x) : False := by
  refine Ps.irr (r := r) ?_
  have e : sb x x = z := by unfold sb z; exact ext2 (by grind) (by grind)
  rw [← e]; exact h
theorem Vl.ad {r : Int} {x y : W} (a : Vl r x) (b : Vl r y) : Vl r (ad x y) := fun e => by show x.2 + y.2 = 0; rw [a e, b e]; grind
theorem Vl.sb {r : Int} {x y : W} (a : Vl r x) (b : Vl r y) : Vl r (sb x y) := fun e => by show x.2 - y.2 = 0; rw [a e, b e]; grind
theorem Vl.ml {r : Int} {x y : W} (a : Vl r x) (b : Vl r y) : Vl r (ml r x y) := fun e => by show x.1 * y.2 + x.2 * y.1 = 0; rw [a e, b e]; grind
theorem Vl.z {r : Int} : Vl r z := fun _ => rfl
theorem Lt.trans {r : Int} {x y w : W} (I : Irr r) (vx : Vl r x) (vy : Vl r y) (vw : Vl r w) (a : Lt r x y) (b : Lt r y w) : Lt r x w := by
  have := Ps.ad I (vw.sb vy) (vy.sb vx) b a
  have e : Wo.ad (Wo.sb w y) (Wo.sb y x) = Wo.sb w x := by unfold Wo.ad Wo.sb; exact ext2 (by grind) (by grind)
  rw [e] at this
  exact this
theorem Lt.asym {r : Int} {x y : W} (I : Irr r) (vx : Vl r x) (vy : Vl r y) (a : Lt r x y) (b : Lt r y x) : False := (a.trans I vx vy vx b).irr
theorem Lt.tri {r : Int} {x y : W} (I : Irr r) (vx : Vl r x) (vy : Vl r y) : x = y ∨ Lt r x y ∨ Lt r y x := by
  rcases tric I (vy.sb vx) with h | h | h
  · left
    have h1 := congrArg Prod.fst h
    have h2 := congrArg Prod.snd h
    simp only [Wo.sb, Wo.z] at h1 h2
    exact ext2 (by grind) (by grind)
  · exact .inr (.inl h)
  · refine .inr (.inr ?_)
    have e : Wo.sb Wo.z (Wo.sb y x) = Wo.sb x y := by unfold Wo.sb Wo.z; exact ext2 (by grind) (by grind)
    rw [e] at h
    exact h
theorem Lt.adR {r : Int} {x y w : W} (a : Lt r x y) : Lt r (ad x w) (ad y w) := by
  have e : sb (ad y w) (ad x w) = sb y x := by unfold sb ad; exact ext2 (by grind) (by grind)
  unfold Lt
  rw [e]; exact a
/-- not above -/
def Le (r : Int) (x y : W) : Prop := ¬ Lt r y x
theorem Le.lt {r : Int} {x y w : W} (I : Irr r) (vx : Vl r x) (vy : Vl r y) (vw : Vl r w) (a : Le r x y) (b : Lt r y w) : Lt r x w := by
  rcases Lt.tri I vx vy with rfl | h | h
  · exact b
  · exact h.trans I vx vy vw b
  · exact absurd h a
theorem Lt.le {r : Int} {x y w : W} (I : Irr r) (vx : Vl r x) (vy : Vl r y) (vw : Vl r w) (a : Lt r x y) (b : Le r y w) : Lt r x w := by
  rcases Lt.tri I vy vw with rfl | h | h
  · exact a
  · exact a.trans I vx vy vw h
  · exact absurd h b
theorem Lt.toLe {r : Int} {x y : W} (I : Irr r) (vx : Vl r x) (vy : Vl r y) (a : Lt r x y) : Le r x y := fun b => a.asym I vx vy b
theorem Le.refl {r : Int} (x : W) : Le r x x := fun h => h.irr
theorem Le.trans {r : Int} {x y w : W} (I : Irr r) (vx : Vl r x) (vy : Vl r y) (vw : Vl r w) (a : Le r x y) (b : Le r y w) : Le r x w := fun h => b (h.le I vw vx vy a)
theorem Le.adR {r : Int} {x y w : W} (a : Le r x y) : Le r (ad x w) (ad y w) := fun h => a (by
  have e : sb (ad x w) (ad y w) = sb x y := by unfold sb ad; exact ext2 (by grind) (by grind)
  unfold Lt at h ⊢
  rw [e] at h; exact h)
end Wo

end
section
set_option Elab.async false
set_option linter.all false
set_option maxRecDepth 100000
namespace L2
open PySem PySem.Spec PyProof.Rows Num Wo
def wN (x : N3) : W := of3 x.1 x.2.1 x.2.2
theorem of3_scale {a b c d : Int} (hd : d ≠ 0) (hc : c ≠ 0) : of3 (d * a) (d * b) (d * c) = of3 a b c := by
  have h0 := castne hd
  have h1 := castne hc
  unfold of3
  simp only [Rat.intCast_mul]
  refine ext2 ?_ ?_ <;> grind
theorem wN_lw {a b c : Int} (hc : c ≠ 0) : wN (lw a b c) = of3 a b c := by
  have e := of3_scale (a := a.fdiv (dv a b c)) (b := b.fdiv (dv a b c)) (c := c.fdiv (dv a b c)) (dv_ne (a := a) (b := b) hc) (by have := low_pos (a := a) (b := b) hc; omega)
  rw [low_a, low_b, low_c] at e
  exact e.symm
theorem wN_add {x y : N3} (hx : 0 < x.2.2) (hy : 0 < y.2.2) : wN (addN x y) = ad (wN x) (wN y) := by
  unfold addN
  rw [wN_lw (by have := Int.mul_pos hx hy; omega)]
  exact (ad_of hx hy).symm
theorem wN_sub {x y : N3} (hx : 0 < x.2.2) (hy : 0 < y.2.2) : wN (subN x y) = sb (wN x) (wN y) := by
  unfold subN
  rw [wN_lw (by have := Int.mul_pos hx hy; omega)]
  exact (sb_of hx hy).symm
def mulN (r : Int) (x y : N3) : N3 := lw (x.1 * y.1 + r * x.2.1 * y.2.1) (x.1 * y.2.1 + x.2.1 * y.1) (x.2.2 * y.2.2)
theorem wN_mul {r : Int} {x y : N3} (hx : 0 < x.2.2) (hy : 0 < y.2.2) : wN (mulN r x y) = ml r (wN x) (wN y) := by
  unfold mulN
  rw [wN_lw (by have := Int.mul_pos hx hy; omega)]
  exact (ml_of hx hy).symm
theorem mulN_ok {r : Int} {k l : Nat} {x y : N3} (hr : Sz 10 r) (h : Ok r k x) (g : Ok r l y) : Ok r (k + l + 12) (mulN r x y) := by
  refine (lw_ok (k := k + l + 11) (by have := Int.mul_pos h.pos g.pos; omega) (fun e => by rw [h.root e, g.root e]; simp) ?_ ?_ ?_).mono (by omega)
  · exact ((h.za.mul g.za).add ((hr.mul h.zb).mul g.zb)).mono (by omega)
  · exact ((h.za.mul g.zb).add (h.zb.mul g.za)).mono (by omega)
  · exact (h.zc.mul g.zc).mono (by omega)
theorem lw_scale {r : Int} {k : Nat} {x : N3} (h : Ok r k x) {n : Int} (hn : 0 < n) : lw (n * x.1) (n * x.2.1) (n * x.2.2) = x := by
  have hc := h.pos
  have e3 : g3 (n * x.1) (n * x.2.1) (n * x.2.2) = n.natAbs := by
    unfold g3
    simp only [Int.natAbs_mul, Nat.gcd_mul_left]
    have := h.low
    unfold g3 at this
    rw [this, Nat.mul_one]
  have e4 : dv (n * x.1) (n * x.2.1) (n * x.2.2) = n := by
    unfold dv
    rw [e3, if_neg (by have := Int.mul_pos hn hc; omega)]
    omega
  unfold lw
  rw [e4, Int.mul_fdiv_cancel_left _ (by omega), Int.mul_fdiv_cancel_left _ (by omega), Int.mul_fdiv_cancel_left _ (by omega)]
theorem wN_inj {r : Int} {k l : Nat} {x y : N3} (hx : Ok r k x) (hy : Ok r l y) (e : wN x = wN y) : x = y := by
  have h0 := castne (c := x.2.2) (by have := hx.pos; omega)
  have h1 := castne (c := y.2.2) (by have := hy.pos; omega)
  have e1 : (x.1 : Rat) / x.2.2 = y.1 / y.2.2 := congrArg Prod.fst e
  have e2 : (x.2.1 : Rat) / x.2.2 = y.2.1 / y.2.2 := congrArg Prod.snd e
  have f1 : y.2.2 * x.1 = x.2.2 * y.1 := by
    have : (y.2.2 : Rat) * x.1 = x.2.2 * y.1 := by grind
    exact_mod_cast this
  have f2 : y.2.2 * x.2.1 = x.2.2 * y.2.1 := by
    have : (y.2.2 : Rat) * x.2.1 = x.2.2 * y.2.1 := by grind
    exact_mod_cast this
  have a1 := lw_scale hx hy.pos
  have a2 := lw_scale hy hx.pos
  rw [f1, f2, Int.mul_comm y.2.2 x.2.2, a2] at a1
  exact a1.symm
theorem Ok.vl {r : Int} {k : Nat} {x : N3} (h : Ok r k x) : Vl r (wN x) := (vl_of h.pos).mpr h.root
/-- the program's less -/
def ltN (r : Int) (x y : N3) : Bool := below r (x.1 * y.2.2 - y.1 * x.2.2) (x.2.1 * y.2.2 - y.2.1 * x.2.2)
theorem ltN_iff {r : Int} {k l : Nat} {x y : N3} (I : Irr r) (hx : Ok r k x) (hy : Ok r l y) : ltN r x y = true ↔ Lt r (wN x) (wN y) := by
  have e : sb (wN y) (wN x) = of3 (y.1 * x.2.2 - x.1 * y.2.2) (y.2.1 * x.2.2 - x.2.1 * y.2.2) (y.2.2 * x.2.2) := sb_of hy.pos hx.pos
  unfold ltN Lt
  rw [e, ps_of (Int.mul_pos hy.pos hx.pos), below_iff I (fun e => by rw [hx.root e, hy.root e]; simp)]
  rw [show -(x.1 * y.2.2 - y.1 * x.2.2) = y.1 * x.2.2 - x.1 * y.2.2 by omega, show -(x.2.1 * y.2.2 - y.2.1 * x.2.2) = y.2.1 * x.2.2 - x.2.1 * y.2.2 by omega]
theorem wN_zero : wN zeroN = z := by
  unfold wN of3 z zeroN
  simp only [Rat.intCast_zero, Rat.intCast_one]
  exact ext2 (by grind) (by grind)
end L2

end
section
set_option Elab.async false
set_option linter.all false
set_option maxRecDepth 100000
namespace L2
open Num Wo
/-! ### sums -/
theorem ad_comm (x y : W) : ad x y = ad y x := ext2 (by unfold ad; grind) (by unfold ad; grind)
theorem ad_assoc (x y w : W) : ad (ad x y) w = ad x (ad y w) := ext2 (by unfold ad; grind) (by unfold ad; grind)
theorem ad_zero (x : W) : ad x z = x := ext2 (by unfold ad z; grind) (by unfold ad z; grind)
theorem zero_ad (x : W) : ad z x = x := ext2 (by unfold ad z; grind) (by unfold ad z; grind)
def sumL (h : Nat → W) (l : List Nat) : W := l.foldl (fun t j => ad t (h j)) z
theorem sumL_snoc (h : Nat → W) (l : List Nat) (j : Nat) : sumL h (l ++ [j]) = ad (sumL h l) (h j) := by unfold sumL; rw [List.foldl_append]; rfl
theorem sumL_perm {h : Nat → W} {l m : List Nat} (p : l.Perm m) : sumL h l = sumL h m := by
  unfold sumL
  refine p.foldl_eq' (fun x _ y _ t => ?_) _
  rw [ad_assoc, ad_comm (h x), ← ad_assoc]
def sumR (h : Nat → W) (n : Nat) : W := sumL h (List.range n)
theorem sumR_succ (h : Nat → W) (n : Nat) : sumR h (n + 1) = ad (sumR h n) (h n) := by unfold sumR; rw [List.range_succ, sumL_snoc]
theorem sumR_zero (h : Nat → W) : sumR h 0 = z := rfl
theorem sumR_congr {h g : Nat → W} : ∀ {n : Nat}, (∀ i, i < n → h i = g i) → sumR h n = sumR g n
  | 0, _ => rfl
  | n + 1, e => by rw [sumR_succ, sumR_succ, sumR_congr fun i hi => e i (by omega), e n (by omega)]
theorem sumL_ix (h : Nat → W) (l : List Nat) : ∀ m, m ≤ l.length → sumL h (l.take m) = sumR (fun k => h (l.getD k 0)) m
  | 0, _ => by rw [List.take_zero]; rfl
  | m + 1, hm => by
    have e : l[m]? = some l[m] := List.getElem?_eq_getElem (by omega)
    rw [List.take_succ, e, sumR_succ, ← sumL_ix h l m (by omega)]
    show sumL h (l.take m ++ [l[m]]) = _
    rw [sumL_snoc, List.getD_eq_getElem?_getD, e]
    rfl
theorem sumR_sub (h g : Nat → W) : ∀ n, sumR (fun i => sb (h i) (g i)) n = sb (sumR h n) (sumR g n)
  | 0 => ext2 (by show (0 : Rat) = 0 - 0; grind) (by show (0 : Rat) = 0 - 0; grind)
  | n + 1 => by
    rw [sumR_succ, sumR_succ, sumR_succ, sumR_sub h g n]
    exact ext2 (by unfold ad sb; grind) (by unfold ad sb; grind)
/-- twice the products of unlike ones, and the squares: the square of the sum -/
theorem cross (r : Int) (w : Nat → W) : ∀ n, ad (ad (sumR (fun i => ml r (w i) (sumR w i)) n) (sumR (fun i => ml r (w i) (sumR w i)) n)) (sumR (fun i => ml r (w i) (w i)) n) = ml r (sumR w n) (sumR w n)
  | 0 => ext2 (by show (0 : Rat) + 0 + 0 = 0 * 0 + r * (0 * 0); grind) (by show (0 : Rat) + 0 + 0 = 0 * 0 + 0 * 0; grind)
  | n + 1 => by
    have ih := cross r w n
    simp only [sumR_succ]
    generalize sumR (fun i => ml r (w i) (sumR w i)) n = A at ih ⊢
    generalize sumR (fun i => ml r (w i) (w i)) n = B at ih ⊢
    generalize sumR w n = S at ih ⊢
    generalize w n = x
    have i1 := congrArg Prod.fst ih
    have i2 := congrArg Prod.snd ih
    simp only [ad, ml] at i1 i2
    refine ext2 ?_ ?_
    · simp only [ad, ml]
      grind
    · simp only [ad, ml]
      grind
/-! ### longs -/
abbrev Xw (xs : List N3) (i : Nat) : W := wN (xs.getD i zeroN)
abbrev Bw (xs : List N3) (i : Nat) : W := wN (pre xs i)
theorem getD_at {xs : List N3} {i : Nat} (h : i < xs.length) : xs[i]? = some (xs.getD i zeroN) := by rw [List.getD_eq_getElem?_getD, List.getElem?_eq_getElem h]; rfl
section
variable {r : Int} {xs : List N3}
theorem getD_ok (hok : ∀ x ∈ xs, Ok r 20 x) (i : Nat) : Ok r 20 (xs.getD i zeroN) := by
  by_cases h : i < xs.length
  · exact hok _ (List.mem_of_getElem? (getD_at h))
  · rw [List.getD_eq_getElem?_getD, List.getElem?_eq_none (by omega)]; exact zero_ok r 20 (by decide)
theorem Bw_succ (hok : ∀ x ∈ xs, Ok r 20 x) {i : Nat} (h : i < xs.length) : Bw xs (i + 1) = ad (Bw xs i) (Xw xs i) := by
  show wN (pre xs (i + 1)) = _
  rw [pre_succ (getD_at h)]
  exact wN_add (pre_ok hok i (by omega)).pos (getD_ok hok i).pos
theorem Bw_zero : Bw xs 0 = z := wN_zero
theorem Bw_sum (hok : ∀ x ∈ xs, Ok r 20 x) : ∀ {i : Nat}, i ≤ xs.length → Bw xs i = sumR (Xw xs) i
  | 0, _ => Bw_zero
  | i + 1, h => by rw [Bw_succ hok (by omega), sumR_succ, Bw_sum hok (by omega)]
theorem Bw_vl (hok : ∀ x ∈ xs, Ok r 20 x) {i : Nat} (h : i ≤ xs.length) : Vl r (Bw xs i) := (pre_ok hok i h).vl
theorem Bw_lt (I : Irr r) (hok : ∀ x ∈ xs, Ok r 20 x) (hp : ∀ x ∈ xs, Ps r (wN x)) {i : Nat} (h : i < xs.length) : Lt r (Bw xs i) (Bw xs (i + 1)) := by
  unfold Lt
  rw [Bw_succ hok h]
  have e : sb (ad (Bw xs i) (Xw xs i)) (Bw xs i) = Xw xs i := ext2 (by unfold sb ad; grind) (by unfold sb ad; grind)
  rw [e]
  exact hp _ (List.mem_of_getElem? (getD_at h))
theorem Bw_mono (I : Irr r) (hok : ∀ x ∈ xs, Ok r 20 x) (hp : ∀ x ∈ xs, Ps r (wN x)) {i : Nat} : ∀ {j : Nat}, i ≤ j → j ≤ xs.length → Le r (Bw xs i) (Bw xs j)
  | 0, h, _ => by
    have : i = 0 := by omega
    subst this
    exact Le.refl _
  | j + 1, h, hj => by
    rcases Nat.lt_or_ge i (j + 1) with q | q
    · exact (Bw_mono I hok hp (by omega : i ≤ j) (by omega)).trans I (Bw_vl hok (by omega)) (Bw_vl hok (by omega)) (Bw_vl hok hj) ((Bw_lt I hok hp (by omega)).toLe I (Bw_vl hok (by omega)) (Bw_vl hok hj))
    · have : i = j + 1 := by omega
      subst this
      exact Le.refl _
/-- the piece of a point -/
structure In (r : Int) (xs : List N3) (i : Nat) (x : W) : Prop where
  lt : i < xs.length
  lo : Le r (Bw xs i) x
  hi : Lt r x (Bw xs (i + 1))
theorem In.uniq (I : Irr r) (hok : ∀ x ∈ xs, Ok r 20 x) (hp : ∀ x ∈ xs, Ps r (wN x)) {i j : Nat} {x : W} (vx : Vl r x) (a : In r xs i x) (b : In r xs j x) : i = j := by
  have key : ∀ {i j : Nat}, In r xs i x → In r xs j x → ¬ i < j := fun {i j} a b h => by
    have h1 := Bw_mono I hok hp (i := i + 1) (j := j) (by omega) (by have := b.lt; omega)
    have v1 := Bw_vl (r := r) hok (i := i + 1) (by have := a.lt; omega)
    have v2 := Bw_vl (r := r) hok (i := j) (by have := b.lt; omega)
    exact b.lo (a.hi.le I vx v1 v2 h1)
  have := key a b
  have := key b a
  omega
theorem In.bounds (I : Irr r) (hok : ∀ x ∈ xs, Ok r 20 x) (hp : ∀ x ∈ xs, Ps r (wN x)) {i : Nat} {x : W} (vx : Vl r x) (a : In r xs i x) : Le r z x ∧ Lt r x (Bw xs xs.length) := by
  have h := a.lt
  have v0 := Bw_vl (r := r) hok (i := 0) (by omega)
  have vi := Bw_vl (r := r) hok (i := i) (by omega)
  have vj := Bw_vl (r := r) hok (i := i + 1) (by omega)
  have vn := Bw_vl (r := r) hok (i := xs.length) (Nat.le_refl _)
  have m1 := Bw_mono I hok hp (i := 0) (j := i) (by omega) (by omega)
  have m2 := Bw_mono I hok hp (i := i + 1) (j := xs.length) (by omega) (by omega)
  rw [Bw_zero] at m1
  exact ⟨m1.trans I Vl.z vi vx a.lo, a.hi.le I vx vj vn m2⟩
theorem In.start (I : Irr r) (hok : ∀ x ∈ xs, Ok r 20 x) (hp : ∀ x ∈ xs, Ps r (wN x)) {i : Nat} (h : i < xs.length) : In r xs i (Bw xs i) := ⟨h, Le.refl _, Bw_lt I hok hp h⟩
/-- moved along -/
theorem In.move {ys : List N3} (I : Irr r) (hok : ∀ x ∈ xs, Ok r 20 x) (hoy : ∀ x ∈ ys, Ok r 20 x) {i k : Nat} {x : W} (a : In r xs i x) (hk : k < ys.length) (e : Xw ys k = Xw xs i) : In r ys k (ad x (sb (Bw ys k) (Bw xs i))) := by
  have e0 : ad (Bw xs i) (sb (Bw ys k) (Bw xs i)) = Bw ys k := ext2 (by unfold sb ad; grind) (by unfold sb ad; grind)
  have e1 : ad (Bw xs (i + 1)) (sb (Bw ys k) (Bw xs i)) = Bw ys (k + 1) := by
    rw [Bw_succ hok a.lt, Bw_succ hoy hk, e]
    exact ext2 (by unfold sb ad; grind) (by unfold sb ad; grind)
  refine ⟨hk, ?_, ?_⟩
  · have := Le.adR (w := sb (Bw ys k) (Bw xs i)) a.lo
    rw [e0] at this
    exact this
  · have := Lt.adR (w := sb (Bw ys k) (Bw xs i)) a.hi
    rw [e1] at this
    exact this
end
/-! ### orders -/
section
variable {r : Int} {xs : List N3} {os : List Nat}
theorem perm_get (hp : os.Perm (List.range xs.length)) {i : Nat} (h : i < xs.length) : os.idxOf i < os.length ∧ os.getD (os.idxOf i) 0 = i := by
  have m : i ∈ os := hp.mem_iff.mpr (List.mem_range.mpr h)
  have h1 := List.idxOf_lt_length_of_mem m
  refine ⟨h1, ?_⟩
  rw [List.getD_eq_getElem?_getD, List.getElem?_eq_getElem h1]
  exact List.getElem_idxOf h1
theorem laid_X (xs : List N3) (os : List Nat) {k : Nat} (h : k < os.length) : Xw (laidL xs os) k = Xw xs (os.getD k 0) := by
  unfold Xw laidL
  rw [List.getD_eq_getElem?_getD, List.getElem?_map, List.getElem?_eq_getElem h, List.getD_eq_getElem?_getD (l := os), List.getElem?_eq_getElem h]
  rfl
theorem laid_pos (hl : os.length = xs.length) (hq : os.Perm (List.range xs.length)) (hp : ∀ x ∈ xs, Ps r (wN x)) : ∀ x ∈ laidL xs os, Ps r (wN x) := fun x m => by
  unfold laidL at m
  obtain ⟨i, hi, rfl⟩ := List.mem_map.mp m
  have h : i < xs.length := List.mem_range.mp (hq.mem_iff.mp hi)
  exact hp _ (List.mem_of_getElem? (getD_at h))
/-- where piece i begins behind a go, how far it moves -/
abbrev Lw (xs : List N3) (os : List Nat) (i : Nat) : W := Bw (laidL xs os) (os.idxOf i)
abbrev Mw (xs : List N3) (os : List Nat) (i : Nat) : W := sb (Lw xs os i) (Bw xs i)
theorem whole_laid (hl : os.length = xs.length) (hok : ∀ x ∈ xs, Ok r 20 x) (hq : os.Perm (List.range xs.length)) : Bw (laidL xs os) os.length = Bw xs xs.length := by
  rw [Bw_sum (r := r) (laidL_ok hok (by decide)) (by rw [laidL_len]; exact Nat.le_refl _), Bw_sum hok (Nat.le_refl _)]
  rw [sumR_congr fun i hi => laid_X xs os hi]
  rw [← sumL_ix (Xw xs) os os.length (Nat.le_refl _), List.take_of_length_le (Nat.le_refl _)]
  exact sumL_perm hq
theorem balanced (hl : os.length = xs.length) (hok : ∀ x ∈ xs, Ok r 20 x) (hq : os.Perm (List.range xs.length)) : sumR (fun i => ml r (Xw xs i) (Mw xs os i)) xs.length = z := by
  have nd : os.Nodup := hq.nodup_iff.mpr List.nodup_range
  have e1 : ∀ i, ml r (Xw xs i) (Mw xs os i) = sb (ml r (Xw xs i) (Lw xs os i)) (ml r (Xw xs i) (Bw xs i)) := fun i => ext2 (by unfold Mw ml sb; grind) (by unfold Mw ml sb; grind)
  rw [sumR_congr fun i _ => e1 i, sumR_sub]
  -- the laid ones, in their order
  have e2 : sumR (fun i => ml r (Xw xs i) (Lw xs os i)) xs.length = sumR (fun k => ml r (Xw (laidL xs os) k) (sumR (Xw (laidL xs os)) k)) os.length := by
    show sumL _ (List.range xs.length) = _
    rw [← sumL_perm hq, ← List.take_of_length_le (Nat.le_refl os.length), sumL_ix _ os _ (Nat.le_refl _), List.take_of_length_le (Nat.le_refl _)]
    refine sumR_congr fun k hk => ?_
    have ek : os.idxOf (os.getD k 0) = k := by
      rw [List.getD_eq_getElem?_getD, List.getElem?_eq_getElem hk]
      exact nd.idxOf_getElem k hk
    rw [laid_X xs os hk]
    show ml r _ (Bw (laidL xs os) (os.idxOf (os.getD k 0))) = _
    rw [ek, Bw_sum (r := r) (laidL_ok hok (by decide)) (by rw [laidL_len]; omega)]
  have e3 : sumR (fun i => ml r (Xw xs i) (Bw xs i)) xs.length = sumR (fun i => ml r (Xw xs i) (sumR (Xw xs) i)) xs.length := sumR_congr fun i hi => by rw [Bw_sum hok (by omega)]
  rw [e2, e3]
  have c1 := cross r (Xw (laidL xs os)) os.length
  have c2 := cross r (Xw xs) xs.length
  have s1 : sumR (Xw (laidL xs os)) os.length = sumR (Xw xs) xs.length := by
    have := whole_laid hl hok hq
    rw [Bw_sum (r := r) (laidL_ok hok (by decide)) (by rw [laidL_len]; exact Nat.le_refl _), Bw_sum hok (Nat.le_refl _)] at this
    exact this
  have s2 : sumR (fun i => ml r (Xw (laidL xs os) i) (Xw (laidL xs os) i)) os.length = sumR (fun i => ml r (Xw xs i) (Xw xs i)) xs.length := by
    rw [sumR_congr (g := fun k => (fun i => ml r (Xw xs i) (Xw xs i)) (os.getD k 0)) fun i hi => by rw [laid_X xs os hi]]
    rw [← sumL_ix (fun i => ml r (Xw xs i) (Xw xs i)) os os.length (Nat.le_refl _), List.take_of_length_le (Nat.le_refl _)]
    exact sumL_perm hq
  rw [s1, s2, ← c2] at c1
  generalize sumR (fun k => ml r (Xw (laidL xs os) k) (sumR (Xw (laidL xs os)) k)) os.length = A at c1 ⊢
  generalize sumR (fun i => ml r (Xw xs i) (sumR (Xw xs) i)) xs.length = B at c1 ⊢
  have h1 := congrArg Prod.fst c1
  have h2 := congrArg Prod.snd c1
  simp only [ad] at h1 h2
  exact ext2 (by show A.1 - B.1 = 0; grind) (by show A.2 - B.2 = 0; grind)
end
end L2

end
section
set_option Elab.async false
set_option linter.all false
set_option maxRecDepth 100000
namespace L2
open Num Wo
def mvN (xs : List N3) (os : List Nat) (i : Nat) : N3 := subN (pre (laidL xs os) (os.idxOf i)) (pre xs i)
theorem Root.sz {r : Int} (h : Root r) : Sz 10 r := Sz.sm 13 (by rcases h with h | h | h | h | h | h | h <;> omega)
theorem z_sb (x y : W) : sb (ad x y) y = x := ext2 (by unfold sb ad; grind) (by unfold sb ad; grind)
theorem sb_ad (x y : W) : ad (sb x y) y = x := ext2 (by unfold sb ad; grind) (by unfold sb ad; grind)
theorem ad_sb (x y : W) : sb (ad x y) x = y := ext2 (by unfold sb ad; grind) (by unfold sb ad; grind)
theorem goes_back {r : Int} {k l : Nat} {x m : N3} (hx : Ok r k x) (hm : Ok r l m) : subN (addN x m) m = x :=
  wN_inj (subN_ok (addN_ok hx hm) hm) hx (by rw [wN_sub (addN_ok hx hm).pos hm.pos, wN_add hx.pos hm.pos, z_sb])
theorem back_goes {r : Int} {k l : Nat} {x m : N3} (hx : Ok r k x) (hm : Ok r l m) : addN (subN x m) m = x :=
  wN_inj (addN_ok (subN_ok hx hm) hm) hx (by rw [wN_add (subN_ok hx hm).pos hm.pos, wN_sub hx.pos hm.pos, sb_ad])
theorem goes_by {r : Int} {k l : Nat} {x m : N3} (hx : Ok r k x) (hm : Ok r l m) : subN (addN x m) x = m :=
  wN_inj (subN_ok (addN_ok hx hm) hx) hm (by rw [wN_sub (addN_ok hx hm).pos hx.pos, wN_add hx.pos hm.pos, ad_sb])
section
variable {r : Int} {xs : List N3} {os : List Nat}
theorem mvN_ok (hok : ∀ x ∈ xs, Ok r 20 x) (h12 : xs.length ≤ 12) (hl : os.length = xs.length) (hq : os.Perm (List.range xs.length)) {i : Nat} (h : i < xs.length) : Ok r 802 (mvN xs os i) :=
  subN_ok (pre_okB (laidL_ok hok (by decide)) (by rw [laidL_len]; omega) (by rw [laidL_len]; exact Nat.le_of_lt (perm_get hq h).1)) (pre_okB hok h12 (by omega))
theorem mvN_w (hok : ∀ x ∈ xs, Ok r 20 x) (h12 : xs.length ≤ 12) (hl : os.length = xs.length) (hq : os.Perm (List.range xs.length)) {i : Nat} (h : i < xs.length) : wN (mvN xs os i) = Mw xs os i :=
  wN_sub (pre_okB (r := r) (laidL_ok hok (by decide)) (by rw [laidL_len]; omega) (by rw [laidL_len]; exact Nat.le_of_lt (perm_get hq h).1)).pos (pre_okB hok h12 (by omega)).pos
theorem laid_at (hq : os.Perm (List.range xs.length)) {i : Nat} (h : i < xs.length) : Xw (laidL xs os) (os.idxOf i) = Xw xs i := by
  obtain ⟨h1, h2⟩ := perm_get hq h
  rw [laid_X xs os h1, h2]
theorem goes_in (I : Irr r) (hok : ∀ x ∈ xs, Ok r 20 x) (h12 : xs.length ≤ 12) (hl : os.length = xs.length) (hq : os.Perm (List.range xs.length)) {i k : Nat} {x : N3} (hx : Ok r k x) (a : In r xs i (wN x)) :
    In r (laidL xs os) (os.idxOf i) (wN (addN x (mvN xs os i))) := by
  rw [wN_add hx.pos (mvN_ok hok h12 hl hq a.lt).pos, mvN_w hok h12 hl hq a.lt]
  exact In.move I hok (laidL_ok hok (by decide)) a (by rw [laidL_len]; exact (perm_get hq a.lt).1) (laid_at hq a.lt)
theorem got_lt (hl : os.length = xs.length) (hq : os.Perm (List.range xs.length)) {k : Nat} (h : k < os.length) : os.getD k 0 < xs.length ∧ os.idxOf (os.getD k 0) = k ∧ os[k]? = some (os.getD k 0) := by
  have nd : os.Nodup := hq.nodup_iff.mpr List.nodup_range
  have e : os.getD k 0 = os[k] := by rw [List.getD_eq_getElem?_getD, List.getElem?_eq_getElem h]; rfl
  rw [e]
  exact ⟨List.mem_range.mp (hq.mem_iff.mp (List.getElem_mem h)), nd.idxOf_getElem k h, List.getElem?_eq_getElem h⟩
theorem came_in (I : Irr r) (hok : ∀ x ∈ xs, Ok r 20 x) (h12 : xs.length ≤ 12) (hl : os.length = xs.length) (hq : os.Perm (List.range xs.length)) {k l : Nat} {x : N3} (hx : Ok r l x) (a : In r (laidL xs os) k (wN x)) :
    In r xs (os.getD k 0) (wN (subN x (mvN xs os (os.getD k 0)))) := by
  have hk : k < os.length := by have := a.lt; rw [laidL_len] at this; exact this
  obtain ⟨h1, h2, _⟩ := got_lt hl hq hk
  rw [wN_sub hx.pos (mvN_ok hok h12 hl hq h1).pos, mvN_w hok h12 hl hq h1]
  have e : sb (wN x) (Mw xs os (os.getD k 0)) = ad (wN x) (sb (Bw xs (os.getD k 0)) (Bw (laidL xs os) k)) := by
    have : Mw xs os (os.getD k 0) = sb (Bw (laidL xs os) k) (Bw xs (os.getD k 0)) := by
      show sb (Bw (laidL xs os) (os.idxOf (os.getD k 0))) _ = _
      rw [h2]
    rw [this]
    exact ext2 (by unfold sb ad; grind) (by unfold sb ad; grind)
  rw [e]
  exact In.move I (laidL_ok hok (by decide)) hok a h1 (laid_X xs os hk).symm
end
end L2
namespace L2
open Num Wo
theorem wor_up {r a b : Int} (I : Irr r) (v : Val r b) (h : 0 < wor r a b) : Pos r a b := by
  rcases tri I v (a := a) with ⟨rfl, rfl⟩ | h1 | h1
  · exact absurd h (by simp [wor])
  · exact h1
  · have := (wor_lt_iff I v).mpr h1
    omega
theorem long_up {r a b c : Int} (hR : Root r) (ha : 1 ≤ a) (hc : 1 ≤ c) (h1 : -3 ≤ b) (h2 : b ≤ 3) : Pos r (a * 1 + 12 * c) (b * 1 + 0 * c) := by
  have hn : 13 * 13 ≤ (a * 1 + 12 * c) * (a * 1 + 12 * c) := Int.mul_le_mul (by omega) (by omega) (by decide) (by omega)
  refine .inl ⟨?_, by omega⟩
  unfold nrm
  have hb : b * 1 + 0 * c = b := by omega
  rw [hb]
  have hbb : b * b ≤ 9 ∧ 0 ≤ b * b := by
    have : b = -3 ∨ b = -2 ∨ b = -1 ∨ b = 0 ∨ b = 1 ∨ b = 2 ∨ b = 3 := by omega
    rcases this with rfl | rfl | rfl | rfl | rfl | rfl | rfl <;> decide
  generalize b * b = q at *
  generalize (a * 1 + 12 * c) * (a * 1 + 12 * c) = m at *
  rcases hR with h | h | h | h | h | h | h <;> subst h <;> omega
/-- a share of a long -/
theorem share_in {r a b c s t : Int} (I : Irr r) (hc : 0 < c) (v : Val r b) (hp : Pos r a b) (hs : 0 ≤ s) (ht : s < t) : Le r z (of3 (a * s) (b * s) (c * t)) ∧ Lt r (of3 (a * s) (b * s) (c * t)) (of3 a b c) := by
  have hct : 0 < c * t := Int.mul_pos hc (by omega)
  constructor
  · intro h
    rcases Int.lt_or_eq_of_le hs with h0 | h0
    · have p1 : Ps r (of3 (a * s) (b * s) (c * t)) := (ps_of hct).mpr (by rw [Int.mul_comm a, Int.mul_comm b]; exact hp.scale I.1 h0)
      have e : sb z (of3 (a * s) (b * s) (c * t)) = of3 (-(a * s)) (-(b * s)) (c * t) := by
        have h0 := castne (c := c * t) (by omega)
        unfold sb z of3
        simp only [Rat.intCast_neg]
        refine ext2 ?_ ?_ <;> grind
      unfold Lt at h
      rw [e, ps_of hct] at h
      exact ((ps_of hct).mp p1).not_neg h
    · subst h0
      rw [Int.mul_zero, Int.mul_zero] at h
      refine Lt.irr (r := r) (x := z) ?_
      have e : of3 0 0 (c * t) = z := by
        have h0 := castne (c := c * t) (by omega)
        unfold of3 z
        simp only [Rat.intCast_zero]
        exact ext2 (by show (0 : Rat) / _ = 0; grind) (by show (0 : Rat) / _ = 0; grind)
      rw [e] at h
      exact h
  · unfold Lt
    rw [sb_of hc hct, ps_of (Int.mul_pos hc hct)]
    have e1 : a * (c * t) - a * s * c = c * (t - s) * a := by grind
    have e2 : b * (c * t) - b * s * c = c * (t - s) * b := by grind
    rw [e1, e2]
    exact hp.scale I.1 (Int.mul_pos hc (by omega))
end L2
namespace L2
open Num Wo PySem
theorem ChAt.monoX {K : PySem.W.Frag} {H H' : Hp} {c p : Addr} {ys : List V} {r : Int} {xs : List N3} {os : List Nat} (h : ChAt K H c r xs os) (s : SameX p H H') (hp : H p = some (.lst ys)) : ChAt K H' c r xs os := by
  obtain ⟨⟨L, O, vs, h1, h2, h3, h4⟩, a, b, d, e, f⟩ := h
  exact ⟨⟨L, O, vs, s _ _ h1 (ne_of h1 hp (by intro z; cases z)), s _ _ h2 (ne_of h2 hp (by intro z; cases z)), s _ _ h3 (ne_of h3 hp (by intro z; cases z)), h4.monoX s hp⟩, a, b, d, e, f⟩
theorem dN_ne {x y : N3} (h : x ≠ y) : PyData.eqv (dN x) (dN y) = false := by
  obtain ⟨a, b, c⟩ := x
  obtain ⟨d, e, f⟩ := y
  show (PyData.eqvAll [.int a, .int b, .int c] [.int d, .int e, .int f]) = false
  by_cases h1 : a = d
  · by_cases h2 : b = e
    · by_cases h3 : c = f
      · subst h1; subst h2; subst h3; exact absurd rfl h
      · simp [PyData.eqvAll, PyData.eqv, h3]
    · simp [PyData.eqvAll, PyData.eqv, h2]
  · simp [PyData.eqvAll, PyData.eqv, h1]
theorem dN_eqv (x y : N3) : PyData.eqv (dN x) (dN y) = decide (x = y) := by
  by_cases h : x = y
  · subst h
    rw [eqv_self (shaped_dN x), decide_eq_true rfl]
  · rw [dN_ne h, decide_eq_false h]
end L2
namespace L2
open Num Wo PySem
theorem dp_ints {K : PySem.W.Frag} {H : Hp} : ∀ ns : List Int, DpAll K H (ns.map V.int) (ns.map PyData.int)
  | [] => .nil
  | n :: r => .cons (.int n) (dp_ints r)
theorem shaped_ints (ns : List Int) : SeqAt.shaped (.list (ns.map PyData.int)) = true := shaped_list fun d m => by
  obtain ⟨i, _, rfl⟩ := List.mem_map.mp m
  exact ⟨rfl, by show 0 ≤ 8; decide⟩
theorem sorted_range {n : Nat} {os : List Nat} {ns : List Int} (hp : os.Perm (List.range n)) (h1 : ns.Perm (os.map fun (i : Nat) => (i : Int))) (h2 : ns.Pairwise (· ≤ ·)) : ns = (List.range n).map fun (i : Nat) => (i : Int) := by
  refine List.Perm.eq_of_pairwise (le := (· ≤ ·)) (fun a b _ _ h g => by omega) h2 ?_ (h1.trans (hp.map _))
  rw [List.pairwise_map]
  exact (List.pairwise_lt_range).imp fun h => by omega
theorem vO_eq (os : List Nat) : vO os = (os.map fun (i : Nat) => (i : Int)).map V.int := by rw [List.map_map]; rfl
section
variable {r : Int} {xs : List N3} {os : List Nat}
/-- the begins of the pieces go to the begins of the laid ones -/
theorem begin_goes (hok : ∀ x ∈ xs, Ok r 20 x) (h12 : xs.length ≤ 12) (hl : os.length = xs.length) (hq : os.Perm (List.range xs.length)) {o : Nat} (h : o < xs.length) : addN (pre xs o) (mvN xs os o) = pre (laidL xs os) (os.idxOf o) := by
  have o1 := pre_okB hok h12 (i := o) (by omega)
  have o2 := mvN_ok hok h12 hl hq h
  have o3 := pre_okB (r := r) (laidL_ok (os := os) hok (by decide)) (by rw [laidL_len]; omega) (i := os.idxOf o) (by rw [laidL_len]; exact Nat.le_of_lt (perm_get hq h).1)
  refine wN_inj (addN_ok o1 o2) o3 ?_
  rw [wN_add o1.pos o2.pos, mvN_w hok h12 hl hq h]
  exact ext2 (by unfold Mw sb ad; grind) (by unfold Mw sb ad; grind)
theorem laid_came (hok : ∀ x ∈ xs, Ok r 20 x) (h12 : xs.length ≤ 12) (hl : os.length = xs.length) (hq : os.Perm (List.range xs.length)) {o : Nat} (h : o < xs.length) : subN (pre (laidL xs os) (os.idxOf o)) (mvN xs os o) = pre xs o := by
  rw [← begin_goes hok h12 hl hq h]
  exact goes_back (pre_okB hok h12 (i := o) (by omega)) (mvN_ok hok h12 hl hq h)
end
end L2
namespace L2
open Num Wo PySem
theorem Nums.two {K : PySem.W.Frag} {H : Hp} {vs : List V} {xs : List N3} (h : Nums K H vs xs) (hl : xs.length = 2) : ∃ v u x y, vs = [v, u] ∧ xs = [x, y] ∧ NumAt K H v x ∧ NumAt K H u y := by
  match xs, hl with
  | [x, y], _ =>
    match vs, h.1 with
    | [v, u], _ => exact ⟨v, u, x, y, rfl, rfl, h.2 0 v x rfl rfl, h.2 1 u y rfl rfl⟩
theorem goes_inj {r : Int} {xs : List N3} {os : List Nat} (I : Irr r) (hok : ∀ x ∈ xs, Ok r 20 x) (hp : ∀ x ∈ xs, Ps r (wN x)) (h12 : xs.length ≤ 12) (hl : os.length = xs.length) (hq : os.Perm (List.range xs.length)) {i j k l : Nat} {x y : N3} (hx : Ok r k x) (hy : Ok r l y) (a : In r xs i (wN x)) (b : In r xs j (wN y)) :
    addN x (mvN xs os i) = addN y (mvN xs os j) ↔ x = y := by
  constructor
  · intro e
    have a' := goes_in (os := os) I hok h12 hl hq hx a
    have b' := goes_in (os := os) I hok h12 hl hq hy b
    rw [← e] at b'
    have okg := addN_ok hx (mvN_ok hok h12 hl hq a.lt)
    have h1 := a'.uniq I (laidL_ok hok (by decide)) (laid_pos hl hq hp) okg.vl b'
    have h2 : i = j := by
      have e1 := (perm_get hq a.lt).2
      have e2 := (perm_get hq b.lt).2
      rw [h1, e2] at e1
      exact e1.symm
    subst h2
    rw [← goes_back hx (mvN_ok hok h12 hl hq a.lt), e, goes_back hy (mvN_ok hok h12 hl hq a.lt)]
  · rintro rfl
    rw [a.uniq I hok hp hx.vl b]
end L2

end
section
set_option Elab.async false
set_option linter.all false
set_option maxRecDepth 100000
namespace L2
open Num Wo
/-! ### the field of the worths -/
def w1 : W := (1, 0)
def sc (k : Int) (w : W) : W := ((k : Rat) * w.1, (k : Rat) * w.2)
def wI (k : Int) : W := ((k : Rat), 0)
theorem wI_of (k : Int) : of3 k 0 1 = wI k := by
  unfold of3 wI
  simp only [Rat.intCast_zero, Rat.intCast_one]
  exact ext2 (by grind) (by grind)
theorem wI_one : wI 1 = w1 := by
  unfold wI w1
  simp only [Rat.intCast_one]
theorem wI_ps {r k : Int} (h : 0 < k) : Ps r (wI k) := by
  rw [← wI_of, ps_of (by decide)]
  exact Pos.nat h
theorem wI_pos {r k : Int} (h : Ps r (wI k)) : 0 < k := by
  rw [← wI_of, ps_of (by decide)] at h
  rcases h with ⟨_, h⟩ | ⟨h, h0⟩
  · exact h
  · exact absurd h0 (by decide)
theorem wI_vl (r k : Int) : Vl r (wI k) := fun _ => rfl
theorem w1_ps (r : Int) : Ps r w1 := by rw [← wI_one]; exact wI_ps (by decide)
theorem w1_vl (r : Int) : Vl r w1 := fun _ => rfl
theorem wI_sb (a b : Int) : sb (wI a) (wI b) = wI (a - b) := by
  unfold sb wI
  simp only [Rat.intCast_sub]
  exact ext2 rfl (by show (0 : Rat) - 0 = 0; grind)
theorem wI_lt {r a b : Int} : Lt r (wI a) (wI b) ↔ a < b := by
  unfold Lt
  rw [wI_sb]
  exact ⟨fun h => by have := wI_pos h; omega, fun h => wI_ps (by omega)⟩
theorem sc_ml (r k : Int) (w : W) : sc k w = ml r (wI k) w := ext2 (by unfold sc ml wI; grind) (by unfold sc ml wI; grind)
theorem sc_ps {r k : Int} {w : W} (I : Irr r) (h : 0 < k) (g : Ps r w) : Ps r (sc k w) := by
  rw [sc_ml r]
  exact (wI_ps h).ml I g
theorem sc_vl {r k : Int} {w : W} (v : Vl r w) : Vl r (sc k w) := fun e => by show (k : Rat) * w.2 = 0; rw [v e]; grind
def Nn (r : Int) (w : W) : Prop := w = z ∨ Ps r w
theorem sc_nn {r k : Int} {w : W} (I : Irr r) (h : 0 ≤ k) (g : Nn r w) : Nn r (sc k w) := by
  rcases Int.lt_or_eq_of_le h with h0 | h0
  · rcases g with rfl | g
    · exact .inl (ext2 (by unfold sc z; grind) (by unfold sc z; grind))
    · exact .inr (sc_ps I h0 g)
  · subst h0
    exact .inl (ext2 (by unfold sc z; simp only [Rat.intCast_zero]; grind) (by unfold sc z; simp only [Rat.intCast_zero]; grind))
theorem ad_z (x : W) : ad x z = x := ext2 (by unfold ad z; grind) (by unfold ad z; grind)
theorem z_ad (x : W) : ad z x = x := ext2 (by unfold ad z; grind) (by unfold ad z; grind)
theorem ps_nn {r : Int} {x y : W} (I : Irr r) (vx : Vl r x) (vy : Vl r y) (h : Ps r x) (g : Nn r y) : Ps r (ad x y) := by
  rcases g with rfl | g
  · rw [ad_z]; exact h
  · exact h.ad I vx vy g
theorem nn_nn {r : Int} {x y : W} (I : Irr r) (vx : Vl r x) (vy : Vl r y) (h : Nn r x) (g : Nn r y) : Nn r (ad x y) := by
  rcases h with rfl | h
  · rw [z_ad]; exact g
  · exact .inr (ps_nn I vx vy h g)
theorem le_nn {r : Int} {x y : W} (I : Irr r) (vx : Vl r x) (vy : Vl r y) (h : Le r x y) : Nn r (sb y x) := by
  rcases tric I (vy.sb vx) with h1 | h1 | h1
  · exact .inl h1
  · exact .inr h1
  · refine absurd ?_ h
    unfold Lt
    have e : sb z (sb y x) = sb x y := ext2 (by unfold sb z; grind) (by unfold sb z; grind)
    rw [← e]
    exact h1
theorem nn_le {r : Int} {x y : W} (I : Irr r) (vx : Vl r x) (vy : Vl r y) (h : Nn r (sb y x)) : Le r x y := by
  intro g
  unfold Lt at g
  have e : ad (sb x y) (sb y x) = z := ext2 (by unfold sb z ad; grind) (by unfold sb z ad; grind)
  have p := ps_nn I (vx.sb vy) (vy.sb vx) g h
  rw [e] at p
  exact p.irr
theorem ml_comm (r : Int) (x y : W) : ml r x y = ml r y x := ext2 (by unfold ml; grind) (by unfold ml; grind)
theorem ml_assoc (r : Int) (x y w : W) : ml r (ml r x y) w = ml r x (ml r y w) := ext2 (by unfold ml; grind) (by unfold ml; grind)
theorem one_ml (r : Int) (x : W) : ml r w1 x = x := ext2 (by unfold ml w1; grind) (by unfold ml w1; grind)
theorem ml_one (r : Int) (x : W) : ml r x w1 = x := by rw [ml_comm, one_ml]
theorem z_ml (r : Int) (x : W) : ml r z x = z := ext2 (by unfold ml z; grind) (by unfold ml z; grind)
theorem ml_z (r : Int) (x : W) : ml r x z = z := by rw [ml_comm, z_ml]
theorem ml_ad (r : Int) (x y w : W) : ml r (ad x y) w = ad (ml r x w) (ml r y w) := ext2 (by unfold ml ad; grind) (by unfold ml ad; grind)
theorem ml_sb (r : Int) (x y w : W) : ml r (sb x y) w = sb (ml r x w) (ml r y w) := ext2 (by unfold ml sb; grind) (by unfold ml sb; grind)
theorem Ps.nrne {r : Int} {x : W} (h : Ps r x) : nr r x ≠ 0 := by rcases h with ⟨h, _⟩ | ⟨h, _⟩ <;> grind
theorem cancel {r : Int} {u v s : W} (h : nr r s ≠ 0) (e : ml r u s = ml r v s) : u = v := by
  have e1 : u.1 * s.1 + r * (u.2 * s.2) = v.1 * s.1 + r * (v.2 * s.2) := congrArg Prod.fst e
  have e2 : u.1 * s.2 + u.2 * s.1 = v.1 * s.2 + v.2 * s.1 := congrArg Prod.snd e
  unfold nr at h
  have a1 : (u.1 - v.1) * (s.1 * s.1 - r * (s.2 * s.2)) = 0 := by grind
  have a2 : (u.2 - v.2) * (s.1 * s.1 - r * (s.2 * s.2)) = 0 := by grind
  refine ext2 ?_ ?_
  · rcases Rat.mul_eq_zero.mp a1 with h1 | h1
    · grind
    · exact absurd h1 h
  · rcases Rat.mul_eq_zero.mp a2 with h1 | h1
    · grind
    · exact absurd h1 h
theorem inv_ps {r : Int} {u v : W} (I : Irr r) (vu : Vl r u) (vv : Vl r v) (h : Ps r v) (e : ml r u v = w1) : Ps r u := by
  rcases tric I vu with h1 | h1 | h1
  · rw [h1, z_ml] at e
    have := w1_ps r
    rw [← e] at this
    exact this.irr.elim
  · exact h1
  · have p := h1.ml I h
    have e2 : ml r (sb z u) v = sb z w1 := by rw [ml_sb, z_ml, e]
    rw [e2] at p
    have := p.ad I (Vl.z.sb (w1_vl r)) (w1_vl r) (w1_ps r)
    have e3 : ad (sb z w1) w1 = z := ext2 (by unfold sb z ad; grind) (by unfold sb z ad; grind)
    rw [e3] at this
    exact this.irr.elim
/-! ### the quotient -/
def ovN (r : Int) (x y : N3) : N3 := lw (y.2.2 * (x.1 * y.1 - r * x.2.1 * y.2.1)) (y.2.2 * (x.2.1 * y.1 - x.1 * y.2.1)) (x.2.2 * (y.1 * y.1 - r * y.2.1 * y.2.1))
theorem bot_ne {r : Int} {k : Nat} {y : N3} (I : Irr r) (h : Ok r k y) (hy : wN y ≠ z) : y.1 * y.1 - r * y.2.1 * y.2.1 ≠ 0 := by
  intro e
  have := nrm_zero I (a := y.1) (b := y.2.1) h.root (by unfold nrm; rw [← Int.mul_assoc]; exact e)
  refine hy ?_
  unfold wN of3 z
  rw [this.1, this.2]
  simp only [Rat.intCast_zero]
  exact ext2 (by grind) (by grind)
theorem wN_ov {r : Int} {x y : N3} (hx : 0 < x.2.2) (hy : 0 < y.2.2) (hb : y.1 * y.1 - r * y.2.1 * y.2.1 ≠ 0) : ml r (wN (ovN r x y)) (wN y) = wN x := by
  unfold ovN
  rw [wN_lw (Int.mul_ne_zero (by omega) hb)]
  obtain ⟨a, b, c⟩ := x
  obtain ⟨d, e, f⟩ := y
  have h1 := castne (c := c) (Int.ne_of_gt hx)
  have h2 := castne (c := f) (Int.ne_of_gt hy)
  have h3 := castne hb
  unfold wN of3 ml
  simp only [Rat.intCast_mul, Rat.intCast_sub] at *
  refine ext2 ?_ ?_
  · show (f : Rat) * (a * d - r * b * e) / (c * (d * d - r * e * e)) * (d / f) + r * ((f : Rat) * (b * d - a * e) / (c * (d * d - r * e * e)) * (e / f)) = a / c
    grind
  · show (f : Rat) * (a * d - r * b * e) / (c * (d * d - r * e * e)) * (e / f) + (f : Rat) * (b * d - a * e) / (c * (d * d - r * e * e)) * (d / f) = b / c
    grind
theorem ovN_ok {r : Int} {k l : Nat} {x y : N3} (hr : Sz 10 r) (h : Ok r k x) (g : Ok r l y) (hb : y.1 * y.1 - r * y.2.1 * y.2.1 ≠ 0) : Ok r (k + l + l + 13) (ovN r x y) := by
  refine (lw_ok (k := k + l + l + 12) (Int.mul_ne_zero (by have := h.pos; omega) hb) (fun e => by rw [h.root e, g.root e]; simp) ?_ ?_ ?_).mono (by omega)
  · exact (g.zc.mul ((h.za.mul g.za).sub ((hr.mul h.zb).mul g.zb))).mono (by omega)
  · exact (g.zc.mul ((h.zb.mul g.za).sub (h.za.mul g.zb))).mono (by omega)
  · exact (h.zc.mul ((g.za.mul g.za).sub ((hr.mul g.zb).mul g.zb))).mono (by omega)
end L2

end
section
set_option Elab.async false
set_option linter.all false
set_option maxRecDepth 100000
namespace L2
open Num Wo
/-! ### folding floors -/
def pt : List Int → Int × Int → Int × Int
  | [], p => p
  | f :: fs, p => (f * (pt fs p).1 + (pt fs p).2, (pt fs p).1)
theorem pt_snoc (f : Int) : ∀ (fs : List Int) (t b : Int), pt (fs ++ [f]) (t, b) = pt fs (f * t + b, t)
  | [], _, _ => rfl
  | g :: fs, t, b => by
    show (g * (pt (fs ++ [f]) (t, b)).1 + (pt (fs ++ [f]) (t, b)).2, (pt (fs ++ [f]) (t, b)).1) = _
    rw [pt_snoc f fs t b]
    rfl
/-- the top grows with every floor from 1 on -/
theorem pt_pos {t b : Int} (ht : 1 ≤ t) (hb : 0 ≤ b) (hbt : b ≤ t) : ∀ fs : List Int, (∀ f ∈ fs, 1 ≤ f) → 1 ≤ (pt fs (t, b)).1 ∧ 0 ≤ (pt fs (t, b)).2 ∧ (pt fs (t, b)).2 ≤ (pt fs (t, b)).1
  | [], _ => ⟨ht, hb, hbt⟩
  | f :: fs, h => by
    have ih := pt_pos ht hb hbt fs fun g m => h g (List.mem_cons_of_mem _ m)
    have hf := h f List.mem_cons_self
    have : 1 * (pt fs (t, b)).1 ≤ f * (pt fs (t, b)).1 := Int.mul_le_mul_of_nonneg_right hf (by omega)
    refine ⟨?_, ?_, ?_⟩
    · show 1 ≤ f * (pt fs (t, b)).1 + (pt fs (t, b)).2
      omega
    · show 0 ≤ (pt fs (t, b)).1
      omega
    · show (pt fs (t, b)).1 ≤ f * (pt fs (t, b)).1 + (pt fs (t, b)).2
      omega
theorem pt_up {t b : Int} (ht : 1 ≤ t) (hb : 0 ≤ b) (hbt : b ≤ t) : ∀ (fs : List Int) (k : Nat), (∀ f ∈ fs, 1 ≤ f) → (pt (fs.drop k) (t, b)).1 ≤ (pt fs (t, b)).1
  | fs, 0, _ => Int.le_refl _
  | [], k + 1, _ => Int.le_refl _
  | f :: fs, k + 1, h => by
    have hh : ∀ g ∈ fs, 1 ≤ g := fun g m => h g (List.mem_cons_of_mem _ m)
    have ih := pt_up ht hb hbt fs k hh
    have p := pt_pos ht hb hbt fs hh
    have hf := h f List.mem_cons_self
    have : 1 * (pt fs (t, b)).1 ≤ f * (pt fs (t, b)).1 := Int.mul_le_mul_of_nonneg_right hf (by omega)
    show (pt (fs.drop k) (t, b)).1 ≤ f * (pt fs (t, b)).1 + (pt fs (t, b)).2
    omega
/-! ### two numbers of few figures lie apart -/
def GG : Int := 140000
theorem gap {r A B C : Int} (hR : Root r) (hp : Pos r A B) (h1 : -480 ≤ A) (h2 : A ≤ 480) (h3 : -240 ≤ B) (h4 : B ≤ 240) (hC : 1 ≤ C) (hC2 : C ≤ 144) : Pos r (GG * A - C) (GG * B) ∨ (GG * A - C = 0 ∧ GG * B = 0) := by
  have I := Root.irr hR
  have hr0 : 0 ≤ r := I.1
  unfold Pos at hp
  have e : nrm r (GG * A - C) (GG * B) = GG * GG * nrm r A B - 2 * GG * (A * C) + C * C := by unfold nrm; grind
  have hcc : 0 < C * C := Int.mul_pos (by omega) (by omega)
  have hcc2 : C * C ≤ 144 * 144 := Int.mul_le_mul hC2 hC2 (by omega) (by decide)
  have hac : A * C ≤ 480 * 144 := by
    rcases Int.le_total 0 A with h | h
    · exact Int.mul_le_mul h2 hC2 (by omega) (by decide)
    · have : A * C ≤ 0 := Int.mul_nonpos_of_nonpos_of_nonneg h (by omega)
      omega
  have hac2 : -(480 * 144) ≤ A * C := by
    have : (-A) * C ≤ 480 * 144 := by
      rcases Int.le_total 0 (-A) with h | h
      · exact Int.mul_le_mul (by omega) hC2 (by omega) (by decide)
      · have : (-A) * C ≤ 0 := Int.mul_nonpos_of_nonpos_of_nonneg h (by omega)
        omega
    rw [Int.neg_mul] at this
    omega
  rcases hp with ⟨n, a⟩ | ⟨n, b⟩
  · refine .inl (.inl ⟨?_, ?_⟩)
    · rw [e]
      unfold GG
      omega
    · unfold GG
      omega
  · refine .inl (.inr ⟨?_, ?_⟩)
    · rw [e]
      unfold GG
      omega
    · unfold GG
      omega
end L2

end
section
set_option Elab.async false
set_option linter.all false
set_option maxRecDepth 100000
namespace L2
open Num Wo
/-! ### the two rests of a number behind some floors -/
def sg (e P Q : Int) (u : W) : W := ((e : Rat) * (P - Q * u.1), (e : Rat) * (-(Q * u.2)))
def ta (e P' Q' : Int) (u : W) : W := ((e : Rat) * (Q' * u.1 - P'), (e : Rat) * (Q' * u.2))
theorem sg_vl {r e P Q : Int} {u : W} (v : Vl r u) : Vl r (sg e P Q u) := fun h => by show (e : Rat) * (-(Q * u.2)) = 0; rw [v h]; grind
theorem ta_vl {r e P Q : Int} {u : W} (v : Vl r u) : Vl r (ta e P Q u) := fun h => by show (e : Rat) * (Q * u.2) = 0; rw [v h]; grind
theorem ta_step (e P Q : Int) (u : W) : ta (-e) P Q u = sg e P Q u := by
  unfold ta sg
  simp only [Rat.intCast_neg]
  exact ext2 (by grind) (by grind)
theorem sg_step {r e P P' Q Q' f : Int} {u l : W} (h : ml r l (sg e P Q u) = ta e P' Q' u) : sg (-e) (f * P + P') (f * Q + Q') u = ml r (sb l (wI f)) (sg e P Q u) := by
  rw [ml_sb, h]
  unfold sg ta ml sb wI
  simp only [Rat.intCast_neg, Rat.intCast_add, Rat.intCast_mul]
  exact ext2 (by grind) (by grind)
/-- the step where there is no number: the rest is nought -/
theorem whole_one {e P P' Q Q' : Int} {u : W} (hd : e * (P * Q' - P' * Q) = 1) : ad (sc Q' (sg e P Q u)) (sc Q (ta e P' Q' u)) = w1 := by
  have h : (e : Rat) * (P * Q' - P' * Q) = 1 := by exact_mod_cast hd
  unfold ad sc sg ta w1
  exact ext2 (by grind) (by grind)
structure CF (r : Int) (X Y : N3) (fs : List Int) (low : N3) (high : Option N3) (e P P' Q Q' : Int) (x y : N3) : Prop where
  he : (e = 1 ∧ x = X ∧ y = Y) ∨ (e = -1 ∧ x = Y ∧ y = X)
  det : e * (P * Q' - P' * Q) = 1
  q0 : 0 ≤ Q
  q1 : 0 ≤ Q'
  hpt : ∀ t b, pt fs (t, b) = (P * t + P' * b, Q * t + Q' * b)
  vl : Vl r (wN low)
  sx : Ps r (sg e P Q (wN x))
  lx : ml r (wN low) (sg e P Q (wN x)) = ta e P' Q' (wN x)
  hn : high = none → sg e P Q (wN y) = z
  hs : ∀ h, high = some h → Vl r (wN h) ∧ Ps r (sg e P Q (wN y)) ∧ ml r (wN h) (sg e P Q (wN y)) = ta e P' Q' (wN y) ∧ Lt r (wN low) (wN h)
  big : (fs = [] ∧ e = 1 ∧ P = 1 ∧ P' = 0 ∧ Q = 0 ∧ Q' = 1 ∧ low = X ∧ high = some Y) ∨ (1 ≤ Q ∧ Le r w1 (wN low) ∧ Ps r (ta e P' Q' (wN x)) ∧ Ps r (ta e P' Q' (wN y)) ∧ (∀ f ∈ fs.tail, 1 ≤ f) ∧ (P.natAbs : Int) ≤ 2000 * Q ∧ (P.natAbs : Int) + P'.natAbs ≤ 2000 * (Q + Q') ∧ (fs.length : Int) ≤ Q + Q')
theorem CF.start {r : Int} {k l : Nat} {X Y : N3} (hX : Ok r k X) (hY : Ok r l Y) (h : Lt r (wN X) (wN Y)) : CF r X Y [] X (some Y) 1 1 0 0 1 X Y := by
  have e1 : ∀ u : W, sg 1 1 0 u = w1 := fun u => by
    unfold sg w1
    simp only [Rat.intCast_zero, Rat.intCast_one]
    exact ext2 (by grind) (by grind)
  have e2 : ∀ u : W, ta 1 0 1 u = u := fun u => by
    unfold ta
    simp only [Rat.intCast_zero, Rat.intCast_one]
    exact ext2 (by grind) (by grind)
  refine ⟨.inl ⟨rfl, rfl, rfl⟩, by decide, by decide, by decide, fun t b => ?_, hX.vl, ?_, ?_, (fun z => nomatch z), ?_, .inl ⟨rfl, rfl, rfl, rfl, rfl, rfl, rfl, rfl⟩⟩
  · show (t, b) = _
    rw [Int.one_mul, Int.zero_mul, Int.zero_mul, Int.one_mul, Int.add_zero, Int.zero_add]
  · rw [e1]; exact w1_ps r
  · rw [e1, e2, ml_one]
  · rintro _ ⟨⟩
    rw [e1, e2, ml_one]
    exact ⟨hY.vl, w1_ps r, rfl, h⟩
section
variable {r : Int} {X Y : N3} {fs : List Int} {low : N3} {high : Option N3} {e P P' Q Q' : Int} {x y : N3}
theorem CF.vx (c : CF r X Y fs low high e P P' Q Q' x y) (vX : Vl r (wN X)) (vY : Vl r (wN Y)) : Vl r (wN x) ∧ Vl r (wN y) := by
  rcases c.he with ⟨_, rfl, rfl⟩ | ⟨_, rfl, rfl⟩
  · exact ⟨vX, vY⟩
  · exact ⟨vY, vX⟩
/-- the floor behind the first one is 1 at least -/
theorem CF.floor (c : CF r X Y fs low high e P P' Q Q' x y) (I : Irr r) {f : Int} (h2 : Lt r (wN low) (wI (f + 1))) (hne : fs ≠ []) : 1 ≤ f := by
  rcases c.big with ⟨h, _⟩ | ⟨_, hl, _⟩
  · exact absurd h hne
  · have := hl.lt I (w1_vl r) c.vl (wI_vl r _) h2
    rw [← wI_one, wI_lt] at this
    omega
theorem CF.step (c : CF r X Y fs low (some h) e P P' Q Q' x y) (I : Irr r) (vX : Vl r (wN X)) (vY : Vl r (wN Y)) {f : Int} (h1 : Le r (wI f) (wN low)) (h2 : Lt r (wN low) (wI (f + 1))) (h3 : ¬ Lt r (wI (f + 1)) (wN h)) (hf : fs = [] → (f.natAbs : Int) + 1 ≤ 2000)
    {low' : N3} {high' : Option N3} (vl' : Vl r (wN low')) (hl : ml r (wN low') (sb (wN h) (wI f)) = w1) (hh0 : high' = none → sb (wN low) (wI f) = z) (hh1 : ∀ h', high' = some h' → Vl r (wN h') ∧ sb (wN low) (wI f) ≠ z ∧ ml r (wN h') (sb (wN low) (wI f)) = w1) :
    CF r X Y (fs ++ [f]) low' high' (-e) (f * P + P') P (f * Q + Q') Q y x := by
  obtain ⟨vx, vy⟩ := c.vx vX vY
  obtain ⟨vh, sy, hy, lt⟩ := c.hs h rfl
  have vf := wI_vl r f
  have vlo := c.vl
  have phf : Ps r (sb (wN h) (wI f)) := h1.lt I vf vlo vh lt
  have nlf : Nn r (sb (wN low) (wI f)) := le_nn I vf vlo h1
  have vhf := vh.sb vf
  have vlf := vlo.sb vf
  have pl' : Ps r (wN low') := inv_ps I vl' vhf phf hl
  have f1 : fs ≠ [] → 1 ≤ f := c.floor I h2
  refine ⟨?_, ?_, ?_, c.q0, fun t b => ?_, vl', ?_, ?_, fun z0 => ?_, fun h' z0 => ?_, .inr ⟨?_, ?_, ?_, ?_, ?_, ?_, ?_, ?_⟩⟩
  · rcases c.he with ⟨rfl, rfl, rfl⟩ | ⟨rfl, rfl, rfl⟩
    · exact .inr ⟨rfl, rfl, rfl⟩
    · exact .inl ⟨rfl, rfl, rfl⟩
  · rw [← c.det]; grind
  · rcases c.big with ⟨rfl, -, -, -, rfl, rfl, -⟩ | b
    · omega
    · by_cases hz : fs = []
      · have := c.hpt 1 0
        rw [hz] at this
        have e2 : (0 : Int) = Q * 1 + Q' * 0 := congrArg Prod.snd this
        have := b.1
        omega
      · have := Int.mul_nonneg (show 0 ≤ f by have := f1 hz; omega) c.q0
        have := c.q1
        omega
  · rw [pt_snoc, c.hpt]
    exact Prod.ext (by show P * (f * t + b) + P' * t = (f * P + P') * t + P * b; grind) (by show Q * (f * t + b) + Q' * t = (f * Q + Q') * t + Q * b; grind)
  · rw [sg_step hy]
    exact phf.ml I sy
  · rw [sg_step hy, ← ml_assoc, hl, one_ml, ta_step]
  · rw [sg_step c.lx, hh0 z0, z_ml]
  · obtain ⟨vh', hne, hh⟩ := hh1 h' z0
    have plf : Ps r (sb (wN low) (wI f)) := by
      rcases nlf with h0 | h0
      · exact absurd h0 hne
      · exact h0
    refine ⟨vh', ?_, ?_, ?_⟩
    · rw [sg_step c.lx]
      exact plf.ml I c.sx
    · rw [sg_step c.lx, ← ml_assoc, hh, one_ml, ta_step]
    · have ph' := inv_ps I vh' vlf plf hh
      have e1 : sb (wN h') (wN low') = ml r (ml r (wN h') (wN low')) (sb (wN h) (wN low)) := by
        have a1 : ml r (ml r (wN h') (wN low')) (sb (wN h) (wI f)) = wN h' := by rw [ml_assoc, hl, ml_one]
        have a2 : ml r (ml r (wN h') (wN low')) (sb (wN low) (wI f)) = wN low' := by rw [ml_comm r (wN h'), ml_assoc, hh, ml_one]
        have a3 : sb (wN h) (wN low) = sb (sb (wN h) (wI f)) (sb (wN low) (wI f)) := ext2 (by unfold sb; grind) (by unfold sb; grind)
        rw [a3, ml_comm, ml_sb, ml_comm r _ (ml r (wN h') (wN low')), ml_comm r _ (ml r (wN h') (wN low')), a1, a2]
      unfold Lt
      rw [e1]
      exact (ph'.ml I pl').ml I lt
  · rcases c.big with ⟨-, -, -, -, rfl, rfl, -⟩ | b
    · omega
    · by_cases hz : fs = []
      · have := c.hpt 1 0
        rw [hz] at this
        have e2 : (0 : Int) = Q * 1 + Q' * 0 := congrArg Prod.snd this
        have := b.1
        omega
      · have := Int.mul_le_mul_of_nonneg_right (f1 hz) c.q0
        have := c.q1
        have := b.1
        omega
  · intro g
    refine h3 ?_
    unfold Lt at g ⊢
    have e1 : ml r (sb w1 (wN low')) (sb (wN h) (wI f)) = sb (sb (wN h) (wI f)) w1 := by rw [ml_sb, one_ml, hl]
    have e2 : sb (wN h) (wI (f + 1)) = sb (sb (wN h) (wI f)) w1 := by
      unfold sb wI w1
      simp only [Rat.intCast_add, Rat.intCast_one]
      exact ext2 (by grind) (by grind)
    rw [e2, ← e1]
    exact g.ml I phf
  · rw [ta_step]; exact sy
  · rw [ta_step]; exact c.sx
  · rcases c.big with ⟨rfl, -⟩ | b
    · exact fun g m => nomatch m
    · intro g m
      by_cases hz : fs = []
      · subst hz
        exact nomatch m
      · rw [List.tail_append_of_ne_nil hz] at m
        rcases List.mem_append.mp m with m | m
        · exact b.2.2.2.2.1 g m
        · rw [List.mem_singleton.mp m]
          exact f1 hz
  · rcases c.big with ⟨rfl, -, rfl, rfl, rfl, rfl, -⟩ | b
    · have := hf rfl
      omega
    · by_cases hz : fs = []
      · have := c.hpt 1 0
        rw [hz] at this
        have e2 : (0 : Int) = Q * 1 + Q' * 0 := congrArg Prod.snd this
        have := b.1
        omega
      · have hf1 := f1 hz
        obtain ⟨b1, -, -, -, -, b2, b3, b4⟩ := b
        have t1 : ((f * P + P').natAbs : Int) ≤ f * P.natAbs + P'.natAbs := by
          have := Int.natAbs_add_le (f * P) P'
          rw [Int.natAbs_mul] at this
          have e3 : ((f.natAbs * P.natAbs : Nat) : Int) = f * P.natAbs := by rw [Int.natCast_mul, Int.natAbs_of_nonneg (by omega)]
          omega
        have t2 : (f - 1) * (P.natAbs : Int) ≤ (f - 1) * (2000 * Q) := Int.mul_le_mul_of_nonneg_left b2 (by omega)
        have t3 : (f - 1) * (P.natAbs : Int) = f * P.natAbs - P.natAbs := by rw [Int.sub_mul, Int.one_mul]
        have t4 : (f - 1) * (2000 * Q) = 2000 * (f * Q) - 2000 * Q := by grind
        omega
  · rcases c.big with ⟨rfl, -, rfl, rfl, rfl, rfl, -⟩ | b
    · have := hf rfl
      omega
    · by_cases hz : fs = []
      · have := c.hpt 1 0
        rw [hz] at this
        have e2 : (0 : Int) = Q * 1 + Q' * 0 := congrArg Prod.snd this
        have := b.1
        omega
      · have hf1 := f1 hz
        obtain ⟨b1, -, -, -, -, b2, b3, b4⟩ := b
        have t1 : ((f * P + P').natAbs : Int) ≤ f * P.natAbs + P'.natAbs := by
          have := Int.natAbs_add_le (f * P) P'
          rw [Int.natAbs_mul] at this
          have e3 : ((f.natAbs * P.natAbs : Nat) : Int) = f * P.natAbs := by rw [Int.natCast_mul, Int.natAbs_of_nonneg (by omega)]
          omega
        have t2 : (f - 1) * (P.natAbs : Int) ≤ (f - 1) * (2000 * Q) := Int.mul_le_mul_of_nonneg_left b2 (by omega)
        have t3 : (f - 1) * (P.natAbs : Int) = f * P.natAbs - P.natAbs := by rw [Int.sub_mul, Int.one_mul]
        have t4 : (f - 1) * (2000 * Q) = 2000 * (f * Q) - 2000 * Q := by grind
        omega
  · rw [List.length_append, List.length_singleton]
    rcases c.big with ⟨rfl, -, rfl, rfl, rfl, rfl, -⟩ | b
    · show (((0 + 1 : Nat)) : Int) ≤ _
      omega
    · by_cases hz : fs = []
      · have := c.hpt 1 0
        rw [hz] at this
        have e2 : (0 : Int) = Q * 1 + Q' * 0 := congrArg Prod.snd this
        have := b.1
        omega
      · have hf1 := f1 hz
        obtain ⟨b1, -, -, -, -, b2, b3, b4⟩ := b
        have := Int.mul_le_mul_of_nonneg_right hf1 (show 0 ≤ Q by omega)
        omega
end
end L2

end
section
set_option Elab.async false
set_option linter.all false
set_option maxRecDepth 100000
namespace L2
open Num Wo
theorem floor_w {r q F : Int} {k : Nat} {x : N3} (hR : Root r) (h : Ok r k x) (hF : FlR r x.2.1 F) (hq : q = (x.1 + F) / x.2.2) : Le r (wI q) (wN x) ∧ Lt r (wN x) (wI (q + 1)) := by
  have I := Root.irr hR
  have v : Val r x.2.1 := h.root
  have lo := floor_lo hF h.pos I.1 hq
  have hi := floor_hi hF h.pos hR h.root hq
  rw [wor_lt_iff I v] at lo hi
  constructor
  · intro g
    refine lo ?_
    unfold Lt at g
    have e : sb (wI q) (wN x) = of3 (q * x.2.2 - x.1 * 1) (0 * x.2.2 - x.2.1 * 1) (1 * x.2.2) := by rw [← wI_of]; exact sb_of (by decide) h.pos
    rw [e, ps_of (by have := h.pos; omega)] at g
    rw [show -(x.1 - q * x.2.2) = q * x.2.2 - x.1 * 1 by omega, show -x.2.1 = 0 * x.2.2 - x.2.1 * 1 by omega]
    exact g
  · unfold Lt
    have e : sb (wI (q + 1)) (wN x) = of3 ((q + 1) * x.2.2 - x.1 * 1) (0 * x.2.2 - x.2.1 * 1) (1 * x.2.2) := by rw [← wI_of]; exact sb_of (by decide) h.pos
    rw [e, ps_of (by have := h.pos; omega), show (q + 1) * x.2.2 - x.1 * 1 = -(x.1 - (q + 1) * x.2.2) by omega, show 0 * x.2.2 - x.2.1 * 1 = -x.2.1 by omega]
    exact hi
theorem rt_le {n s : Int} (h : Rt n s) : s ≤ n := by
  obtain ⟨h0, h1, _⟩ := h
  rcases Int.lt_or_eq_of_le h0 with h2 | h2
  · have : s * 1 ≤ s * s := Int.mul_le_mul_of_nonneg_left (by omega) h0
    omega
  · subst h2
    omega
theorem floor_sz {r a b c F : Int} {k : Nat} (hr : Sz 10 r) (za : Sz k a) (zb : Sz k b) (hc : 0 < c) (hF : FlR r b F) : Sz (k + k + 13) ((a + F) / c) := by
  obtain ⟨s, hs, rfl⟩ := hF
  have h1 := rt_le hs
  have h0 := hs.1
  have zn : Sz (10 + k + k) (r * b * b) := (hr.mul zb).mul zb
  have zs : Sz (10 + k + k) s := by
    unfold Sz at *
    omega
  have z1 : Sz (10 + k + k + 1) (if 0 ≤ b then s else -s - 1) := by
    split
    · exact zs.mono (by omega)
    · have hp : 2 ^ (10 + k + k + 1) = 2 * 2 ^ (10 + k + k) := by rw [Nat.pow_succ, Nat.mul_comm]
      unfold Sz at *
      rw [hp]
      omega
  have z2 := za.add z1
  have e : (a + (if 0 ≤ b then s else -s - 1)) / c = (a + (if 0 ≤ b then s else -s - 1)).fdiv c := (Int.fdiv_eq_ediv_of_nonneg _ (by omega)).symm
  rw [e]
  exact (Sz.fdiv z2).mono (by omega)
/-- few figures -/
structure Few (r : Int) (x : N3) : Prop where
  ok : Ok r 10 x
  a0 : -20 ≤ x.1
  a1 : x.1 ≤ 20
  b0 : -10 ≤ x.2.1
  b1 : x.2.1 ≤ 10
  c1 : x.2.2 ≤ 12
theorem rest_size {r e P P' Q Q' : Int} {k : Nat} {x l : N3} (hr : Sz 10 r) (he : e = 1 ∨ e = -1) (hx : Few r x) (hl : Ok r k l) (zP : Sz 40 P) (zP' : Sz 40 P') (zQ : Sz 40 Q) (zQ' : Sz 40 Q')
    (hn : nr r (sg e P Q (wN x)) ≠ 0) (h : ml r (wN l) (sg e P Q (wN x)) = ta e P' Q' (wN x)) : Ok r 120 l := by
  obtain ⟨a, b, c⟩ := x
  have hc : 0 < c := hx.ok.pos
  have h1 := castne (c := c) (Int.ne_of_gt hc)
  have za : Sz 5 a := Sz.sm 31 (by have := hx.a0; have := hx.a1; simp only at *; omega)
  have zb : Sz 5 b := Sz.sm 31 (by have := hx.b0; have := hx.b1; simp only at *; omega)
  have zc : Sz 5 c := Sz.sm 31 (by have := hx.c1; simp only at *; omega)
  have h2 : (e : Rat) * e = 1 := by rcases he with rfl | rfl <;> simp only [Rat.intCast_one, Rat.intCast_neg] <;> grind
  let y0 : N3 := (P * c - Q * a, -(Q * b), 1)
  let x0 : N3 := (Q' * a - P' * c, Q' * b, 1)
  have w0 : wN y0 = (((P * c - Q * a : Int) : Rat), ((-(Q * b) : Int) : Rat)) := by
    show ((_ : Rat) / ((1 : Int) : Rat), (_ : Rat) / ((1 : Int) : Rat)) = _
    simp only [Rat.intCast_one]
    exact ext2 (by show (_ : Rat) / 1 = _; grind) (by show (_ : Rat) / 1 = _; grind)
  have v0 : wN x0 = (((Q' * a - P' * c : Int) : Rat), ((Q' * b : Int) : Rat)) := by
    show ((_ : Rat) / ((1 : Int) : Rat), (_ : Rat) / ((1 : Int) : Rat)) = _
    simp only [Rat.intCast_one]
    exact ext2 (by show (_ : Rat) / 1 = _; grind) (by show (_ : Rat) / 1 = _; grind)
  have es : sg e P Q (wN (a, b, c)) = (((e : Rat) / c * (P * c - Q * a), (e : Rat) / c * (-(Q * b))) : W) := by
    unfold sg wN of3
    exact ext2 (by grind) (by grind)
  have et : ta e P' Q' (wN (a, b, c)) = (((e : Rat) / c * (Q' * a - P' * c), (e : Rat) / c * (Q' * b)) : W) := by
    unfold ta wN of3
    exact ext2 (by grind) (by grind)
  rw [es, et] at h
  rw [es] at hn
  have hne : nr r (wN y0) ≠ 0 := by
    intro z0
    refine hn ?_
    rw [w0] at z0
    unfold nr at z0 ⊢
    simp only [Rat.intCast_mul, Rat.intCast_sub, Rat.intCast_neg] at z0
    have e1 : (e / c * (P * c - Q * a)) * (e / c * (P * c - Q * a)) - r * ((e / c * (-(Q * b))) * (e / c * (-(Q * b)))) = (e / c) * (e / c) * ((P * c - Q * a) * (P * c - Q * a) - r * (-(Q * b) * -(Q * b)) : Rat) := by grind
    show (e / c * (P * c - Q * a)) * (e / c * (P * c - Q * a)) - r * ((e / c * (-(Q * b))) * (e / c * (-(Q * b)))) = (0 : Rat)
    rw [e1, z0]
    grind
  have hb : y0.1 * y0.1 - r * y0.2.1 * y0.2.1 ≠ 0 := by
    intro z0
    refine hne ?_
    rw [w0]
    unfold nr
    have : (((y0.1 * y0.1 - r * y0.2.1 * y0.2.1 : Int)) : Rat) = 0 := by rw [z0]; rfl
    simp only [Rat.intCast_mul, Rat.intCast_sub] at this
    show ((y0.1 : Rat) * y0.1 - r * ((y0.2.1 : Rat) * y0.2.1)) = 0
    grind
  have h3 : ml r (wN l) (wN y0) = wN x0 := by
    rw [w0, v0]
    have f1 : (wN l).1 * (e / c * (P * c - Q * a)) + r * ((wN l).2 * (e / c * (-(Q * b)))) = e / c * (Q' * a - P' * c) := congrArg Prod.fst h
    have f2 : (wN l).1 * (e / c * (-(Q * b))) + (wN l).2 * (e / c * (P * c - Q * a)) = e / c * (Q' * b) := congrArg Prod.snd h
    have hec : (e : Rat) / c * (e * c) = 1 := by grind
    unfold ml
    simp only [Rat.intCast_mul, Rat.intCast_sub, Rat.intCast_neg]
    refine ext2 ?_ ?_
    · show (wN l).1 * (P * c - Q * a) + r * ((wN l).2 * (-(Q * b))) = (Q' * a - P' * c : Rat)
      have g1 : (e * c : Rat) * ((wN l).1 * (e / c * (P * c - Q * a)) + r * ((wN l).2 * (e / c * (-(Q * b))))) = (e * c : Rat) * (e / c * (Q' * a - P' * c)) := by rw [f1]
      generalize (e : Rat) / c = w at *
      generalize (e : Rat) * c = v at *
      grind
    · show (wN l).1 * (-(Q * b)) + (wN l).2 * (P * c - Q * a) = (Q' * b : Rat)
      have g2 : (e * c : Rat) * ((wN l).1 * (e / c * (-(Q * b))) + (wN l).2 * (e / c * (P * c - Q * a))) = (e * c : Rat) * (e / c * (Q' * b)) := by rw [f2]
      generalize (e : Rat) / c = w at *
      generalize (e : Rat) * c = v at *
      grind
  have h4 := wN_ov (r := r) (x := x0) (y := y0) (show (0 : Int) < 1 by decide) (show (0 : Int) < 1 by decide) hb
  have h5 : wN l = wN (ovN r x0 y0) := cancel hne (h3.trans h4.symm)
  have zA : Sz 47 y0.1 := ((zP.mul zc).sub (zQ.mul za)).mono (by decide)
  have zB : Sz 47 y0.2.1 := (Sz.neg (zQ.mul zb)).mono (by decide)
  have zA' : Sz 47 x0.1 := ((zQ'.mul za).sub (zP'.mul zc)).mono (by decide)
  have zB' : Sz 47 x0.2.1 := (zQ'.mul zb).mono (by decide)
  have z1 : Sz 1 (1 : Int) := Sz.sm 1 (by decide)
  have ov : Ok r 120 (ovN r x0 y0) := by
    refine (lw_ok (k := 119) (Int.mul_ne_zero (show (1 : Int) ≠ 0 by decide) hb) (fun e => ?_) ?_ ?_ ?_)
    · have hb0 : b = 0 := hx.ok.root e
      show (1 : Int) * (Q' * b * (P * c - Q * a) - (Q' * a - P' * c) * -(Q * b)) = 0
      rw [hb0]
      simp
    · exact (z1.mul ((zA'.mul zA).sub ((hr.mul zB').mul zB))).mono (by decide)
    · exact (z1.mul ((zB'.mul zA).sub (zA'.mul zB))).mono (by decide)
    · exact (z1.mul ((zA.mul zA).sub ((hr.mul zB).mul zB))).mono (by decide)
  rw [wN_inj hl ov h5]
  exact ov
section
variable {r : Int} {X Y : N3} {fs : List Int} {low : N3} {high : Option N3} {e P P' Q Q' : Int} {x y : N3}
theorem gapW (hR : Root r) (hX : Few r X) (hY : Few r Y) (h : Lt r (wN X) (wN Y)) : Nn r (sb (sc GG (sb (wN Y) (wN X))) w1) := by
  have e0 : sb (wN Y) (wN X) = of3 (Y.1 * X.2.2 - X.1 * Y.2.2) (Y.2.1 * X.2.2 - X.2.1 * Y.2.2) (Y.2.2 * X.2.2) := sb_of hY.ok.pos hX.ok.pos
  have hC : 0 < Y.2.2 * X.2.2 := Int.mul_pos hY.ok.pos hX.ok.pos
  unfold Lt at h
  rw [e0, ps_of hC] at h
  rw [e0]
  have bnd : ∀ {a c n m : Int}, -n ≤ a → a ≤ n → 0 < c → c ≤ m → 0 ≤ n → -(n * m) ≤ a * c ∧ a * c ≤ n * m := by
    intro a c n m h1 h2 h3 h4 h5
    have i1 : a * c ≤ n * c := Int.mul_le_mul_of_nonneg_right h2 (by omega)
    have i2 : (-a) * c ≤ n * c := Int.mul_le_mul_of_nonneg_right (by omega) (by omega)
    have i3 : n * c ≤ n * m := Int.mul_le_mul_of_nonneg_left h4 h5
    rw [Int.neg_mul] at i2
    omega
  have hX0 := hX.ok.pos
  have hY0 := hY.ok.pos
  have b1 := bnd (a := Y.1) (n := 20) hY.a0 hY.a1 hX0 hX.c1 (by decide)
  have b2 := bnd (a := X.1) (n := 20) hX.a0 hX.a1 hY0 hY.c1 (by decide)
  have b3 := bnd (a := Y.2.1) (n := 10) hY.b0 hY.b1 hX0 hX.c1 (by decide)
  have b4 := bnd (a := X.2.1) (n := 10) hX.b0 hX.b1 hY0 hY.c1 (by decide)
  have b5 := bnd (a := Y.2.2) (n := 12) (by omega) hY.c1 hX0 hX.c1 (by decide)
  have g := gap hR h (C := Y.2.2 * X.2.2) (by omega) (by omega) (by omega) (by omega) (by omega) (by omega)
  generalize Y.1 * X.2.2 - X.1 * Y.2.2 = A at *
  generalize Y.2.1 * X.2.2 - X.2.1 * Y.2.2 = B at *
  generalize Y.2.2 * X.2.2 = C at *
  have hc := castne (c := C) (by omega)
  have e1 : sb (sc GG (of3 A B C)) w1 = of3 (GG * A - C) (GG * B) C := by
    unfold sb sc of3 w1
    simp only [Rat.intCast_mul, Rat.intCast_sub]
    exact ext2 (by grind) (by grind)
  rw [e1]
  rcases g with g | ⟨g1, g2⟩
  · exact .inr ((ps_of hC).mpr g)
  · left
    rw [g1, g2]
    unfold of3 z
    simp only [Rat.intCast_zero]
    exact ext2 (by grind) (by grind)
theorem CF.bound (c : CF r X Y fs low high e P P' Q Q' x y) (hR : Root r) (hX : Few r X) (hY : Few r Y) (h : Lt r (wN X) (wN Y)) (hne : fs ≠ []) : Q * Q' < GG := by
  have I := Root.irr hR
  have vX := hX.ok.vl
  have vY := hY.ok.vl
  obtain ⟨vx, vy⟩ := c.vx vX vY
  obtain ⟨b1, -, b2, -⟩ : 1 ≤ Q ∧ True ∧ Ps r (ta e P' Q' (wN x)) ∧ True := by
    rcases c.big with b | b
    · exact absurd b.1 hne
    · exact ⟨b.1, trivial, b.2.2.1, trivial⟩
  have ny : Nn r (sg e P Q (wN y)) := by
    cases high with
    | none => exact .inl (c.hn rfl)
    | some h => exact .inr (c.hs h rfl).2.1
  by_cases hlt : Q * Q' < GG
  · exact hlt
  have hge : GG ≤ Q * Q' := Int.not_lt.mp hlt
  exfalso
  have gp := gapW hR hX hY h
  have i1 := whole_one (e := e) (P := P) (P' := P') (Q := Q) (Q' := Q') (u := wN x) c.det
  have i2 : sg e P Q (wN x) = ad (sg e P Q (wN y)) (sc Q (sb (wN Y) (wN X))) := by
    rcases c.he with ⟨rfl, rfl, rfl⟩ | ⟨rfl, rfl, rfl⟩
    · unfold sg ad sc sb
      simp only [Rat.intCast_one]
      exact ext2 (by grind) (by grind)
    · unfold sg ad sc sb
      simp only [Rat.intCast_neg, Rat.intCast_one]
      exact ext2 (by grind) (by grind)
  rw [i2] at i1
  have vg := vY.sb vX
  have p1 : Ps r (sc Q (ta e P' Q' (wN x))) := sc_ps I b1 b2
  have n1 : Nn r (sc Q' (sg e P Q (wN y))) := sc_nn I c.q1 ny
  have n2 : Nn r (sc (Q * Q' - GG) (sb (wN Y) (wN X))) := sc_nn I (by omega) (.inr h)
  have v1 := sc_vl (k := Q) (ta_vl (e := e) (P := P') (Q := Q') vx)
  have v2 := sc_vl (k := Q') (sg_vl (e := e) (P := P) (Q := Q) vy)
  have v3 := sc_vl (k := Q * Q' - GG) vg
  have v4 := (sc_vl (k := GG) vg).sb (w1_vl r)
  have p := ps_nn I v1 (v2.ad (v3.ad v4)) p1 (nn_nn I v2 (v3.ad v4) n1 (nn_nn I v3 v4 n2 gp))
  have e2 : ad (sc Q (ta e P' Q' (wN x))) (ad (sc Q' (sg e P Q (wN y))) (ad (sc (Q * Q' - GG) (sb (wN Y) (wN X))) (sb (sc GG (sb (wN Y) (wN X))) w1))) = z := by
    rw [← i1]
    unfold ad sc sb z
    simp only [Rat.intCast_mul, Rat.intCast_sub]
    exact ext2 (by grind) (by grind)
  rw [e2] at p
  exact p.irr
theorem CF.qs (c : CF r X Y fs low high e P P' Q Q' x y) (hR : Root r) (hX : Few r X) (hY : Few r Y) (h : Lt r (wN X) (wN Y)) : Q ≤ GG ∧ Q' ≤ GG ∧ Sz 40 P ∧ Sz 40 P' ∧ Sz 40 Q ∧ Sz 40 Q' := by
  have hq : Q ≤ GG ∧ Q' ≤ GG ∧ (P.natAbs : Int) ≤ 2000 * GG ∧ (P'.natAbs : Int) ≤ 2000 * (GG + GG) := by
    by_cases hne : fs = []
    · rcases c.big with ⟨-, -, rfl, rfl, rfl, rfl, -⟩ | b
      · decide
      · have := c.hpt 1 0
        rw [hne] at this
        have e2 : (0 : Int) = Q * 1 + Q' * 0 := congrArg Prod.snd this
        have := b.1
        omega
    · have hb := c.bound hR hX hY h hne
      obtain ⟨b1, -, -, -, -, b2, b3, -⟩ := (show _ ∨ _ from c.big).resolve_left fun b => hne b.1
      have hq1 := c.q1
      have g1 : Q ≤ GG := by
        rcases Int.lt_or_eq_of_le hq1 with h0 | h0
        · have : Q * 1 ≤ Q * Q' := Int.mul_le_mul_of_nonneg_left h0 (by omega)
          omega
        · by_cases h1 : GG < Q
          · have d := c.det
            rw [← h0, Int.mul_zero, Int.zero_sub] at d
            have : Q ∣ 1 := ⟨-(e * P'), by rw [← d]; grind⟩
            have := Int.le_of_dvd (by decide) this
            unfold GG at h1
            omega
          · exact Int.not_lt.mp h1
      have g2 : Q' ≤ GG := by
        have : 1 * Q' ≤ Q * Q' := Int.mul_le_mul_of_nonneg_right b1 hq1
        omega
      exact ⟨g1, g2, by omega, by omega⟩
  obtain ⟨g1, g2, g3, g4⟩ := hq
  have hp : (2 : Nat) ^ 40 = 1099511627776 := by decide
  have hq0 := c.q0
  have hq1 := c.q1
  unfold GG at *
  refine ⟨g1, g2, ?_, ?_, ?_, ?_⟩ <;> (unfold Sz; rw [hp]; omega)
/-- what is put together lies between -/
theorem CF.fin (c : CF r X Y fs low high e P P' Q Q' x y) (I : Irr r) (hX : Vl r (wN X)) (hY : Vl r (wN Y)) {f T B : Int} (h2 : Lt r (wN low) (wI (f + 1))) (h3 : ∀ h, high = some h → Lt r (wI (f + 1)) (wN h))
    (ep : pt fs (f + 1, 1) = (T, B)) : 0 < B ∧ Lt r (wN X) (of3 T 0 B) ∧ Lt r (of3 T 0 B) (wN Y) := by
  obtain ⟨vx, vy⟩ := c.vx hX hY
  rw [c.hpt] at ep
  have e1 : T = P * (f + 1) + P' * 1 := (congrArg Prod.fst ep).symm
  have e2 : B = Q * (f + 1) + Q' * 1 := (congrArg Prod.snd ep).symm
  have hB : 0 < B := by
    rcases c.big with ⟨-, -, -, -, rfl, rfl, -⟩ | b
    · omega
    · by_cases hne : fs = []
      · have := c.hpt 1 0
        rw [hne] at this
        have e2 : (0 : Int) = Q * 1 + Q' * 0 := congrArg Prod.snd this
        have := b.1
        omega
      · have h1 := c.floor I h2 hne
        have : 1 * 2 ≤ Q * (f + 1) := Int.mul_le_mul b.1 (by omega) (by decide) (by omega)
        have := c.q1
        omega
  have hb := castne (c := B) (by omega)
  have key : ∀ u : W, sb (sc (f + 1) (sg e P Q u)) (ta e P' Q' u) = sc (e * B) (sb (of3 T 0 B) u) := fun u => by
    have cT : (T : Rat) = P * (f + 1) + P' := by rw [e1]; simp only [Rat.intCast_add, Rat.intCast_mul, Rat.intCast_one]; grind
    have cB : (B : Rat) = Q * (f + 1) + Q' := by rw [e2]; simp only [Rat.intCast_add, Rat.intCast_mul, Rat.intCast_one]; grind
    unfold sb sc sg ta of3
    simp only [Rat.intCast_add, Rat.intCast_mul, Rat.intCast_one, Rat.intCast_zero]
    refine ext2 ?_ ?_
    · show (f + 1 : Rat) * (e * (P - Q * u.1)) - e * (Q' * u.1 - P') = e * B * (T / B - u.1)
      have t1 : e * B * ((T : Rat) / B - u.1) = e * T - e * B * u.1 := by grind
      rw [t1, cT, cB]
      grind
    · show (f + 1 : Rat) * (e * (-(Q * u.2))) - e * (Q' * u.2) = e * B * (0 / B - u.2)
      have t1 : e * B * ((0 : Rat) / B - u.2) = -(e * B * u.2) := by grind
      rw [t1, cB]
      grind
  have kx : Ps r (sc (e * B) (sb (of3 T 0 B) (wN x))) := by
    rw [← key, ← c.lx, sc_ml r, ← ml_sb]
    exact h2.ml I c.sx
  have ky : Ps r (sb z (sc (e * B) (sb (of3 T 0 B) (wN y)))) := by
    rw [← key]
    have e3 : ∀ a b : W, sb z (sb a b) = sb b a := fun a b => ext2 (by unfold sb z; grind) (by unfold sb z; grind)
    rw [e3]
    cases high with
    | none =>
      rw [c.hn rfl]
      have e4 : sc (f + 1) z = z := by rw [sc_ml r, ml_z]
      have e5 : ∀ a : W, sb a z = a := fun a => ext2 (by unfold sb z; grind) (by unfold sb z; grind)
      rw [e4, e5]
      rcases c.big with ⟨-, -, -, -, -, -, -, h⟩ | b
      · exact absurd h (by intro z; cases z)
      · exact b.2.2.2.1
    | some h =>
      obtain ⟨_, sy, hy, _⟩ := c.hs h rfl
      rw [← hy, sc_ml r, ← ml_sb]
      exact (h3 h rfl).ml I sy
  have up : ∀ {u : W}, Ps r (sc B u) → Vl r u → Ps r u := fun {u} p v => by
    have hi : Ps r (of3 1 0 B) := (ps_of hB).mpr (Pos.nat (by decide))
    have := hi.ml I p
    have e6 : ml r (of3 1 0 B) (sc B u) = u := by
      unfold ml of3 sc
      simp only [Rat.intCast_one, Rat.intCast_zero]
      exact ext2 (by grind) (by grind)
    rw [e6] at this
    exact this
  have vT : Vl r (of3 T 0 B) := (vl_of hB).mpr fun _ => rfl
  rcases c.he with ⟨rfl, rfl, rfl⟩ | ⟨rfl, rfl, rfl⟩
  · refine ⟨hB, up (u := sb (of3 T 0 B) (wN x)) (by rw [Int.one_mul] at kx; exact kx) (vT.sb vx), up (u := sb (wN y) (of3 T 0 B)) ?_ (vy.sb vT)⟩
    have e7 : sb z (sc (1 * B) (sb (of3 T 0 B) (wN y))) = sc B (sb (wN y) (of3 T 0 B)) := by
      rw [Int.one_mul]
      exact ext2 (by unfold sb sc z; grind) (by unfold sb sc z; grind)
    rw [← e7]
    exact ky
  · refine ⟨hB, up (u := sb (of3 T 0 B) (wN y)) ?_ (vT.sb vy), up (u := sb (wN x) (of3 T 0 B)) ?_ (vx.sb vT)⟩
    · have e7 : sb z (sc (-1 * B) (sb (of3 T 0 B) (wN y))) = sc B (sb (of3 T 0 B) (wN y)) := by
        unfold sb sc z
        simp only [Rat.intCast_neg, Rat.intCast_mul, Rat.intCast_one]
        exact ext2 (by grind) (by grind)
      rw [← e7]
      exact ky
    · have e7 : sc (-1 * B) (sb (of3 T 0 B) (wN x)) = sc B (sb (wN x) (of3 T 0 B)) := by
        unfold sb sc
        simp only [Rat.intCast_neg, Rat.intCast_mul, Rat.intCast_one]
        exact ext2 (by grind) (by grind)
      rw [← e7]
      exact kx
theorem CF.sizes {k l : Nat} (c : CF r X Y fs low high e P P' Q Q' x y) (hR : Root r) (hX : Few r X) (hY : Few r Y) (h : Lt r (wN X) (wN Y)) (okl : Ok r k low) (okh : ∀ h, high = some h → Ok r l h) : Ok r 120 low ∧ ∀ h, high = some h → Ok r 120 h := by
  obtain ⟨-, -, zP, zP', zQ, zQ'⟩ := c.qs hR hX hY h
  have he : e = 1 ∨ e = -1 := c.he.imp (·.1) (·.1)
  have fx : Few r x ∧ Few r y := by
    rcases c.he with ⟨_, rfl, rfl⟩ | ⟨_, rfl, rfl⟩
    · exact ⟨hX, hY⟩
    · exact ⟨hY, hX⟩
  refine ⟨rest_size (Root.sz hR) he fx.1 okl zP zP' zQ zQ' (L2.Ps.nrne c.sx) c.lx, fun h0 e0 => ?_⟩
  obtain ⟨_, sy, hy, _⟩ := c.hs h0 e0
  exact rest_size (Root.sz hR) he fx.2 (okh h0 e0) zP zP' zQ zQ' (L2.Ps.nrne sy) hy
end
end L2
namespace L2
open PySem
def oneN : N3 := (1, 0, 1)
def OneK (K : PySem.W.Frag) (a : Addr) : Prop := ∀ H, SqT K H a (vN oneN)
/-- a number, or None -/
def UpAt (K : PySem.W.Frag) (H : Hp) (v : V) : Option N3 → Prop
  | none => v = .non
  | some x => NumAt K H v x
theorem UpAt.mono {K : PySem.W.Frag} {H H' : Hp} {v : V} {o : Option N3} (h : UpAt K H v o) (g : Same H H') : UpAt K H' v o := by
  cases o with
  | none => exact h
  | some x => exact NumAt.mono h g
theorem wN_one : wN oneN = w1 := by
  show Wo.of3 1 0 1 = w1
  rw [wI_of, wI_one]
theorem one_ok (r : Int) (k : Nat) (hk : 1 ≤ k) : Ok r k oneN := ⟨by decide, by decide, fun _ => rfl, (Sz.sm (k := 1) 1 (by decide)).mono hk, Sz.zero, (Sz.sm (k := 1) 1 (by decide)).mono hk⟩
def intN (f : Int) : N3 := (f, 0, 1)
theorem wN_int (f : Int) : wN (intN f) = wI f := wI_of f
theorem int_ok {r f : Int} {k : Nat} (hk : 1 ≤ k) (h : Sz k f) : Ok r k (intN f) := ⟨show (0 : Int) < 1 by decide, by show Nat.gcd (Nat.gcd f.natAbs 0) 1 = 1; exact Nat.gcd_one_right _, fun _ => rfl, h, Sz.zero, (show Sz 1 1 from Sz.sm 1 (by decide)).mono hk⟩
end L2
namespace L2
open Num Wo
section
variable {r : Int} {X Y : N3} {fs : List Int} {low : N3} {high : Option N3} {e P P' Q Q' : Int} {x y : N3}
theorem CF.len (c : CF r X Y fs low high e P P' Q Q' x y) (hR : Root r) (hX : Few r X) (hY : Few r Y) (h : Lt r (wN X) (wN Y)) : fs.length ≤ 280000 := by
  obtain ⟨h1, h2, -⟩ := c.qs hR hX hY h
  unfold GG at *
  rcases c.big with ⟨rfl, -⟩ | b
  · exact Nat.zero_le _
  · have := b.2.2.2.2.2.2.2
    omega
theorem CF.ptsz (c : CF r X Y fs low high e P P' Q Q' x y) (hR : Root r) (hX : Few r X) (hY : Few r Y) (h : Lt r (wN X) (wN Y)) {f : Int} (h2 : Lt r (wN low) (wI (f + 1))) (zf : Sz 260 f) :
    Sz 700 (pt fs (f + 1, 1)).1 ∧ Sz 700 (pt fs (f + 1, 1)).2 ∧ ∀ k, Sz 700 (pt (fs.drop k) (f + 1, 1)).1 := by
  have I := Root.irr hR
  obtain ⟨-, -, zP, zP', zQ, zQ'⟩ := c.qs hR hX hY h
  have z1 : Sz 1 (1 : Int) := Sz.sm 1 (by decide)
  have zf1 := zf.add z1
  have zt : Sz 310 (pt fs (f + 1, 1)).1 := by rw [c.hpt]; exact ((zP.mul zf1).add (zP'.mul z1)).mono (by decide)
  have zb : Sz 310 (pt fs (f + 1, 1)).2 := by rw [c.hpt]; exact ((zQ.mul zf1).add (zQ'.mul z1)).mono (by decide)
  refine ⟨zt.mono (by decide), zb.mono (by decide), fun k => ?_⟩
  match k with
  | 0 => exact zt.mono (by decide)
  | k + 1 =>
    by_cases hne : fs = []
    · subst hne
      rw [List.drop_nil]
      exact zf1.mono (by decide)
    · have hf := c.floor I h2 hne
      have ht : ∀ f ∈ fs.tail, 1 ≤ f := by
        rcases c.big with b | b
        · exact absurd b.1 hne
        · exact b.2.2.2.2.1
      obtain ⟨g, gs, rfl⟩ : ∃ g gs, fs = g :: gs := by
        cases fs with
        | nil => exact absurd rfl hne
        | cons g gs => exact ⟨g, gs, rfl⟩
      have u1 := pt_up (t := f + 1) (b := 1) (by omega) (by decide) (by omega) gs k ht
      have u2 := pt_pos (t := f + 1) (b := 1) (by omega) (by decide) (by omega) (gs.drop k) fun f m => ht f (List.mem_of_mem_drop m)
      have e2 : (pt (g :: gs) (f + 1, 1)).2 = (pt gs (f + 1, 1)).1 := rfl
      rw [e2] at zb
      have : Sz 310 (pt (gs.drop k) (f + 1, 1)).1 := by
        unfold Sz at *
        omega
      exact this.mono (by decide)
theorem floor_few {F : Int} (hR : Root r) (hX : Few r X) (hF : FlR r X.2.1 F) : (((X.1 + F) / X.2.2).natAbs : Int) + 1 ≤ 2000 := by
  obtain ⟨s, hs, rfl⟩ := hF
  have h1 := rt_le hs
  have h0 := hs.1
  have hb : X.2.1 * X.2.1 ≤ 100 := by
    have h1 := hX.b0
    have h2 := hX.b1
    rcases Int.le_total 0 X.2.1 with h | h
    · exact Int.mul_le_mul h2 h2 h (by decide)
    · have : -X.2.1 * -X.2.1 ≤ 10 * 10 := Int.mul_le_mul (by omega) (by omega) (by omega) (by decide)
      rw [Int.neg_mul_neg] at this
      exact this
  have hr : 0 ≤ r ∧ r ≤ 13 := by rcases hR with h | h | h | h | h | h | h <;> omega
  have hn : r * X.2.1 * X.2.1 ≤ 1300 := by
    rw [Int.mul_assoc]
    exact Int.mul_le_mul hr.2 hb (by have := sq_nn X.2.1; exact this) (by decide)
  have hN : -1400 ≤ X.1 + (if 0 ≤ X.2.1 then s else -s - 1) ∧ X.1 + (if 0 ≤ X.2.1 then s else -s - 1) ≤ 1400 := by
    have := hX.a0
    have := hX.a1
    split <;> omega
  generalize X.1 + (if 0 ≤ X.2.1 then s else -s - 1) = n at *
  have hc : 1 ≤ X.2.2 := hX.ok.pos
  generalize X.2.2 = c at *
  have d1 := Int.emod_def n c
  have d2 := Int.emod_nonneg n (show c ≠ 0 by omega)
  have d3 := Int.emod_lt_of_pos n (show 0 < c by omega)
  have u1 : n / c ≤ 1400 := by
    by_cases hq : n / c ≤ 0
    · omega
    · have : 1 * (n / c) ≤ c * (n / c) := Int.mul_le_mul_of_nonneg_right hc (by omega)
      omega
  have u2 : -1401 ≤ n / c := by
    by_cases hq : -1 ≤ n / c
    · omega
    · have : 1 * (-(n / c) - 1) ≤ c * (-(n / c) - 1) := Int.mul_le_mul_of_nonneg_right hc (by omega)
      have e : c * (-(n / c) - 1) = -(c * (n / c)) - c := by grind
      omega
  omega
end
theorem few_low {r a b c : Int} (h1 : -20 ≤ a) (h2 : a ≤ 20) (h3 : -10 ≤ b) (h4 : b ≤ 10) (h5 : 1 ≤ c) (h6 : c ≤ 12) (hr : r = 0 → b = 0) : Few r (lw a b c) := by
  have hd := dv_pos (a := a) (b := b) (c := c) (by omega)
  have ok : Ok r 10 (lw a b c) := (lw_ok (k := 9) (by omega) hr (Sz.sm 20 (by omega)) (Sz.sm 20 (by omega)) (Sz.sm 20 (by omega)))
  have sm : ∀ {n m : Int}, dv a b c * n = m → (0 ≤ m → 0 ≤ n ∧ n ≤ m) ∧ (m ≤ 0 → n ≤ 0 ∧ m ≤ n) := by
    intro n m e
    constructor
    · intro h
      have hn : 0 ≤ n := by
        by_cases hn : 0 ≤ n
        · exact hn
        · have : dv a b c * n < 0 := Int.mul_neg_of_pos_of_neg hd (by omega)
          omega
      have : 1 * n ≤ dv a b c * n := Int.mul_le_mul_of_nonneg_right hd hn
      omega
    · intro h
      have hn : n ≤ 0 := by
        by_cases hn : n ≤ 0
        · exact hn
        · have : 0 < dv a b c * n := Int.mul_pos hd (by omega)
          omega
      have : 1 * (-n) ≤ dv a b c * (-n) := Int.mul_le_mul_of_nonneg_right hd (by omega)
      simp only [Int.mul_neg, Int.one_mul] at this
      omega
  have s1 := sm (low_a a b c)
  have s2 := sm (low_b a b c)
  have s3 := sm (low_c a b c)
  refine ⟨ok, ?_, ?_, ?_, ?_, ?_⟩
  · show -20 ≤ a.fdiv _
    omega
  · show a.fdiv _ ≤ 20
    omega
  · show -10 ≤ b.fdiv _
    omega
  · show b.fdiv _ ≤ 10
    omega
  · show c.fdiv _ ≤ 12
    omega
end L2

end
section
set_option Elab.async false
set_option linter.all false
set_option maxRecDepth 100000
namespace L2
open Num Wo PySem
theorem ps_ml_iff {r : Int} {a s : W} (I : Irr r) (va : Vl r a) (hs : Ps r s) : Ps r (ml r a s) ↔ Ps r a := by
  constructor
  · intro h
    rcases tric I va with h1 | h1 | h1
    · rw [h1, z_ml] at h
      exact h.irr.elim
    · exact h1
    · have p := h1.ml I hs
      have v1 : Vl r (ml r (sb z a) s) ∨ True := .inr trivial
      rw [ml_sb, z_ml] at p
      unfold Ps at h p
      have e : nr r (sb z (ml r a s)) = nr r (ml r a s) := by unfold nr sb z; grind
      rw [e] at p
      have e1 : (sb z (ml r a s)).1 = -(ml r a s).1 := by unfold sb z; grind
      have e2 : (sb z (ml r a s)).2 = -(ml r a s).2 := by unfold sb z; grind
      rw [e1, e2] at p
      grind
  · exact fun h => h.ml I hs
section
variable {r : Int} {x y w : N3} {k l m : Nat}
theorem ltN_irr (I : Irr r) (hx : Ok r k x) : ltN r x x = false := by
  cases e : ltN r x x with
  | false => rfl
  | true => exact ((ltN_iff I hx hx).mp e).irr.elim
theorem ltN_ne (I : Irr r) (hx : Ok r k x) (hy : Ok r l y) (h : x ≠ y) : ltN r x y = !ltN r y x := by
  rcases Lt.tri I hx.vl hy.vl with e | e | e
  · exact absurd (wN_inj hx hy e) h
  · rw [(ltN_iff I hx hy).mpr e]
    cases e2 : ltN r y x with
    | false => rfl
    | true => exact (e.asym I hx.vl hy.vl ((ltN_iff I hy hx).mp e2)).elim
  · rw [(ltN_iff I hy hx).mpr e]
    cases e2 : ltN r x y with
    | false => rfl
    | true => exact (e.asym I hy.vl hx.vl ((ltN_iff I hx hy).mp e2)).elim
theorem ltN_trans (I : Irr r) (hx : Ok r k x) (hy : Ok r l y) (hw : Ok r m w) (a : ltN r x y = true) (b : ltN r y w = true) : ltN r x w = true :=
  (ltN_iff I hx hw).mpr (((ltN_iff I hx hy).mp a).trans I hx.vl hy.vl hw.vl ((ltN_iff I hy hw).mp b))
theorem eq_of_iff {a b : Bool} (h : a = true ↔ b = true) : a = b := by cases a <;> cases b <;> simp_all
theorem ltN_add (I : Irr r) (hx : Ok r k x) (hy : Ok r l y) (hw : Ok r m w) : ltN r (addN x w) (addN y w) = ltN r x y := by
  refine eq_of_iff ?_
  rw [ltN_iff I (addN_ok hx hw) (addN_ok hy hw), ltN_iff I hx hy, wN_add hx.pos hw.pos, wN_add hy.pos hw.pos]
  unfold Lt
  have e : sb (ad (wN y) (wN w)) (ad (wN x) (wN w)) = sb (wN y) (wN x) := ext2 (by unfold sb ad; grind) (by unfold sb ad; grind)
  rw [e]
theorem ltN_up (I : Irr r) (zr : Sz 10 r) (hx : Ok r k x) (hy : Ok r l y) (hw : Ok r m w) (h : ltN r zeroN w = true) : ltN r (mulN r x w) (mulN r y w) = ltN r x y := by
  have hp := (ltN_iff I (zero_ok r 1 (by decide)) hw).mp h
  rw [wN_zero] at hp
  have hp' : Ps r (wN w) := by
    unfold Lt at hp
    have e : sb (wN w) z = wN w := ext2 (by unfold sb z; grind) (by unfold sb z; grind)
    rw [e] at hp
    exact hp
  refine eq_of_iff ?_
  rw [ltN_iff I (mulN_ok zr hx hw) (mulN_ok zr hy hw), ltN_iff I hx hy, wN_mul hx.pos hw.pos, wN_mul hy.pos hw.pos]
  unfold Lt
  rw [← ml_sb]
  exact ps_ml_iff I (hy.vl.sb hx.vl) hp'
theorem ltN_dn (I : Irr r) (zr : Sz 10 r) (hx : Ok r k x) (hy : Ok r l y) (hw : Ok r m w) (h : ltN r zeroN w = false) (hne : w ≠ zeroN) : ltN r (mulN r x w) (mulN r y w) = ltN r y x := by
  have hp : Ps r (sb z (wN w)) := by
    have h2 := ltN_ne I (zero_ok r 1 (by decide)) hw (fun e => hne e.symm)
    rw [h] at h2
    have h3 : ltN r w zeroN = true := by
      cases e : ltN r w zeroN with
      | true => rfl
      | false => rw [e] at h2; cases h2
    have h4 := (ltN_iff I hw (zero_ok r 1 (by decide))).mp h3
    rw [wN_zero] at h4
    exact h4
  refine eq_of_iff ?_
  rw [ltN_iff I (mulN_ok zr hx hw) (mulN_ok zr hy hw), ltN_iff I hy hx, wN_mul hx.pos hw.pos, wN_mul hy.pos hw.pos]
  unfold Lt
  have e : sb (ml r (wN y) (wN w)) (ml r (wN x) (wN w)) = ml r (sb (wN x) (wN y)) (sb z (wN w)) := ext2 (by unfold sb ml z; grind) (by unfold sb ml z; grind)
  rw [e]
  exact ps_ml_iff I (hx.vl.sb hy.vl) hp
theorem addN_assoc (hx : Ok r k x) (hy : Ok r l y) (hw : Ok r m w) : addN (addN x y) w = addN x (addN y w) :=
  wN_inj (addN_ok (addN_ok hx hy) hw) (addN_ok hx (addN_ok hy hw)) (by
    rw [wN_add (addN_ok hx hy).pos hw.pos, wN_add hx.pos hy.pos, wN_add hx.pos (addN_ok hy hw).pos, wN_add hy.pos hw.pos]
    exact ext2 (by unfold ad; grind) (by unfold ad; grind))
theorem mulN_assoc (zr : Sz 10 r) (hx : Ok r k x) (hy : Ok r l y) (hw : Ok r m w) : mulN r (mulN r x y) w = mulN r x (mulN r y w) :=
  wN_inj (mulN_ok zr (mulN_ok zr hx hy) hw) (mulN_ok zr hx (mulN_ok zr hy hw)) (by
    rw [wN_mul (mulN_ok zr hx hy).pos hw.pos, wN_mul hx.pos hy.pos, wN_mul hx.pos (mulN_ok zr hy hw).pos, wN_mul hy.pos hw.pos, ml_assoc])
theorem mulN_apart (zr : Sz 10 r) (hx : Ok r k x) (hy : Ok r l y) (hw : Ok r m w) : mulN r (addN x y) w = addN (mulN r x w) (mulN r y w) :=
  wN_inj (mulN_ok zr (addN_ok hx hy) hw) (addN_ok (mulN_ok zr hx hw) (mulN_ok zr hy hw)) (by
    rw [wN_mul (addN_ok hx hy).pos hw.pos, wN_add hx.pos hy.pos, wN_add (mulN_ok zr hx hw).pos (mulN_ok zr hy hw).pos, wN_mul hx.pos hw.pos, wN_mul hy.pos hw.pos, ml_ad])
theorem ov_mul (I : Irr r) (zr : Sz 10 r) (hx : Ok r k x) (hw : Ok r m w) (hne : w ≠ zeroN) : w.1 * w.1 - r * w.2.1 * w.2.1 ≠ 0 ∧ mulN r (ovN r x w) w = x := by
  have hb := bot_ne I hw fun e => hne (wN_inj hw (zero_ok r 1 (by decide)) (by rw [e, wN_zero]))
  have ok := ovN_ok zr hx hw hb
  exact ⟨hb, wN_inj (mulN_ok zr ok hw) hx (by rw [wN_mul ok.pos hw.pos, wN_ov hx.pos hw.pos hb])⟩
/-- the floor goes up by one with the number -/
theorem floor_up (hR : Root r) {F F' : Int} (hx : Ok r k x) (hF : FlR r x.2.1 F) (hF' : FlR r (addN x oneN).2.1 F') : ((addN x oneN).1 + F') / (addN x oneN).2.2 = (x.1 + F) / x.2.2 + 1 := by
  have I := Root.irr hR
  have o1 := one_ok r 1 (by decide)
  have ok := addN_ok hx o1
  obtain ⟨a1, a2⟩ := floor_w hR hx hF rfl
  obtain ⟨b1, b2⟩ := floor_w hR ok hF' rfl
  rw [wN_add hx.pos o1.pos, wN_one] at b1 b2
  generalize (x.1 + F) / x.2.2 = p at *
  generalize ((addN x oneN).1 + F') / (addN x oneN).2.2 = q at *
  have vx := hx.vl
  have v1 := vx.ad (w1_vl r)
  have e : ∀ n : Int, ad (wI n) w1 = wI (n + 1) := fun n => by
    unfold ad wI w1
    simp only [Rat.intCast_add, Rat.intCast_one]
    exact ext2 rfl (by grind)
  have c1 : Lt r (ad (wN x) w1) (wI (p + 1 + 1)) := by rw [← e]; exact a2.adR
  have c2 : Le r (wI (p + 1)) (ad (wN x) w1) := by rw [← e]; exact a1.adR
  have d1 := wI_lt.mp (b1.lt I (wI_vl r _) v1 (wI_vl r _) c1)
  have d2 := wI_lt.mp (c2.lt I (wI_vl r _) v1 (wI_vl r _) b2)
  omega
end
end L2
namespace L2
open Num Wo PySem
theorem ltN_w {r : Int} {x y : N3} (I : Irr r) (hx : 0 < x.2.2) (hy : 0 < y.2.2) (vx : r = 0 → x.2.1 = 0) (vy : r = 0 → y.2.1 = 0) : ltN r x y = true ↔ Lt r (wN x) (wN y) := by
  have e : sb (wN y) (wN x) = of3 (y.1 * x.2.2 - x.1 * y.2.2) (y.2.1 * x.2.2 - x.2.1 * y.2.2) (y.2.2 * x.2.2) := sb_of hy hx
  unfold ltN Lt
  rw [e, ps_of (Int.mul_pos hy hx), below_iff I (fun e => by rw [vx e, vy e]; simp)]
  rw [show -(x.1 * y.2.2 - y.1 * x.2.2) = y.1 * x.2.2 - x.1 * y.2.2 by omega, show -(x.2.1 * y.2.2 - y.2.1 * x.2.2) = y.2.1 * x.2.2 - x.2.1 * y.2.2 by omega]
theorem Nums.three {K : PySem.W.Frag} {H : Hp} {vs : List V} {xs : List N3} (h : Nums K H vs xs) (hl : xs.length = 3) : ∃ v u t x y w, vs = [v, u, t] ∧ xs = [x, y, w] ∧ NumAt K H v x ∧ NumAt K H u y ∧ NumAt K H t w := by
  match xs, hl with
  | [x, y, w], _ =>
    match vs, h.1 with
    | [v, u, t], _ => exact ⟨v, u, t, x, y, w, rfl, rfl, h.2 0 v x rfl rfl, h.2 1 u y rfl rfl, h.2 2 t w rfl rfl⟩
end L2

end
set_option Elab.async false
set_option linter.all false
set_option maxRecDepth 100000
namespace My
open PySem L2

local macro_rules | `(tactic| walk_at "szz") => `(tactic| first
  | assumption
  | exact Sz.sm (k := 64) _ (Nat.le_refl _) (by decide)
  | (refine Sz.neg ?_; walk_at "szz")
  | (refine Sz.mul ?_ ?_ <;> walk_at "szz")
  | (refine Sz.add ?_ ?_ <;> walk_at "szz")
  | (refine Sz.sub ?_ ?_ <;> walk_at "szz")
  | (refine Sz.fdiv ?_ ; walk_at "szz"))
local macro_rules | `(tactic| walk_at "sz") => `(tactic| (refine Sz.mono ?sz1 ?sz2; (case sz1 => walk_at "szz"); (case sz2 => decide)))
local macro_rules | `(tactic| walk_at "cm") => `(tactic| (refine ⟨⟨?cm1, ?cm2⟩, ?_⟩; (case cm1 => walk_at "sz"); (case cm2 => walk_at "sz")))
local macro_rules | `(tactic| walk_at "rd") => `(tactic| repeat (first | refine ⟨_, rfl, ?_⟩ | refine ⟨_, _, rfl, rfl, ?_⟩ | refine ⟨rfl, ?_⟩ | refine ⟨_, _, rfl, ?_⟩ | (with_reducible walk_at "cm")))

def top (i : Nat) : Stmt := PySem.Challenge.pw_cutexchange_k05_whole_order_and_reckonin.main.body.getD i (.Pass ⟨0, 0, 0, 0⟩)
abbrev s__law_cell : Stmt := top 22
abbrev s__law_box : Stmt := top 23
abbrev s__law_take : Stmt := top 24
abbrev s__law_root : Stmt := top 26
abbrev s_is_below_zero : Stmt := top 15
abbrev s_less : Stmt := top 10
abbrev s__law_low : Stmt := top 25
abbrev s__law_any : Stmt := top 27
abbrev s_floor_of_square_root : Stmt := top 17
abbrev s_floor_of_roots : Stmt := top 16
abbrev s_floor_of : Stmt := top 11
abbrev s_put_together : Stmt := top 14
abbrev s_divisor_of_both : Stmt := top 20
abbrev s_divisor_of_all : Stmt := top 19
abbrev s_in_lowest_terms : Stmt := top 18
abbrev s_minus : Stmt := top 7
abbrev s_over : Stmt := top 9
abbrev s_turned_rests : Stmt := top 13
abbrev s_simplest : Stmt := top 12
abbrev s_plus : Stmt := top 6
abbrev s_times : Stmt := top 8
abbrev s__law_ordered : Stmt := top 28
abbrev s__law_reckoned : Stmt := top 29
abbrev s_law : Stmt := top 30

abbrev tri (a b c : Int) : List V := [.int a, .int b, .int c]
def lowV (a b c : Int) : List V := tri (a.fdiv (Num.dv a b c)) (b.fdiv (Num.dv a b c)) (c.fdiv (Num.dv a b c))

def spCell (K : PySem.W.Frag) : Sp := fun vs H Q _ => ∃ (a : Addr) (ns : List Int) (k : Int), vs = [.ref a, .int k] ∧ SqL K H a (ns.map V.int) ∧ ns.length ≤ 63 ∧ 0 ≤ k ∧ k ≤ 1000 ∧ ∀ z : Int, Q (.int z) H
def spBox (K : PySem.W.Frag) : Sp := fun vs H Q _ => ∃ (a : Addr) (ns : List Int) (k : Int), vs = [.ref a, .int k] ∧ SqL K H a (ns.map V.int) ∧ ns.length ≤ 63 ∧ 0 ≤ k ∧ k ≤ 1000 ∧
  ∀ (p : Addr) (n : Int) (H' : Hp), H p = none → Same H H' → H' p = some (.lst [.int n]) → Q (.ref p) H' 
def spTake : Sp := fun vs H Q _ => ∃ (p : Addr) (n m : Int), vs = [.ref p, .int m] ∧ H p = some (.lst [.int n]) ∧ 0 < m ∧ Sz 8900 m ∧
  ∀ (n' d : Int), 0 ≤ d → d < m → Q (.int d) (upd H p (.lst [.int n']))
def spRoot : Sp := fun vs H Q _ => ∃ (p : Addr) (n : Int), vs = [.ref p] ∧ H p = some (.lst [.int n]) ∧
  ∀ (r n' : Int) (H' : Hp), Num.Root r → SameX p H H' → H' p = some (.lst [.int n']) → Q (.int r) H' 
def spBelow : Sp := fun vs H Q _ => ∃ r a b : Int, vs = tri r a b ∧ Sz 100 r ∧ Sz 16000 a ∧ Sz 16000 b ∧ Q (.bl (Num.below r a b)) H
def spLessP (K : PySem.W.Frag) : Sp := fun vs H Q _ => ∃ (r : Int) (p t : Addr) (x y : N3), vs = [.int r, .ref p, .ref t] ∧ SqT K H p (vN x) ∧ SqT K H t (vN y) ∧ Sz 100 r ∧ Sz 7900 x.1 ∧ Sz 7900 x.2.1 ∧ Sz 7900 x.2.2 ∧ Sz 7900 y.1 ∧ Sz 7900 y.2.1 ∧ Sz 7900 y.2.2 ∧ Q (.bl (ltN r x y)) H
def spLow : Sp := fun vs H Q _ => ∃ (a b c : Int), vs = tri a b c ∧ c ≠ 0 ∧ Sz 8900 c ∧ ∀ p, H p = none → Q (.ref p) (upd H p (.tup (lowV a b c)))
def spAny (K : PySem.W.Frag) : Sp := fun vs H Q _ => ∃ (p : Addr) (n r : Int), vs = [.ref p, .int r] ∧ H p = some (.lst [.int n]) ∧ Num.Root r ∧
  ∀ (v : V) (x : N3) (n' : Int) (H' : Hp), Few r x → SameX p H H' → H' p = some (.lst [.int n']) → NumAt K H' v x → Q v H' 
def spSqrt : Sp := fun vs H Q _ => ∃ n : Int, vs = [.int n] ∧ 0 ≤ n ∧ Sz 8000 n ∧ ∀ s, Num.Rt n s → Q (.int s) H
def spRoots : Sp := fun vs H Q _ => ∃ r b : Int, vs = [.int r, .int b] ∧ 0 ≤ r ∧ Sz 100 r ∧ Sz 3000 b ∧ ∀ F, Num.FlR r b F → Q (.int F) H
def spFloor (K : PySem.W.Frag) : Sp := fun vs H Q _ => ∃ (r : Int) (p : Addr) (a b c : Int), vs = [.int r, .ref p] ∧ SqT K H p (tri a b c) ∧ 0 ≤ r ∧ Sz 100 r ∧ Sz 3000 b ∧ 0 < c ∧ Sz 8000 c ∧ ∀ F, Num.FlR r b F → Q (.int ((a + F) / c)) H
def spPut (K : PySem.W.Frag) : Sp := fun vs H Q _ => ∃ (l : Addr) (fs : List Int) (t : Int), vs = [.ref l, .int t] ∧ H l = some (.lst (fs.map V.int)) ∧ (∀ k, Sz 700 (pt (fs.drop k) (t, 1)).1) ∧ (∀ f ∈ fs, Sz 700 f) ∧
  ∀ u, H u = none → Q (.ref u) (upd H u (.tup [.int (pt fs (t, 1)).1, .int 0, .int (pt fs (t, 1)).2]))
def spGcd : Sp := fun vs H Q _ => ∃ a b : Int, vs = [.int a, .int b] ∧ Q (.int ((Nat.gcd a.natAbs b.natAbs : Nat) : Int)) H
def spDiv : Sp := fun vs H Q _ => ∃ a b c : Int, vs = tri a b c ∧ Q (.int ((Num.g3 a b c : Nat) : Int)) H
def spLowP : Sp := fun vs H Q _ => ∃ (a b c : Int), vs = tri a b c ∧ c ≠ 0 ∧ Sz 8900 c ∧ ∀ p, H p = none → Q (.ref p) (upd H p (.tup (lowV a b c)))
def spMinusP (K : PySem.W.Frag) : Sp := fun vs H Q _ => ∃ (v : V) (p r : Addr) (x y : N3), vs = [v, .ref p, .ref r] ∧ SqT K H p (vN x) ∧ SqT K H r (vN y) ∧ x.2.2 * y.2.2 ≠ 0 ∧ Sz 7900 x.1 ∧ Sz 7900 x.2.1 ∧ Sz 7900 x.2.2 ∧ Sz 900 y.1 ∧ Sz 900 y.2.1 ∧ Sz 900 y.2.2 ∧
  ∀ t, H t = none → Q (.ref t) (upd H t (.tup (vN (subN x y))))
def spOver (K : PySem.W.Frag) : Sp := fun vs H Q _ => ∃ (r : Int) (p t : Addr) (x y : N3), vs = [.int r, .ref p, .ref t] ∧ SqT K H p (vN x) ∧ SqT K H t (vN y) ∧ x.2.2 ≠ 0 ∧ y.1 * y.1 - r * y.2.1 * y.2.1 ≠ 0 ∧ Sz 100 r ∧ Sz 1000 x.1 ∧ Sz 1000 x.2.1 ∧ Sz 1000 x.2.2 ∧ Sz 1000 y.1 ∧ Sz 1000 y.2.1 ∧ Sz 1000 y.2.2 ∧
  ∀ u, H u = none → Q (.ref u) (upd H u (.tup (vN (ovN r x y))))
def spTurned (K : PySem.W.Frag) : Sp := fun vs H Q _ => ∃ (r : Int) (pl ph : Addr) (x h : N3) (f : Int), vs = [.int r, .ref pl, .ref ph, .int f] ∧ SqT K H pl (vN x) ∧ SqT K H ph (vN h) ∧ Num.Root r ∧ Ok r 120 x ∧ Ok r 120 h ∧ Sz 260 f ∧ Wo.sb (wN h) (wI f) ≠ Wo.z ∧
  ∀ (t l : Addr) (up : V) (x' : N3) (hi : Option N3) (H' : Hp), Same H H' → H' t = some (.tup [.ref l, up]) → SqT K H' l (vN x') → UpAt K H' up hi → Ok r 800 x' → Wo.ml r (wN x') (Wo.sb (wN h) (wI f)) = w1 → (hi = none → Wo.sb (wN x) (wI f) = Wo.z) → (∀ h', hi = some h' → Ok r 800 h' ∧ Wo.sb (wN x) (wI f) ≠ Wo.z ∧ Wo.ml r (wN h') (Wo.sb (wN x) (wI f)) = w1) → Q (.ref t) H' 
def spSimplest (K : PySem.W.Frag) : Sp := fun vs H Q _ => ∃ (r : Int) (p t : Addr) (X Y : N3), vs = [.int r, .ref p, .ref t] ∧ SqT K H p (vN X) ∧ SqT K H t (vN Y) ∧ Num.Root r ∧ Few r X ∧ Few r Y ∧ Wo.Lt r (wN X) (wN Y) ∧
  ∀ (u : Addr) (T B : Int) (H' : Hp), Same H H' → H' u = some (.tup (vN (T, 0, B))) → 0 < B → Sz 700 T → Sz 700 B → Wo.Lt r (wN X) (Wo.of3 T 0 B) → Wo.Lt r (Wo.of3 T 0 B) (wN Y) → Q (.ref u) H' 
def spPlusP (K : PySem.W.Frag) : Sp := fun vs H Q _ => ∃ (v : V) (p r : Addr) (x y : N3), vs = [v, .ref p, .ref r] ∧ SqT K H p (vN x) ∧ SqT K H r (vN y) ∧ x.2.2 * y.2.2 ≠ 0 ∧ Sz 7900 x.1 ∧ Sz 7900 x.2.1 ∧ Sz 7900 x.2.2 ∧ Sz 900 y.1 ∧ Sz 900 y.2.1 ∧ Sz 900 y.2.2 ∧
  ∀ t, H t = none → Q (.ref t) (upd H t (.tup (vN (addN x y))))
def spTimes (K : PySem.W.Frag) : Sp := fun vs H Q _ => ∃ (r : Int) (p t : Addr) (x y : N3), vs = [.int r, .ref p, .ref t] ∧ SqT K H p (vN x) ∧ SqT K H t (vN y) ∧ x.2.2 * y.2.2 ≠ 0 ∧ Sz 100 r ∧ Sz 4000 x.1 ∧ Sz 4000 x.2.1 ∧ Sz 4000 x.2.2 ∧ Sz 4000 y.1 ∧ Sz 4000 y.2.1 ∧ Sz 4000 y.2.2 ∧
  ∀ u, H u = none → Q (.ref u) (upd H u (.tup (vN (mulN r x y))))
def spOrdered (K : PySem.W.Frag) : Sp := fun vs H Q _ => ∃ (r : Int) (px py pz : Addr) (x y w : N3), vs = [.int r, .ref px, .ref py, .ref pz] ∧ SqT K H px (vN x) ∧ SqT K H py (vN y) ∧ SqT K H pz (vN w) ∧ Num.Root r ∧ Ok r 10 x ∧ Ok r 10 y ∧ Ok r 10 w ∧ ∀ H', Same H H' → Q (.bl true) H'
def spReckoned (K : PySem.W.Frag) : Sp := fun vs H Q _ => ∃ (r : Int) (px py pz : Addr) (x y w : N3), vs = [.int r, .ref px, .ref py, .ref pz] ∧ SqT K H px (vN x) ∧ SqT K H py (vN y) ∧ SqT K H pz (vN w) ∧ Num.Root r ∧ Ok r 10 x ∧ Ok r 10 y ∧ Ok r 10 w ∧ ∀ H', Same H H' → Q (.bl true) H'
def spLaw (K : PySem.W.Frag) : Sp := fun vs H Q _ => ∃ (a : Addr) (ns : List Int), vs = [.ref a] ∧ SqL K H a (ns.map V.int) ∧ ns.length ≤ 63 ∧ ∀ H', Q (.bl true) H' 
section
variable {P : Program} {w : World} {K : PySem.W.Frag} {mg : Str → Option Value} {base : Heap} {tabs : List Addr} {bm : Addr} {ob : Obj}
theorem sc__law_cell : FnScope ["_law_script", "_law_k"] ["_law_script", "_law_k"] (defScope s__law_cell) := ⟨rfl, rfl, rfl, by decide +kernel, rfl, by decide +kernel, by decide +kernel⟩
set_option maxHeartbeats 4000000 in
theorem ok__law_cell {f : Addr} {fd : FuncData} {n : Nat}  (F : Fun K "_law_cell" "_law_cell" s__law_cell f fd) (m_len : mg "len" = none) :
    FnOk P w K mg base CX0 (n + 1) f fd ["_law_script", "_law_k"] (spCell K) := by
  refine F.ok sc__law_cell (fun vs H Q E h => ?_) (fun cdv A outer s H vs Q E hr h => ?_)
  · obtain ⟨a, ns, k, rfl, _⟩ := h
    rfl
  obtain ⟨a, ns, k, rfl, hS, h63, h0, h1, q⟩ := h
  refine ⟨_, (pss_cons (ps_if (pt_cmpR op_lt (pv 1) (pe_callB call_len_seq (by rfl) m_len (by decide +kernel) (pa_cons (pv 0) pa_nil)) (nomark _)) (pss_one (ps_ret (pe_ix ix_list (pv 0) (pv 1) (fun _ _ => rfl)))) pss_nil)
      (pss_one (ps_ret (pe_op op_add (pe_op op_mulB pe_int (pv 1)) pe_int)))), ?_⟩
  refine ⟨_, rfl, _, rfl, a, _, rfl, .inl hS, _, _, rfl, rfl, _, rfl, ?_⟩
  refine ite2 (fun c => ?_) (fun c => ?_)
  · have c' : k < ((ns.map V.int).length : Int) := of_decide_eq_true c
    rw [List.length_map] at c'
    have hk : k.toNat < ns.length := by omega
    exact ⟨_, rfl, _, rfl, a, _, _, .int ns[k.toNat], rfl, rfl, hS, at_of (j := k.toNat) (by omega) (by rw [List.getElem?_map, List.getElem?_eq_getElem hk]; rfl), q _⟩
  · exact ⟨_, rfl, _, _, rfl, rfl, ⟨Sz.of_nat 6151 (by decide), Sz.of_nat 1000 (by omega)⟩, _, _, rfl, rfl, q _⟩
theorem sc__law_box : FnScope ["_law_script", "_law_k", "_law_cell_here", "_law_number", "_law_mixed", "_law_j"] ["_law_script", "_law_k"] (defScope s__law_box) := ⟨rfl, rfl, rfl, by decide +kernel, rfl, by decide +kernel, by decide +kernel⟩
set_option maxHeartbeats 4000000 in
theorem ok__law_box {f : Addr} {fd : FuncData} {n : Nat}  (F : Fun K "_law_box" "_law_box" s__law_box f fd) (C__law_cell : Cal P w K mg base n "_law_cell" ["_law_script", "_law_k"] (spCell K)) (m_range : mg "range" = none) :
    FnOk P w K mg base CX0 (n + 1) f fd ["_law_script", "_law_k"] (spBox K) := by
  obtain ⟨f__law_cell, fd__law_cell, G__law_cell, b__law_cell, k__law_cell, m__law_cell⟩ := C__law_cell.ex
  refine F.ok sc__law_box (fun vs H Q E h => ?_) (fun cdv A outer s H vs Q E hr h => ?_)
  · obtain ⟨a, ns, k, rfl, _⟩ := h
    rfl
  obtain ⟨a, ns, k, rfl, hS, h63, h0, h1, q⟩ := h
  refine ⟨_, (pss_cons (ps_set (i := 2) sc__law_box.nd rfl (by first | exact Or.inl rfl | exact Or.inr rfl) (pe_call G__law_cell hr (by rfl) m__law_cell k__law_cell b__law_cell .nil pass0 (pa_cons (pv 0) (pa_cons (pv 1) pa_nil))))
      (pss_cons (ps_if (pt_cmpR op_eq (pe_op op_mod (pv 2) pe_int) pe_int (nomark _)) (pss_one (ps_ret (pe_lst (pa_cons (pe_op op_fdivP (pv 2) pe_int) pa_nil)))) pss_nil)
      (pss_cons (ps_set (i := 3) sc__law_box.nd rfl (by first | exact Or.inl rfl | exact Or.inr rfl) pe_int)
      (pss_cons (ps_set (i := 4) sc__law_box.nd rfl (by first | exact Or.inl rfl | exact Or.inr rfl) (pe_op op_mod (pv 2) pe_int))
      (pss_cons (ps_for PassesOwn.never (by rfl) (pi_range1 (by rfl) m_range (pa_cons pe_int pa_nil)) (pg_name (i := 5) sc__law_box.nd rfl (by first | exact Or.inl rfl | exact Or.inr rfl)) (pss_cons (ps_set (i := 4) sc__law_box.nd rfl (by first | exact Or.inl rfl | exact Or.inr rfl) (pe_op op_mod (pe_op op_add (pe_op op_add (pe_op op_add (pe_op op_mulS (pv 4) pe_int) (pe_op op_mulS (pe_op op_mulS pe_int (pv 5)) (pv 5))) (pe_op op_mulS pe_int (pv 1))) pe_int) pe_int))
      (pss_one (ps_set (i := 3) sc__law_box.nd rfl (by first | exact Or.inl rfl | exact Or.inr rfl) (pe_op op_add (pe_op op_mulS (pv 3) pe_int) (pv 4))))))
      (pss_one (ps_ret (pe_lst (pa_cons (pv 3) pa_nil))))))))), ?_⟩
  refine ⟨_, rfl, _, rfl, a, ns, k, rfl, hS, h63, h0, h1, fun z => ?_⟩
  refine ⟨_, rfl, _, _, rfl, rfl, (by show (0 : Int) < 2; decide), rfl, _, rfl, ?_⟩
  refine ite2 (fun c => ?_) (fun c => ?_)
  · exact ⟨_, rfl, _, _, rfl, rfl, ⟨by decide, Sz.of_nat 2 (by decide)⟩, smallB rfl, fun p hp => q p _ _ hp (Same.new hp _) upd_same⟩
  refine ⟨_, rfl, _, _, rfl, rfl, (by show (0 : Int) < 2147483647; decide), ?_⟩
  refine ⟨24, rfl, by decide, by decide, for_range (n := 24) (fun i σ H' => ∃ (num mix : Int) (v : Option V), σ = [some (.ref a), some (.int k), some (.int z), some (.int num), some (.int mix), v] ∧ H = H')
    ⟨_, _, _, rfl, rfl⟩ ?_ ?_⟩
  · rintro i σ H' hi ⟨num, mix, v, rfl, rfl⟩
    have hi' : Sz 64 (0 + (i : Int)) := Sz.sm 24 (by omega)
    refine ⟨_, rfl, _, _, rfl, rfl, .inr (Sz.sm 48271 (by decide)), _, rfl, _, _, rfl, rfl, .inr hi', _, rfl, _, _, rfl, rfl, .inr hi', _, _, rfl, rfl, ?_⟩
    refine ⟨_, rfl, _, _, rfl, rfl, .inl (Sz.sm 11 (by decide)), _, _, rfl, rfl, _, _, rfl, rfl, _, _, rfl, rfl, (by show (0 : Int) < 2147483647; decide), ?_⟩
    exact ⟨_, rfl, _, _, rfl, rfl, .inr (Sz.sm 2147483647 (by decide)), _, rfl, _, _, rfl, rfl, _, _, _, rfl, rfl⟩
  · rintro σ H' ⟨num, mix, v, rfl, rfl⟩
    exact ⟨_, rfl, smallB rfl, fun p hp => q p _ _ hp (Same.new hp _) upd_same⟩
theorem sc__law_take : FnScope ["_law_box_here", "_law_many", "_law_digit"] ["_law_box_here", "_law_many"] (defScope s__law_take) := ⟨rfl, rfl, rfl, by decide +kernel, rfl, by decide +kernel, by decide +kernel⟩
set_option maxHeartbeats 4000000 in
theorem ok__law_take {f : Addr} {fd : FuncData} {n : Nat}  (F : Fun K "_law_take" "_law_take" s__law_take f fd) :
    FnOk P w K mg base CX0 (n + 1) f fd ["_law_box_here", "_law_many"] spTake := by
  refine F.ok sc__law_take (fun vs H Q E h => ?_) (fun cdv A outer s H vs Q E hr h => ?_)
  · obtain ⟨p, n, m, rfl, _⟩ := h
    rfl
  obtain ⟨p, n, m, rfl, hp, hm, hz, q⟩ := h
  refine ⟨_, (pss_cons (ps_set (i := 2) sc__law_take.nd rfl (by first | exact Or.inl rfl | exact Or.inr rfl) (pe_op op_mod (pe_ix ix_list (pv 0) pe_int (fun _ _ => rfl)) (pv 1)))
      (pss_cons (ps_asg (pe_op op_fdivP (pe_ix ix_list (pv 0) pe_int (fun _ _ => rfl)) (pv 1)) (pg_sub (pv 0) pe_int set_list))
      (pss_one (ps_ret (pv 2))))), ?_⟩
  refine ⟨_, rfl, p, _, _, _, rfl, rfl, SqL.of hp, at0, _, rfl, _, _, rfl, rfl, hm, ?_⟩
  refine ⟨_, rfl, p, _, _, _, rfl, rfl, SqL.of hp, at0, _, rfl, _, _, rfl, rfl, ⟨hm, hz⟩, ?_⟩
  refine ⟨_, rfl, p, _, _, 0, rfl, rfl, hp, rfl, ?_⟩
  exact ⟨_, rfl, q (n / m) (n % m) (Int.emod_nonneg _ (by omega)) (Int.emod_lt_of_pos _ hm)⟩
theorem sc__law_root : FnScope ["_law_box_here"] ["_law_box_here"] (defScope s__law_root) := ⟨rfl, rfl, rfl, by decide +kernel, rfl, by decide +kernel, by decide +kernel⟩
set_option maxHeartbeats 4000000 in
theorem ok__law_root {f : Addr} {fd : FuncData} {n : Nat}  (F : Fun K "_law_root" "_law_root" s__law_root f fd) (C__law_take : Cal P w K mg base n "_law_take" ["_law_box_here", "_law_many"] spTake) :
    FnOk P w K mg base CX0 (n + 1) f fd ["_law_box_here"] spRoot := by
  obtain ⟨f__law_take, fd__law_take, G__law_take, b__law_take, k__law_take, m__law_take⟩ := C__law_take.ex
  refine F.ok sc__law_root (fun vs H Q E h => ?_) (fun cdv A outer s H vs Q E hr h => ?_)
  · obtain ⟨p, n, rfl, _⟩ := h
    rfl
  obtain ⟨p, n, rfl, hp, q⟩ := h
  refine ⟨_, (pss_one (ps_ret (pe_ix ix_list (pe_lst (pa_cons pe_int (pa_cons pe_int (pa_cons pe_int (pa_cons pe_int (pa_cons pe_int (pa_cons pe_int (pa_cons pe_int (pa_cons pe_int pa_nil))))))))) (pe_call G__law_take hr (by rfl) m__law_take k__law_take b__law_take .nil pass0 (pa_cons (pv 0) (pa_cons pe_int pa_nil))) (fun _ _ => rfl)))), ?_⟩
  refine ⟨smallB rfl, fun l hl => ?_⟩
  have npl : p ≠ l := ne_of_none hp hl
  refine ⟨_, rfl, p, n, 8, rfl, (by rw [upd_ne npl]; exact hp), by decide, Sz.of_nat 8 (by decide), fun n' d h0 h1 => ?_⟩
  have hl2 : (upd (upd H l (.lst [V.int 0, V.int 0, V.int 2, V.int 3, V.int 5, V.int 6, V.int 7, V.int 13])) p (.lst [.int n'])) l = some (.lst [V.int 0, V.int 0, V.int 2, V.int 3, V.int 5, V.int 6, V.int 7, V.int 13]) := by rw [upd_ne npl.symm]; exact upd_same
  have fin : ∀ r : Int, Num.Root r → Q (.int r) (upd (upd H l (.lst [V.int 0, V.int 0, V.int 2, V.int 3, V.int 5, V.int 6, V.int 7, V.int 13])) p (.lst [.int n'])) := fun r hr => q r n' _ hr (((Same.new hl _).x p).trans (SameX.upd _)) upd_same
  obtain ⟨j, rfl⟩ : ∃ j : Nat, d = (j : Int) := ⟨d.toNat, by omega⟩
  have hj : j = 0 ∨ j = 1 ∨ j = 2 ∨ j = 3 ∨ j = 4 ∨ j = 5 ∨ j = 6 ∨ j = 7 := by omega
  rcases hj with rfl | rfl | rfl | rfl | rfl | rfl | rfl | rfl
  all_goals exact ⟨l, _, _, _, rfl, rfl, SqL.of hl2, atI_nat rfl, fin _ (by unfold Num.Root; decide)⟩
theorem sc_is_below_zero : FnScope ["root", "a", "b"] ["root", "a", "b"] (defScope s_is_below_zero) := ⟨rfl, rfl, rfl, by decide +kernel, rfl, by decide +kernel, by decide +kernel⟩
set_option maxHeartbeats 4000000 in
theorem ok_is_below_zero {f : Addr} {fd : FuncData} {n : Nat}  (F : Fun K "is_below_zero" "is_below_zero" s_is_below_zero f fd) :
    FnOk P w K mg base CX0 (n + 1) f fd ["root", "a", "b"] spBelow := by
  refine F.ok sc_is_below_zero (fun vs H Q E h => ?_) (fun cdv A outer s H vs Q E hr h => ?_)
  · obtain ⟨r, a, b, rfl, _⟩ := h
    rfl
  obtain ⟨r, a, b, rfl, zr, za, zb, q⟩ := h
  refine ⟨_, (pss_cons (ps_if (pt_cmpR op_lt (pv 1) pe_int (nomark _)) (pss_one (ps_ret (pe_or (pe_cmpR op_le (pv 2) pe_int (nomark _)) (pe_one (pe_cmpR op_lt (pe_op op_mulB (pe_op op_mulB (pv 0) (pv 2)) (pv 2)) (pe_op op_mulB (pv 1) (pv 1)) (nomark _)))))) pss_nil)
      (pss_one (ps_ret (pe_and (pe_cmpR op_lt (pv 2) pe_int (nomark _)) (pe_one (pe_cmpR op_lt (pe_op op_mulB (pv 1) (pv 1)) (pe_op op_mulB (pe_op op_mulB (pv 0) (pv 2)) (pv 2)) (nomark _))))))), ?_⟩
  have q1 : a < 0 → Q (.bl (decide (b ≤ 0) || decide (r * b * b < a * a))) H := fun h => by
    have e : Num.below r a b = (decide (b ≤ 0) || decide (r * b * b < a * a)) := by unfold Num.below; rw [if_pos h]
    rw [← e]; exact q
  have q2 : ¬ a < 0 → Q (.bl (decide (b < 0) && decide (a * a < r * b * b))) H := fun h => by
    have e : Num.below r a b = (decide (b < 0) && decide (a * a < r * b * b)) := by unfold Num.below; rw [if_neg h]
    rw [← e]; exact q
  refine ⟨_, rfl, _, _, rfl, rfl, _, rfl, ?_⟩
  refine ite2 (fun c => ?_) (fun c => ?_)
  · have q3 := q1 (of_decide_eq_true c)
    refine ⟨_, rfl, _, _, rfl, rfl, _, rfl, ?_⟩
    refine ite2 (fun c1 => ?_) (fun c1 => ?_)
    · rw [c1, Bool.true_or] at q3; exact q3
    · rw [Bool.eq_false_iff.mpr c1, Bool.false_or] at q3
      exact ⟨_, rfl, _, rfl, _, _, rfl, rfl, ⟨zr.mono, zb.mono⟩, _, rfl, _, _, rfl, rfl, ⟨(zr.mul zb).mono, zb.mono⟩, _, rfl, _, rfl, _, _, rfl, rfl, ⟨za.mono, za.mono⟩, _, _, rfl, rfl, q3⟩
  · have q3 := q2 (of_decide_eq_false (Bool.eq_false_iff.mpr c))
    refine ⟨_, rfl, _, _, rfl, rfl, _, rfl, ?_⟩
    refine ite2 (fun c1 => ?_) (fun c1 => ?_)
    · rw [c1, Bool.true_and] at q3
      exact ⟨_, rfl, _, rfl, _, _, rfl, rfl, ⟨za.mono, za.mono⟩, _, rfl, _, rfl, _, _, rfl, rfl, ⟨zr.mono, zb.mono⟩, _, rfl, _, _, rfl, rfl, ⟨(zr.mul zb).mono, zb.mono⟩, _, _, rfl, rfl, q3⟩
    · rw [Bool.eq_false_iff.mpr c1, Bool.false_and] at q3; exact q3
theorem sc_less : FnScope ["root", "one", "other", "a", "b", "c", "d", "e", "f"] ["root", "one", "other"] (defScope s_less) := ⟨rfl, rfl, rfl, by decide +kernel, rfl, by decide +kernel, by decide +kernel⟩
set_option maxHeartbeats 4000000 in
theorem ok_less {f : Addr} {fd : FuncData} {n : Nat}  (F : Fun K "less" "less" s_less f fd) (C_is_below_zero : Cal P w K mg base n "is_below_zero" ["root", "a", "b"] spBelow) :
    FnOk P w K mg base CX0 (n + 1) f fd ["root", "one", "other"] (spLessP K) := by
  obtain ⟨f_is_below_zero, fd_is_below_zero, G_is_below_zero, b_is_below_zero, k_is_below_zero, m_is_below_zero⟩ := C_is_below_zero.ex
  refine F.ok sc_less (fun vs H Q E h => ?_) (fun cdv A outer s H vs Q E hr h => ?_)
  · obtain ⟨r, p, t, x, y, rfl, _⟩ := h
    rfl
  obtain ⟨r, p, t, x, y, rfl, h1, h2, zr, za, zb, zc, zd, ze, zf, q⟩ := h
  refine ⟨_, (pss_cons (ps_asg (pv 1) (pg_tup (n := 3) (by rfl) (pgs_cons (pg_name (i := 3) sc_less.nd rfl (by first | exact Or.inl rfl | exact Or.inr rfl)) (pgs_cons (pg_name (i := 4) sc_less.nd rfl (by first | exact Or.inl rfl | exact Or.inr rfl)) (pgs_cons (pg_name (i := 5) sc_less.nd rfl (by first | exact Or.inl rfl | exact Or.inr rfl)) pgs_nil)))))
      (pss_cons (ps_asg (pv 2) (pg_tup (n := 3) (by rfl) (pgs_cons (pg_name (i := 6) sc_less.nd rfl (by first | exact Or.inl rfl | exact Or.inr rfl)) (pgs_cons (pg_name (i := 7) sc_less.nd rfl (by first | exact Or.inl rfl | exact Or.inr rfl)) (pgs_cons (pg_name (i := 8) sc_less.nd rfl (by first | exact Or.inl rfl | exact Or.inr rfl)) pgs_nil)))))
      (pss_one (ps_ret (pe_call G_is_below_zero hr (by rfl) m_is_below_zero k_is_below_zero b_is_below_zero .nil pass0 (pa_cons (pv 0) (pa_cons (pe_op op_sub (pe_op op_mulB (pv 3) (pv 8)) (pe_op op_mulB (pv 6) (pv 5))) (pa_cons (pe_op op_sub (pe_op op_mulB (pv 4) (pv 8)) (pe_op op_mulB (pv 7) (pv 5))) pa_nil)))))))), ?_⟩
  refine ⟨_, rfl, p, _, rfl, h1, rfl, ?_⟩
  refine ⟨_, _, rfl, _, _, rfl, _, _, rfl, rfl, ?_⟩
  refine ⟨_, rfl, t, _, rfl, h2, rfl, ?_⟩
  refine ⟨_, _, rfl, _, _, rfl, _, _, rfl, rfl, ?_⟩
  
  refine ⟨_, rfl, _, rfl, _, rfl, _, _, rfl, rfl, ⟨za.mono, zf.mono⟩, _, rfl, _, rfl, _, _, rfl, rfl, ⟨zd.mono, zc.mono⟩, _, _, rfl, rfl, ?_⟩
  refine ⟨_, rfl, _, rfl, _, _, rfl, rfl, ⟨zb.mono, zf.mono⟩, _, rfl, _, rfl, _, _, rfl, rfl, ⟨ze.mono, zc.mono⟩, _, _, rfl, rfl, ?_⟩
  exact ⟨r, _, _, rfl, zr, ((za.mul zf).sub (zd.mul zc)).mono, ((zb.mul zf).sub (ze.mul zc)).mono, q⟩
theorem sc__law_low : FnScope ["_law_a", "_law_b", "_law_c", "_law_one", "_law_other"] ["_law_a", "_law_b", "_law_c"] (defScope s__law_low) := ⟨rfl, rfl, rfl, by decide +kernel, rfl, by decide +kernel, by decide +kernel⟩
set_option maxHeartbeats 4000000 in
theorem ok__law_low {f : Addr} {fd : FuncData} {n : Nat}  (F : Fun K "_law_low" "_law_low" s__law_low f fd) (m_abs : mg "abs" = none) :
    FnOk P w K mg base CX0 (n + 1) f fd ["_law_a", "_law_b", "_law_c"] spLow := by
  refine F.ok sc__law_low (fun vs H Q E h => ?_) (fun cdv A outer s H vs Q E hr h => ?_)
  · obtain ⟨a, b, c, rfl, _⟩ := h
    rfl
  obtain ⟨a, b, c, rfl, hc, hz, q⟩ := h
  refine ⟨_, (pss_cons (ps_par (by rfl) sc__law_low.nd (i := 3) (j := 4) rfl rfl (by decide) rfl rfl (pa_cons (pe_callB call_abs (by rfl) m_abs (by decide +kernel) (pa_cons (pv 0) pa_nil)) (pa_cons (pe_callB call_abs (by rfl) m_abs (by decide +kernel) (pa_cons (pv 1) pa_nil)) pa_nil)) (by rfl))
      (pss_cons (ps_while PassesOwn.never (pt_cmpR op_gt (pv 4) pe_int (nomark _)) (pss_one (ps_par (by rfl) sc__law_low.nd (i := 3) (j := 4) rfl rfl (by decide) rfl rfl (pa_cons (pv 4) (pa_cons (pe_op op_mod (pv 3) (pv 4)) pa_nil)) (by rfl))))
      (pss_cons (ps_set (i := 4) sc__law_low.nd rfl (by first | exact Or.inl rfl | exact Or.inr rfl) (pe_callB call_abs (by rfl) m_abs (by decide +kernel) (pa_cons (pv 2) pa_nil)))
      (pss_cons (ps_while PassesOwn.never (pt_cmpR op_gt (pv 4) pe_int (nomark _)) (pss_one (ps_par (by rfl) sc__law_low.nd (i := 3) (j := 4) rfl rfl (by decide) rfl rfl (pa_cons (pv 4) (pa_cons (pe_op op_mod (pv 3) (pv 4)) pa_nil)) (by rfl))))
      (pss_cons (ps_if (pt_cmpR op_lt (pv 2) pe_int (nomark _)) (pss_one (ps_set (i := 3) sc__law_low.nd rfl (by first | exact Or.inl rfl | exact Or.inr rfl) (pe_un un_neg (pv 3)))) pss_nil)
      (pss_one (ps_ret (pe_tup (pa_cons (pe_op op_fdivB (pv 0) (pv 3)) (pa_cons (pe_op op_fdivB (pv 1) (pv 3)) (pa_cons (pe_op op_fdivB (pv 2) (pv 3)) pa_nil))))))))))), ?_⟩
  refine ⟨_, rfl, _, rfl, _, rfl, _, rfl, _, _, rfl, ?_⟩
  refine while_by (fun σ H' => ∃ x y : Int, σ = [some (.int a), some (.int b), some (.int c), some (.int x), some (.int y)] ∧ H = H' ∧ 0 ≤ x ∧ 0 ≤ y ∧ Nat.gcd x.natAbs y.natAbs = Nat.gcd a.natAbs b.natAbs)
    (fun σ _ => match σ with | [_, _, _, _, some (.int y)] => y.toNat | _ => 0) ?_ ?_ (fun σ H Q Q' hQ h => by
      obtain ⟨v, hv, i, j, e1, e2, k, e3, hq⟩ := h
      exact ⟨v, hv, i, j, e1, e2, k, e3, hQ _ _ hq⟩)
  · exact ⟨_, _, rfl, rfl, if_nn a, if_nn b, by rw [nat_if, nat_if]⟩
  rintro σ H' ⟨x, y, rfl, rfl, hx, hy, hg⟩
  refine ⟨_, rfl, _, _, rfl, rfl, _, rfl, ?_⟩
  refine ite2 (fun ct => ?_) (fun ct => ?_)
  · have hy' : 0 < y := of_decide_eq_true ct
    refine ⟨_, rfl, _, rfl, _, rfl, _, _, rfl, rfl, hy', _, _, rfl, ⟨_, _, rfl, rfl, hy, Int.emod_nonneg _ (by omega), ?_⟩, ?_⟩
    · rw [← hg, Num.gcd_turn hx hy']
    · show (x % y).toNat < y.toNat
      have := Int.emod_lt_of_pos x hy'
      omega
  have hy0 : y = 0 := by have h1 : ¬ 0 < y := of_decide_eq_false (Bool.eq_false_iff.mpr ct); omega
  subst hy0
  rw [Int.natAbs_zero, Nat.gcd_zero_right] at hg
  
  refine ⟨_, rfl, _, rfl, ?_⟩
  refine while_by (fun σ H' => ∃ x y : Int, σ = [some (.int a), some (.int b), some (.int c), some (.int x), some (.int y)] ∧ H = H' ∧ 0 ≤ x ∧ 0 ≤ y ∧ Nat.gcd x.natAbs y.natAbs = Num.g3 a b c)
    (fun σ _ => match σ with | [_, _, _, _, some (.int y)] => y.toNat | _ => 0) ?_ ?_ (fun σ H Q Q' hQ h => by
      obtain ⟨v, hv, i, j, e1, e2, k, e3, hq⟩ := h
      exact ⟨v, hv, i, j, e1, e2, k, e3, hQ _ _ hq⟩)
  · exact ⟨_, _, rfl, rfl, hx, if_nn c, by rw [nat_if, hg]; rfl⟩
  rintro σ H' ⟨x, y, rfl, rfl, hx, hy, hg⟩
  refine ⟨_, rfl, _, _, rfl, rfl, _, rfl, ?_⟩
  refine ite2 (fun ct => ?_) (fun ct => ?_)
  · have hy' : 0 < y := of_decide_eq_true ct
    refine ⟨_, rfl, _, rfl, _, rfl, _, _, rfl, rfl, hy', _, _, rfl, ⟨_, _, rfl, rfl, hy, Int.emod_nonneg _ (by omega), ?_⟩, ?_⟩
    · rw [← hg, Num.gcd_turn hx hy']
    · show (x % y).toNat < y.toNat
      have := Int.emod_lt_of_pos x hy'
      omega
  have hy0 : y = 0 := by have h1 : ¬ 0 < y := of_decide_eq_false (Bool.eq_false_iff.mpr ct); omega
  subst hy0
  rw [Int.natAbs_zero, Nat.gcd_zero_right] at hg
  
  have hg3 : x = (Num.g3 a b c : Int) := by omega
  have fin : ∀ o : Int, o = Num.dv a b c → (tRet (tTup (tCons (tOp (rI CDivB fun i j => .int (i.fdiv j)) (tVar 0) (tVar 3)) (tCons (tOp (rI CDivB fun i j => .int (i.fdiv j)) (tVar 1) (tVar 3)) (tCons (tOp (rI CDivB fun i j => .int (i.fdiv j)) (tVar 2) (tVar 3)) tNil))))) { nx := fun _ H' => Q .non H', rt := Q } [some (.int a), some (.int b), some (.int c), some (.int o), some (.int 0)] H := by
    rintro o rfl
    have hd : CDivB 0 (Num.dv a b c) := ⟨Num.dv_ne hc, hz.of_le (by rw [Num.dv_abs]; exact Num.g3_le hc)⟩
    exact ⟨_, rfl, _, rfl, _, _, rfl, rfl, hd, _, rfl, _, rfl, _, _, rfl, rfl, hd, _, rfl, _, rfl, _, _, rfl, rfl, hd, smallB rfl, q⟩
  refine ⟨_, rfl, _, _, rfl, rfl, _, rfl, ?_⟩
  refine ite2 (fun cc => ?_) (fun cc => ?_)
  · have h0 : c < 0 := of_decide_eq_true cc
    refine ⟨_, rfl, _, rfl, ?_⟩
    exact fin (-x) (by unfold Num.dv; rw [if_pos h0, hg3])
  · have h0 : ¬ c < 0 := of_decide_eq_false (Bool.eq_false_iff.mpr cc)
    exact fin x (by unfold Num.dv; rw [if_neg h0, hg3])
theorem sc__law_any : FnScope ["_law_box_here", "_law_root_here", "_law_b"] ["_law_box_here", "_law_root_here"] (defScope s__law_any) := ⟨rfl, rfl, rfl, by decide +kernel, rfl, by decide +kernel, by decide +kernel⟩
set_option maxHeartbeats 4000000 in
theorem ok__law_any {f : Addr} {fd : FuncData} {n : Nat}  (F : Fun K "_law_any" "_law_any" s__law_any f fd) (C__law_low : Cal P w K mg base n "_law_low" ["_law_a", "_law_b", "_law_c"] spLow) (C__law_take : Cal P w K mg base n "_law_take" ["_law_box_here", "_law_many"] spTake) (m_int : mg "int" = none) :
    FnOk P w K mg base CX0 (n + 1) f fd ["_law_box_here", "_law_root_here"] (spAny K) := by
  obtain ⟨f__law_low, fd__law_low, G__law_low, b__law_low, k__law_low, m__law_low⟩ := C__law_low.ex
  obtain ⟨f__law_take, fd__law_take, G__law_take, b__law_take, k__law_take, m__law_take⟩ := C__law_take.ex
  refine F.ok sc__law_any (fun vs H Q E h => ?_) (fun cdv A outer s H vs Q E hr h => ?_)
  · obtain ⟨p, n, r, rfl, _⟩ := h
    rfl
  obtain ⟨p, n, r, rfl, hp, hR, q⟩ := h
  refine ⟨_, (pss_cons (ps_set (i := 2) sc__law_any.nd rfl (by first | exact Or.inl rfl | exact Or.inr rfl) (pe_op op_mulB (pe_op op_sub (pe_call G__law_take hr (by rfl) m__law_take k__law_take b__law_take .nil pass0 (pa_cons (pv 0) (pa_cons pe_int pa_nil))) pe_int) (pe_callTy call_int1 (by rfl) m_int (by decide +kernel) (pa_cons (pe_cmpR op_gt (pv 1) pe_int (nomark _)) pa_nil))))
      (pss_one (ps_ret (pe_call G__law_low hr (by rfl) m__law_low k__law_low b__law_low .nil pass0 (pa_cons (pe_op op_sub (pe_call G__law_take hr (by rfl) m__law_take k__law_take b__law_take .nil pass0 (pa_cons (pv 0) (pa_cons pe_int pa_nil))) pe_int) (pa_cons (pv 2) (pa_cons (pe_op op_add pe_int (pe_call G__law_take hr (by rfl) m__law_take k__law_take b__law_take .nil pass0 (pa_cons (pv 0) (pa_cons pe_int pa_nil)))) pa_nil))))))), ?_⟩
  refine ⟨_, rfl, p, n, 21, rfl, hp, by decide, Sz.of_nat 21 (by decide), fun n1 d1 h10 h11 => ?_⟩
  refine ⟨_, _, rfl, rfl, _, rfl, _, _, rfl, rfl, .inr ⟨_, rfl, ?_⟩⟩
  have zd1 : Sz 5 (d1 - 10) := Sz.sm 10 (by omega)
  have zi : Sz 5 (if decide (0 < r) = true then (1 : Int) else 0) := by
    split
    · exact Sz.sm 1 (by decide)
    · exact Sz.zero
  have zb : -10 ≤ ((d1 - 10) * (if decide (0 < r) = true then 1 else 0)) ∧ ((d1 - 10) * (if decide (0 < r) = true then 1 else 0)) ≤ 10 := by
    split
    · rw [Int.mul_one]; omega
    · rw [Int.mul_zero]; decide
  have hb0 : r = 0 → ((d1 - 10) * (if decide (0 < r) = true then 1 else 0)) = 0 := by
    rintro rfl; rw [if_neg (by decide), Int.mul_zero]
  refine ⟨_, _, rfl, rfl, ⟨zd1.mono, zi.mono⟩, ?_⟩
  dsimp only
  generalize ((d1 - 10) * (if decide (0 < r) = true then 1 else 0)) = b at *
  refine ⟨_, rfl, p, n1, 41, rfl, upd_same, by decide, Sz.of_nat 41 (by decide), fun n2 d2 h20 h21 => ?_⟩
  refine ⟨_, _, rfl, rfl, _, rfl, _, rfl, p, n2, 12, rfl, upd_same, by decide, Sz.of_nat 12 (by decide), fun n3 d3 h30 h31 => ?_⟩
  have few := few_low (r := r) (a := d2 - 20) (b := b) (c := 1 + d3) (by omega) (by omega) zb.1 zb.2 (by omega) (by omega) hb0
  have sx : SameX p H (upd (upd (upd H p (.lst [.int n1])) p (.lst [.int n2])) p (.lst [.int n3])) := (SameX.upd _).trans ((SameX.upd _).trans (SameX.upd _))
  have hp3 : (upd (upd (upd H p (.lst [.int n1])) p (.lst [.int n2])) p (.lst [.int n3])) p = some (.lst [.int n3]) := upd_same
  generalize upd (upd (upd H p (.lst [.int n1])) p (.lst [.int n2])) p (.lst [.int n3]) = H3 at *
  refine ⟨_, _, rfl, rfl, _, _, _, rfl, by omega, Sz.of_nat 12 (by omega), fun t ht => ?_⟩
  have gt := Same.new ht (.tup (vN (lw (d2 - 20) b (1 + d3))))
  exact q _ _ n3 _ few (sx.trans (gt.x p)) (gt _ _ hp3) ⟨t, rfl, SqT.of upd_same⟩
theorem sc_floor_of_square_root : FnScope ["square", "guess", "better"] ["square"] (defScope s_floor_of_square_root) := ⟨rfl, rfl, rfl, by decide +kernel, rfl, by decide +kernel, by decide +kernel⟩
set_option maxHeartbeats 4000000 in
theorem ok_floor_of_square_root {f : Addr} {fd : FuncData} {n : Nat}  (F : Fun K "floor_of_square_root" "floor_of_square_root" s_floor_of_square_root f fd) :
    FnOk P w K mg base CX0 (n + 1) f fd ["square"] spSqrt := by
  refine F.ok sc_floor_of_square_root (fun vs H Q E h => ?_) (fun cdv A outer s H vs Q E hr h => ?_)
  · obtain ⟨n, rfl, _⟩ := h
    rfl
  obtain ⟨n, rfl, h0, hz, q⟩ := h
  refine ⟨_, (pss_cons (ps_if (pt_cmpR op_eq (pv 0) pe_int (nomark _)) (pss_one (ps_ret pe_int)) pss_nil)
      (pss_cons (ps_set (i := 1) sc_floor_of_square_root.nd rfl (by first | exact Or.inl rfl | exact Or.inr rfl) (pe_op op_shl pe_int (pe_op op_fdivP (pe_op op_add (pe_bm0 PySem.F.plainAttrs_int PySem.F.slot_int_bit_length PySem.F.type_int_bit_length mt_bitlen (pv 0)) pe_int) pe_int)))
      (pss_cons (ps_set (i := 2) sc_floor_of_square_root.nd rfl (by first | exact Or.inl rfl | exact Or.inr rfl) (pe_op op_fdivP (pe_op op_add (pv 1) (pe_op op_fdivP (pv 0) (pv 1))) pe_int))
      (pss_cons (ps_while PassesOwn.never (pt_cmpR op_lt (pv 2) (pv 1) (nomark _)) (pss_cons (ps_set (i := 1) sc_floor_of_square_root.nd rfl (by first | exact Or.inl rfl | exact Or.inr rfl) (pv 2))
      (pss_one (ps_set (i := 2) sc_floor_of_square_root.nd rfl (by first | exact Or.inl rfl | exact Or.inr rfl) (pe_op op_fdivP (pe_op op_add (pv 1) (pe_op op_fdivP (pv 0) (pv 1))) pe_int)))))
      (pss_one (ps_ret (pv 1))))))), ?_⟩
  refine ⟨_, rfl, rfl, _, rfl, ?_⟩
  refine ite2 (fun c => ?_) (fun c => ?_)
  · have c' : V.int n = V.int 0 := of_decide_eq_true c
    injection c' with c'
    subst c'
    exact q 0 ⟨by decide, by decide, by decide⟩
  have hn : 0 < n := by
    have c' : ¬ V.int n = V.int 0 := of_decide_eq_false (Bool.eq_false_iff.mpr c)
    have : n ≠ 0 := fun e => c' (by rw [e])
    omega
  have hb := hz.bits
  generalize hB : Builtin.Int.intBits n = B at hb
  refine ⟨_, rfl, rfl, _, rfl, rfl, _, _, rfl, rfl, _, _, rfl, rfl, ⟨by decide, Sz.of_nat 2 (by decide)⟩, _, _, rfl, rfl, ?_⟩
  rw [hB]
  have e0 : (((B : Nat) : Int) + 1) / 2 = (((B + 1) / 2 : Nat) : Int) := by omega
  rw [e0]
  refine ⟨⟨by omega, by omega, by decide⟩, ?_⟩
  dsimp only
  rw [Int.toNat_natCast, Int.one_mul]
  have hg0 : (0 : Int) < 2 ^ ((B + 1) / 2) := Int.pow_pos (by decide)
  have hg1 : n < (2 ^ ((B + 1) / 2) + 1) * (2 ^ ((B + 1) / 2) + 1) := by
    have h1 : n.natAbs < 2 ^ B := by
      have e := hB
      unfold Builtin.Int.intBits at e
      split at e
      · rename_i h; simp at h; omega
      · rw [← e]; exact Nat.lt_log2_self
    have h2 : 2 ^ B ≤ 2 ^ ((B + 1) / 2) * 2 ^ ((B + 1) / 2) := by
      rw [← Nat.pow_add]
      exact Nat.pow_le_pow_right (by decide) (by omega)
    have h3 : (n.natAbs : Int) < (2 ^ ((B + 1) / 2) : Int) * (2 ^ ((B + 1) / 2) : Int) := by
      have h4 : n.natAbs < 2 ^ ((B + 1) / 2) * 2 ^ ((B + 1) / 2) := Nat.lt_of_lt_of_le h1 h2
      have h5 : ((n.natAbs : Nat) : Int) < ((2 ^ ((B + 1) / 2) * 2 ^ ((B + 1) / 2) : Nat) : Int) := Int.ofNat_lt.mpr h4
      rw [Int.natCast_mul, Int.natCast_pow] at h5
      exact h5
    generalize (2 ^ ((B + 1) / 2) : Int) = g at *
    have e : (g + 1) * (g + 1) = g * g + 2 * g + 1 := by grind
    omega
  have hgz : Sz 8001 ((2 : Int) ^ ((B + 1) / 2)) := by
    unfold Sz
    rw [Int.natAbs_pow]
    exact Nat.pow_lt_pow_right (by decide) (by omega)
  generalize (2 ^ ((B + 1) / 2) : Int) = g at *
  refine ⟨_, rfl, _, rfl, _, rfl, _, _, rfl, rfl, ⟨hg0, hgz.mono⟩, _, _, rfl, rfl, _, _, rfl, rfl, ⟨by decide, Sz.of_nat 2 (by decide)⟩, ?_⟩
  refine while_by (fun σ H' => ∃ g : Int, σ = [some (.int n), some (.int g), some (.int ((g + n / g) / 2))] ∧ H = H' ∧ 0 < g ∧ Sz 8001 g ∧ n < (g + 1) * (g + 1))
    (fun σ _ => match σ with | [_, some (.int y), _] => y.toNat | _ => 0) ?_ ?_ (fun σ H Q Q' hQ h => by
      obtain ⟨v, hv, w, hw, i, j, e1, e2, k, e3, hq⟩ := h
      exact ⟨v, hv, w, hw, i, j, e1, e2, k, e3, hQ _ _ hq⟩)
  · exact ⟨g, rfl, rfl, hg0, hgz, hg1⟩
  rintro σ H' ⟨g, rfl, rfl, hg0, hgz, hg1⟩
  refine ⟨_, rfl, _, rfl, _, _, rfl, rfl, _, rfl, ?_⟩
  refine ite2 (fun ct => ?_) (fun ct => ?_)
  · have hl : (g + n / g) / 2 < g := of_decide_eq_true ct
    have hp := Num.newton_pos hg0 hn
    have hz2 : Sz 8001 ((g + n / g) / 2) := hgz.of_le (by omega)
    refine ⟨_, rfl, ?_⟩
    refine ⟨_, rfl, _, rfl, _, rfl, _, _, rfl, rfl, ⟨hp, hz2.mono⟩, _, _, rfl, rfl, _, _, rfl, rfl, ⟨by decide, Sz.of_nat 2 (by decide)⟩, ?_⟩
    refine ⟨⟨_, rfl, rfl, hp, hz2, Num.newton hg0 h0⟩, ?_⟩
    show ((g + n / g) / 2).toNat < g.toNat
    omega
  · have hl : ¬ (g + n / g) / 2 < g := of_decide_eq_false (Bool.eq_false_iff.mpr ct)
    exact ⟨_, rfl, q g ⟨by omega, Num.newton_end hg0 h0 (by omega), hg1⟩⟩
theorem sc_floor_of_roots : FnScope ["root", "b", "floor"] ["root", "b"] (defScope s_floor_of_roots) := ⟨rfl, rfl, rfl, by decide +kernel, rfl, by decide +kernel, by decide +kernel⟩
set_option maxHeartbeats 4000000 in
theorem ok_floor_of_roots {f : Addr} {fd : FuncData} {n : Nat}  (F : Fun K "floor_of_roots" "floor_of_roots" s_floor_of_roots f fd) (C_floor_of_square_root : Cal P w K mg base n "floor_of_square_root" ["square"] spSqrt) :
    FnOk P w K mg base CX0 (n + 1) f fd ["root", "b"] spRoots := by
  obtain ⟨f_floor_of_square_root, fd_floor_of_square_root, G_floor_of_square_root, b_floor_of_square_root, k_floor_of_square_root, m_floor_of_square_root⟩ := C_floor_of_square_root.ex
  refine F.ok sc_floor_of_roots (fun vs H Q E h => ?_) (fun cdv A outer s H vs Q E hr h => ?_)
  · obtain ⟨r, b, rfl, _⟩ := h
    rfl
  obtain ⟨r, b, rfl, h0, zr, zb, q⟩ := h
  refine ⟨_, (pss_cons (ps_set (i := 2) sc_floor_of_roots.nd rfl (by first | exact Or.inl rfl | exact Or.inr rfl) (pe_call G_floor_of_square_root hr (by rfl) m_floor_of_square_root k_floor_of_square_root b_floor_of_square_root .nil pass0 (pa_cons (pe_op op_mulB (pe_op op_mulB (pv 0) (pv 1)) (pv 1)) pa_nil)))
      (pss_one (ps_ret (pe_ifExp (pt_cmpR op_ge (pv 1) pe_int (nomark _)) (pv 2) (pe_op op_sub (pe_un un_neg (pv 2)) pe_int))))), ?_⟩
  have hn : 0 ≤ r * b * b := by
    rw [Int.mul_assoc]
    refine Int.mul_nonneg h0 ?_
    rcases Int.le_total 0 b with h | h
    · exact Int.mul_nonneg h h
    · exact Int.mul_nonneg_of_nonpos_of_nonpos h h
  refine ⟨_, rfl, _, rfl, _, _, rfl, rfl, ⟨zr.mono, zb.mono⟩, _, rfl, _, _, rfl, rfl, ⟨(zr.mul zb).mono, zb.mono⟩, _, rfl, hn, ((zr.mul zb).mul zb).mono, fun s hs => ?_⟩
  refine ⟨_, rfl, _, _, rfl, rfl, _, rfl, ?_⟩
  refine ite2 (fun c => ?_) (fun c => ?_)
  · have hb : 0 ≤ b := of_decide_eq_true c
    exact ⟨_, rfl, q s ⟨s, hs, by rw [if_pos hb]⟩⟩
  · have hb : ¬ 0 ≤ b := of_decide_eq_false (Bool.eq_false_iff.mpr c)
    exact ⟨_, rfl, _, rfl, _, _, rfl, rfl, q _ ⟨s, hs, by rw [if_neg hb]⟩⟩
theorem sc_floor_of : FnScope ["root", "one", "a", "b", "c"] ["root", "one"] (defScope s_floor_of) := ⟨rfl, rfl, rfl, by decide +kernel, rfl, by decide +kernel, by decide +kernel⟩
set_option maxHeartbeats 4000000 in
theorem ok_floor_of {f : Addr} {fd : FuncData} {n : Nat}  (F : Fun K "floor_of" "floor_of" s_floor_of f fd) (C_floor_of_roots : Cal P w K mg base n "floor_of_roots" ["root", "b"] spRoots) :
    FnOk P w K mg base CX0 (n + 1) f fd ["root", "one"] (spFloor K) := by
  obtain ⟨f_floor_of_roots, fd_floor_of_roots, G_floor_of_roots, b_floor_of_roots, k_floor_of_roots, m_floor_of_roots⟩ := C_floor_of_roots.ex
  refine F.ok sc_floor_of (fun vs H Q E h => ?_) (fun cdv A outer s H vs Q E hr h => ?_)
  · obtain ⟨r, p, a, b, c, rfl, _⟩ := h
    rfl
  obtain ⟨r, p, a, b, c, rfl, h1, h0, zr, zb, hc, zc, q⟩ := h
  refine ⟨_, (pss_cons (ps_asg (pv 1) (pg_tup (n := 3) (by rfl) (pgs_cons (pg_name (i := 2) sc_floor_of.nd rfl (by first | exact Or.inl rfl | exact Or.inr rfl)) (pgs_cons (pg_name (i := 3) sc_floor_of.nd rfl (by first | exact Or.inl rfl | exact Or.inr rfl)) (pgs_cons (pg_name (i := 4) sc_floor_of.nd rfl (by first | exact Or.inl rfl | exact Or.inr rfl)) pgs_nil)))))
      (pss_one (ps_ret (pe_op op_fdivP (pe_op op_add (pv 2) (pe_call G_floor_of_roots hr (by rfl) m_floor_of_roots k_floor_of_roots b_floor_of_roots .nil pass0 (pa_cons (pv 0) (pa_cons (pv 3) pa_nil)))) (pv 4))))), ?_⟩
  refine ⟨_, rfl, p, _, rfl, h1, rfl, ?_⟩
  refine ⟨_, _, rfl, _, _, rfl, _, _, rfl, rfl, ?_⟩
  refine ⟨_, rfl, _, rfl, _, rfl, _, _, rfl, h0, zr, zb, fun F hF => ?_⟩
  exact ⟨_, _, rfl, rfl, _, rfl, _, _, rfl, rfl, ⟨hc, zc.mono⟩, q F hF⟩
theorem sc_put_together : FnScope ["floors", "last", "top", "bottom", "first"] ["floors", "last"] (defScope s_put_together) := ⟨rfl, rfl, rfl, by decide +kernel, rfl, by decide +kernel, by decide +kernel⟩
set_option maxHeartbeats 4000000 in
theorem ok_put_together {f : Addr} {fd : FuncData} {n : Nat}  (F : Fun K "put_together" "put_together" s_put_together f fd) (m_reversed : mg "reversed" = none) :
    FnOk P w K mg base CX0 (n + 1) f fd ["floors", "last"] (spPut K) := by
  refine F.ok sc_put_together (fun vs H Q E h => ?_) (fun cdv A outer s H vs Q E hr h => ?_)
  · obtain ⟨l, fs, t, rfl, _⟩ := h
    rfl
  obtain ⟨l, fs, t, rfl, hl, zt, zf, q⟩ := h
  refine ⟨_, (pss_cons (ps_par (by rfl) sc_put_together.nd (i := 2) (j := 3) rfl rfl (by decide) rfl rfl (pa_cons (pv 1) (pa_cons pe_int pa_nil)) (by rfl))
      (pss_cons (ps_for PassesOwn.never (by rfl) (pi_reversed (by rfl) m_reversed (pa_cons (pv 0) pa_nil)) (pg_name (i := 4) sc_put_together.nd rfl (by first | exact Or.inl rfl | exact Or.inr rfl)) (pss_one (ps_par (by rfl) sc_put_together.nd (i := 2) (j := 3) rfl rfl (by decide) rfl rfl (pa_cons (pe_op op_add (pe_op op_mulB (pv 4) (pv 2)) (pv 3)) (pa_cons (pv 2) pa_nil)) (by rfl))))
      (pss_one (ps_ret (pe_tup (pa_cons (pv 2) (pa_cons pe_int (pa_cons (pv 3) pa_nil)))))))), ?_⟩
  refine ⟨_, rfl, _, _, rfl, ?_⟩
  refine ⟨_, rfl, l, fs.map V.int, rfl, SqL.of hl, for_rev (xs := fs.map V.int) (fun i σ H' => H = H' ∧ ∃ w, σ = [some (.ref l), some (.int t), some (.int (pt (fs.drop (fs.length - i)) (t, 1)).1), some (.int (pt (fs.drop (fs.length - i)) (t, 1)).2), w]) ⟨rfl, _, by rw [Nat.sub_zero, List.drop_length]; rfl⟩ (fun i σ H' _ ⟨e, _⟩ => e ▸ SqL.of hl) ?_ ?_⟩
  case refine_2 =>
    rintro σ H' ⟨rfl, w, rfl⟩
    rw [List.length_map, Nat.sub_self, List.drop_zero]
    exact ⟨_, rfl, _, rfl, smallB rfl, q⟩
  rintro i v σ H' hi hv ⟨rfl, w, rfl⟩
  rw [List.length_map] at hi hv
  have hg : fs[fs.length - 1 - i]? = some fs[fs.length - 1 - i] := List.getElem?_eq_getElem (by omega)
  rw [List.getElem?_map, hg] at hv
  cases hv
  have hdr : fs.drop (fs.length - (i + 1)) = fs[fs.length - 1 - i] :: fs.drop (fs.length - i) := by
    rw [show fs.length - (i + 1) = fs.length - 1 - i by omega, show fs.length - i = fs.length - 1 - i + 1 by omega]
    exact List.drop_eq_getElem_cons (by omega)
  have zi := zf _ (List.getElem_mem (show fs.length - 1 - i < fs.length by omega))
  generalize fs[fs.length - 1 - i] = f at *
  refine ⟨_, rfl, _, rfl, _, _, rfl, rfl, ⟨zi.mono, (zt _).mono⟩, _, rfl, _, _, rfl, rfl, _, rfl, _, _, rfl, ?_⟩
  refine ⟨rfl, some (.int f), ?_⟩
  rw [hdr]
  rfl
theorem sc_divisor_of_both : FnScope ["one", "other"] ["one", "other"] (defScope s_divisor_of_both) := ⟨rfl, rfl, rfl, by decide +kernel, rfl, by decide +kernel, by decide +kernel⟩
set_option maxHeartbeats 4000000 in
theorem ok_divisor_of_both {f : Addr} {fd : FuncData} {n : Nat}  (F : Fun K "divisor_of_both" "divisor_of_both" s_divisor_of_both f fd) (m_abs : mg "abs" = none) :
    FnOk P w K mg base CX0 (n + 1) f fd ["one", "other"] spGcd := by
  refine F.ok sc_divisor_of_both (fun vs H Q E h => ?_) (fun cdv A outer s H vs Q E hr h => ?_)
  · obtain ⟨a, b, rfl, _⟩ := h
    rfl
  obtain ⟨a, b, rfl, q⟩ := h
  refine ⟨_, (pss_cons (ps_par (by rfl) sc_divisor_of_both.nd (i := 0) (j := 1) rfl rfl (by decide) rfl rfl (pa_cons (pe_callB call_abs (by rfl) m_abs (by decide +kernel) (pa_cons (pv 0) pa_nil)) (pa_cons (pe_callB call_abs (by rfl) m_abs (by decide +kernel) (pa_cons (pv 1) pa_nil)) pa_nil)) (by rfl))
      (pss_cons (ps_while PassesOwn.never (pt_cmpR op_ne (pv 1) pe_int (nomark _)) (pss_one (ps_par (by rfl) sc_divisor_of_both.nd (i := 0) (j := 1) rfl rfl (by decide) rfl rfl (pa_cons (pv 1) (pa_cons (pe_op op_mod (pv 0) (pv 1)) pa_nil)) (by rfl))))
      (pss_one (ps_ret (pv 0))))), ?_⟩
  refine ⟨_, rfl, _, rfl, _, rfl, _, rfl, _, _, rfl, ?_⟩
  refine while_by (fun σ H' => ∃ x y : Int, σ = [some (.int x), some (.int y)] ∧ H = H' ∧ 0 ≤ x ∧ 0 ≤ y ∧ Nat.gcd x.natAbs y.natAbs = Nat.gcd a.natAbs b.natAbs)
    (fun σ _ => match σ with | [_, some (.int y)] => y.toNat | _ => 0) ?_ ?_ (fun σ H Q Q' hQ h => by
      obtain ⟨v, hv, hs, k, e3, hq⟩ := h
      exact ⟨v, hv, hs, k, e3, hQ _ _ hq⟩)
  · exact ⟨_, _, rfl, rfl, if_nn a, if_nn b, by rw [nat_if, nat_if]⟩
  rintro σ H' ⟨x, y, rfl, rfl, hx, hy, hg⟩
  refine ⟨_, rfl, rfl, _, rfl, ?_⟩
  refine ite2 (fun ct => ?_) (fun ct => ?_)
  · have hy' : 0 < y := by
      have h1 : ¬ V.int y = V.int 0 := by simpa using ct
      have h2 : y ≠ 0 := fun e => h1 (by rw [e])
      omega
    refine ⟨_, rfl, _, rfl, _, rfl, _, _, rfl, rfl, hy', _, _, rfl, ⟨_, _, rfl, rfl, hy, Int.emod_nonneg _ (by omega), ?_⟩, ?_⟩
    · rw [← hg, Num.gcd_turn hx hy']
    · show (x % y).toNat < y.toNat
      have := Int.emod_lt_of_pos x hy'
      omega
  have hy0 : y = 0 := by
    have h1 : V.int y = V.int 0 := by simpa using ct
    injection h1
  subst hy0
  rw [Int.natAbs_zero, Nat.gcd_zero_right] at hg
  refine ⟨_, rfl, ?_⟩
  have e : x = ((Nat.gcd a.natAbs b.natAbs : Nat) : Int) := by omega
  show Q (.int x) H
  rw [e]
  exact q
theorem sc_divisor_of_all : FnScope ["a", "b", "c"] ["a", "b", "c"] (defScope s_divisor_of_all) := ⟨rfl, rfl, rfl, by decide +kernel, rfl, by decide +kernel, by decide +kernel⟩
set_option maxHeartbeats 4000000 in
theorem ok_divisor_of_all {f : Addr} {fd : FuncData} {n : Nat}  (F : Fun K "divisor_of_all" "divisor_of_all" s_divisor_of_all f fd) (C_divisor_of_both : Cal P w K mg base n "divisor_of_both" ["one", "other"] spGcd) :
    FnOk P w K mg base CX0 (n + 1) f fd ["a", "b", "c"] spDiv := by
  obtain ⟨f_divisor_of_both, fd_divisor_of_both, G_divisor_of_both, b_divisor_of_both, k_divisor_of_both, m_divisor_of_both⟩ := C_divisor_of_both.ex
  refine F.ok sc_divisor_of_all (fun vs H Q E h => ?_) (fun cdv A outer s H vs Q E hr h => ?_)
  · obtain ⟨a, b, c, rfl, _⟩ := h
    rfl
  obtain ⟨a, b, c, rfl, q⟩ := h
  refine ⟨_, (pss_one (ps_ret (pe_call G_divisor_of_both hr (by rfl) m_divisor_of_both k_divisor_of_both b_divisor_of_both .nil pass0 (pa_cons (pe_call G_divisor_of_both hr (by rfl) m_divisor_of_both k_divisor_of_both b_divisor_of_both .nil pass0 (pa_cons (pv 2) (pa_cons (pv 0) pa_nil))) (pa_cons (pv 1) pa_nil))))), ?_⟩
  refine ⟨_, rfl, _, rfl, _, _, rfl, _, rfl, _, _, rfl, ?_⟩
  have e : Nat.gcd (((Nat.gcd c.natAbs a.natAbs : Nat) : Int).natAbs) b.natAbs = Num.g3 a b c := by
    rw [Int.natAbs_natCast]
    unfold Num.g3
    rw [Nat.gcd_assoc, Nat.gcd_comm]
  show Q (.int ((Nat.gcd (((Nat.gcd c.natAbs a.natAbs : Nat) : Int).natAbs) b.natAbs : Nat) : Int)) H
  rw [e]
  exact q
theorem sc_in_lowest_terms : FnScope ["a", "b", "c", "divisor"] ["a", "b", "c"] (defScope s_in_lowest_terms) := ⟨rfl, rfl, rfl, by decide +kernel, rfl, by decide +kernel, by decide +kernel⟩
set_option maxHeartbeats 4000000 in
theorem ok_in_lowest_terms {f : Addr} {fd : FuncData} {n : Nat}  (F : Fun K "in_lowest_terms" "in_lowest_terms" s_in_lowest_terms f fd) (C_divisor_of_all : Cal P w K mg base n "divisor_of_all" ["a", "b", "c"] spDiv) :
    FnOk P w K mg base CX0 (n + 1) f fd ["a", "b", "c"] spLowP := by
  obtain ⟨f_divisor_of_all, fd_divisor_of_all, G_divisor_of_all, b_divisor_of_all, k_divisor_of_all, m_divisor_of_all⟩ := C_divisor_of_all.ex
  refine F.ok sc_in_lowest_terms (fun vs H Q E h => ?_) (fun cdv A outer s H vs Q E hr h => ?_)
  · obtain ⟨a, b, c, rfl, _⟩ := h
    rfl
  obtain ⟨a, b, c, rfl, hc, hz, q⟩ := h
  refine ⟨_, (pss_cons (ps_set (i := 3) sc_in_lowest_terms.nd rfl (by first | exact Or.inl rfl | exact Or.inr rfl) (pe_call G_divisor_of_all hr (by rfl) m_divisor_of_all k_divisor_of_all b_divisor_of_all .nil pass0 (pa_cons (pv 0) (pa_cons (pv 1) (pa_cons (pv 2) pa_nil)))))
      (pss_cons (ps_if (pt_cmpR op_lt (pv 2) pe_int (nomark _)) (pss_one (ps_set (i := 3) sc_in_lowest_terms.nd rfl (by first | exact Or.inl rfl | exact Or.inr rfl) (pe_un un_neg (pv 3)))) pss_nil)
      (pss_one (ps_ret (pe_tup (pa_cons (pe_op op_fdivB (pv 0) (pv 3)) (pa_cons (pe_op op_fdivB (pv 1) (pv 3)) (pa_cons (pe_op op_fdivB (pv 2) (pv 3)) pa_nil)))))))), ?_⟩
  refine ⟨_, rfl, _, rfl, _, rfl, _, _, _, rfl, ?_⟩
  have fin : ∀ o : Int, o = Num.dv a b c → (tRet (tTup (tCons (tOp (rI CDivB fun i j => .int (i.fdiv j)) (tVar 0) (tVar 3)) (tCons (tOp (rI CDivB fun i j => .int (i.fdiv j)) (tVar 1) (tVar 3)) (tCons (tOp (rI CDivB fun i j => .int (i.fdiv j)) (tVar 2) (tVar 3)) tNil))))) { nx := fun _ H' => Q .non H', rt := Q } [some (.int a), some (.int b), some (.int c), some (.int o)] H := by
    rintro o rfl
    have hd : CDivB 0 (Num.dv a b c) := ⟨Num.dv_ne hc, hz.of_le (by rw [Num.dv_abs]; exact Num.g3_le hc)⟩
    exact ⟨_, rfl, _, rfl, _, _, rfl, rfl, hd, _, rfl, _, rfl, _, _, rfl, rfl, hd, _, rfl, _, rfl, _, _, rfl, rfl, hd, smallB rfl, q⟩
  refine ⟨_, rfl, _, _, rfl, rfl, _, rfl, ?_⟩
  refine ite2 (fun cc => ?_) (fun cc => ?_)
  · have h0 : c < 0 := of_decide_eq_true cc
    refine ⟨_, rfl, _, rfl, ?_⟩
    exact fin _ (by unfold Num.dv; rw [if_pos h0])
  · have h0 : ¬ c < 0 := of_decide_eq_false (Bool.eq_false_iff.mpr cc)
    exact fin _ (by unfold Num.dv; rw [if_neg h0])
theorem sc_minus : FnScope ["root", "one", "other", "a", "b", "c", "d", "e", "f"] ["root", "one", "other"] (defScope s_minus) := ⟨rfl, rfl, rfl, by decide +kernel, rfl, by decide +kernel, by decide +kernel⟩
set_option maxHeartbeats 4000000 in
theorem ok_minus {f : Addr} {fd : FuncData} {n : Nat}  (F : Fun K "minus" "minus" s_minus f fd) (C_in_lowest_terms : Cal P w K mg base n "in_lowest_terms" ["a", "b", "c"] spLowP) :
    FnOk P w K mg base CX0 (n + 1) f fd ["root", "one", "other"] (spMinusP K) := by
  obtain ⟨f_in_lowest_terms, fd_in_lowest_terms, G_in_lowest_terms, b_in_lowest_terms, k_in_lowest_terms, m_in_lowest_terms⟩ := C_in_lowest_terms.ex
  refine F.ok sc_minus (fun vs H Q E h => ?_) (fun cdv A outer s H vs Q E hr h => ?_)
  · obtain ⟨v, p, r, x, y, rfl, _⟩ := h
    rfl
  obtain ⟨v, p, r, x, y, rfl, h1, h2, hcf, za, zb, zc, zd, ze, zf, q⟩ := h
  refine ⟨_, (pss_cons (ps_asg (pv 1) (pg_tup (n := 3) (by rfl) (pgs_cons (pg_name (i := 3) sc_minus.nd rfl (by first | exact Or.inl rfl | exact Or.inr rfl)) (pgs_cons (pg_name (i := 4) sc_minus.nd rfl (by first | exact Or.inl rfl | exact Or.inr rfl)) (pgs_cons (pg_name (i := 5) sc_minus.nd rfl (by first | exact Or.inl rfl | exact Or.inr rfl)) pgs_nil)))))
      (pss_cons (ps_asg (pv 2) (pg_tup (n := 3) (by rfl) (pgs_cons (pg_name (i := 6) sc_minus.nd rfl (by first | exact Or.inl rfl | exact Or.inr rfl)) (pgs_cons (pg_name (i := 7) sc_minus.nd rfl (by first | exact Or.inl rfl | exact Or.inr rfl)) (pgs_cons (pg_name (i := 8) sc_minus.nd rfl (by first | exact Or.inl rfl | exact Or.inr rfl)) pgs_nil)))))
      (pss_one (ps_ret (pe_call G_in_lowest_terms hr (by rfl) m_in_lowest_terms k_in_lowest_terms b_in_lowest_terms .nil pass0 (pa_cons (pe_op op_sub (pe_op op_mulB (pv 3) (pv 8)) (pe_op op_mulB (pv 6) (pv 5))) (pa_cons (pe_op op_sub (pe_op op_mulB (pv 4) (pv 8)) (pe_op op_mulB (pv 7) (pv 5))) (pa_cons (pe_op op_mulB (pv 5) (pv 8)) pa_nil)))))))), ?_⟩
  refine ⟨_, rfl, p, _, rfl, h1, rfl, ?_⟩
  refine ⟨_, _, rfl, _, _, rfl, _, _, rfl, rfl, ?_⟩
  refine ⟨_, rfl, r, _, rfl, h2, rfl, ?_⟩
  refine ⟨_, _, rfl, _, _, rfl, _, _, rfl, rfl, ?_⟩
  refine ⟨_, rfl, _, rfl, _, _, rfl, rfl, ⟨za.mono, zf.mono⟩, _, rfl, _, rfl, _, _, rfl, rfl, ⟨zd.mono, zc.mono⟩, _, _, rfl, rfl, ?_⟩
  refine ⟨_, rfl, _, rfl, _, _, rfl, rfl, ⟨zb.mono, zf.mono⟩, _, rfl, _, rfl, _, _, rfl, rfl, ⟨ze.mono, zc.mono⟩, _, _, rfl, rfl, ?_⟩
  refine ⟨_, rfl, _, rfl, _, _, rfl, rfl, ⟨zc.mono, zf.mono⟩, _, _, _, rfl, hcf, (zc.mul zf).mono, q⟩
theorem sc_over : FnScope ["root", "one", "other", "a", "b", "c", "d", "e", "f", "bottom"] ["root", "one", "other"] (defScope s_over) := ⟨rfl, rfl, rfl, by decide +kernel, rfl, by decide +kernel, by decide +kernel⟩
set_option maxHeartbeats 4000000 in
theorem ok_over {f : Addr} {fd : FuncData} {n : Nat}  (F : Fun K "over" "over" s_over f fd) (C_in_lowest_terms : Cal P w K mg base n "in_lowest_terms" ["a", "b", "c"] spLowP) :
    FnOk P w K mg base CX0 (n + 1) f fd ["root", "one", "other"] (spOver K) := by
  obtain ⟨f_in_lowest_terms, fd_in_lowest_terms, G_in_lowest_terms, b_in_lowest_terms, k_in_lowest_terms, m_in_lowest_terms⟩ := C_in_lowest_terms.ex
  refine F.ok sc_over (fun vs H Q E h => ?_) (fun cdv A outer s H vs Q E hr h => ?_)
  · obtain ⟨r, p, t, x, y, rfl, _⟩ := h
    rfl
  obtain ⟨r, p, t, x, y, rfl, h1, h2, hc, hb, zr, za, zb, zc, zd, ze, zf, q⟩ := h
  refine ⟨_, (pss_cons (ps_asg (pv 1) (pg_tup (n := 3) (by rfl) (pgs_cons (pg_name (i := 3) sc_over.nd rfl (by first | exact Or.inl rfl | exact Or.inr rfl)) (pgs_cons (pg_name (i := 4) sc_over.nd rfl (by first | exact Or.inl rfl | exact Or.inr rfl)) (pgs_cons (pg_name (i := 5) sc_over.nd rfl (by first | exact Or.inl rfl | exact Or.inr rfl)) pgs_nil)))))
      (pss_cons (ps_asg (pv 2) (pg_tup (n := 3) (by rfl) (pgs_cons (pg_name (i := 6) sc_over.nd rfl (by first | exact Or.inl rfl | exact Or.inr rfl)) (pgs_cons (pg_name (i := 7) sc_over.nd rfl (by first | exact Or.inl rfl | exact Or.inr rfl)) (pgs_cons (pg_name (i := 8) sc_over.nd rfl (by first | exact Or.inl rfl | exact Or.inr rfl)) pgs_nil)))))
      (pss_cons (ps_set (i := 9) sc_over.nd rfl (by first | exact Or.inl rfl | exact Or.inr rfl) (pe_op op_sub (pe_op op_mulB (pv 6) (pv 6)) (pe_op op_mulB (pe_op op_mulB (pv 0) (pv 7)) (pv 7))))
      (pss_cons (ps_if (pt_cmpR op_eq (pv 9) pe_int (nomark _)) (pss_one ps_never) pss_nil)
      (pss_one (ps_ret (pe_call G_in_lowest_terms hr (by rfl) m_in_lowest_terms k_in_lowest_terms b_in_lowest_terms .nil pass0 (pa_cons (pe_op op_mulB (pv 8) (pe_op op_sub (pe_op op_mulB (pv 3) (pv 6)) (pe_op op_mulB (pe_op op_mulB (pv 0) (pv 4)) (pv 7)))) (pa_cons (pe_op op_mulB (pv 8) (pe_op op_sub (pe_op op_mulB (pv 4) (pv 6)) (pe_op op_mulB (pv 3) (pv 7)))) (pa_cons (pe_op op_mulB (pv 5) (pv 9)) pa_nil)))))))))), ?_⟩
  refine ⟨_, rfl, p, _, rfl, h1, rfl, ?_⟩
  refine ⟨_, _, rfl, _, _, rfl, _, _, rfl, rfl, ?_⟩
  refine ⟨_, rfl, t, _, rfl, h2, rfl, ?_⟩
  refine ⟨_, _, rfl, _, _, rfl, _, _, rfl, rfl, ?_⟩
  
  refine ⟨_, rfl, _, rfl, _, _, rfl, rfl, ⟨zd.mono, zd.mono⟩, _, rfl, _, rfl, _, _, rfl, rfl, ⟨zr.mono, ze.mono⟩, _, rfl, _, _, rfl, rfl, ⟨(zr.mul ze).mono, ze.mono⟩, _, _, rfl, rfl, ?_⟩
  have zbt := (zd.mul zd).sub ((zr.mul ze).mul ze)
  refine ⟨_, rfl, rfl, _, rfl, ?_⟩
  have hd : decide (V.int (y.1 * y.1 - r * y.2.1 * y.2.1) = V.int 0) = false := decide_eq_false fun e => hb (by injection e)
  rw [hd]
  refine iteF ?_
  refine ⟨_, rfl, _, rfl, _, rfl, _, _, rfl, rfl, ⟨za.mono, zd.mono⟩, _, rfl, _, rfl, _, _, rfl, rfl, ⟨zr.mono, zb.mono⟩, _, rfl, _, _, rfl, rfl, ⟨(zr.mul zb).mono, ze.mono⟩, _, _, rfl, rfl, _, _, rfl, rfl, ⟨zf.mono, ((za.mul zd).sub ((zr.mul zb).mul ze)).mono⟩, ?_⟩
  refine ⟨_, rfl, _, rfl, _, rfl, _, _, rfl, rfl, ⟨zb.mono, zd.mono⟩, _, rfl, _, rfl, _, _, rfl, rfl, ⟨za.mono, ze.mono⟩, _, _, rfl, rfl, _, _, rfl, rfl, ⟨zf.mono, ((zb.mul zd).sub (za.mul ze)).mono⟩, ?_⟩
  exact ⟨_, rfl, _, rfl, _, _, rfl, rfl, ⟨zc.mono, zbt.mono⟩, _, _, _, rfl, Int.mul_ne_zero hc hb, (zc.mul zbt).mono, q⟩
theorem sc_turned_rests : FnScope ["root", "low", "high", "first", "low_rest", "high_rest", "upper"] ["root", "low", "high", "first"] (defScope s_turned_rests) := ⟨rfl, rfl, rfl, by decide +kernel, rfl, by decide +kernel, by decide +kernel⟩
set_option maxHeartbeats 4000000 in
theorem ok_turned_rests {f : Addr} {fd : FuncData} {n : Nat}  (F : Fun K "turned_rests" "turned_rests" s_turned_rests f fd) (C_minus : Cal P w K mg base n "minus" ["root", "one", "other"] (spMinusP K)) (C_over : Cal P w K mg base n "over" ["root", "one", "other"] (spOver K)) {zA oA : Addr} (m_ZERO : mg "ZERO" = some (.ref zA)) (hZ : ZeroK K zA) (m_ONE : mg "ONE" = some (.ref oA)) (hO : OneK K oA) :
    FnOk P w K mg base CX0 (n + 1) f fd ["root", "low", "high", "first"] (spTurned K) := by
  obtain ⟨f_minus, fd_minus, G_minus, b_minus, k_minus, m_minus⟩ := C_minus.ex
  obtain ⟨f_over, fd_over, G_over, b_over, k_over, m_over⟩ := C_over.ex
  refine F.ok sc_turned_rests (fun vs H Q E h => ?_) (fun cdv A outer s H vs Q E hr h => ?_)
  · obtain ⟨r, pl, ph, x, h, f, rfl, _⟩ := h
    rfl
  obtain ⟨r, pl, ph, x, h, f, rfl, hx, hh, hR, okx, okh, zf, hne, q⟩ := h
  refine ⟨_, (pss_cons (ps_set (i := 4) sc_turned_rests.nd rfl (by first | exact Or.inl rfl | exact Or.inr rfl) (pe_call G_minus hr (by rfl) m_minus k_minus b_minus .nil pass0 (pa_cons (pv 0) (pa_cons (pv 1) (pa_cons (pe_tup (pa_cons (pv 3) (pa_cons pe_int (pa_cons pe_int pa_nil)))) pa_nil)))))
      (pss_cons (ps_set (i := 5) sc_turned_rests.nd rfl (by first | exact Or.inl rfl | exact Or.inr rfl) (pe_call G_minus hr (by rfl) m_minus k_minus b_minus .nil pass0 (pa_cons (pv 0) (pa_cons (pv 2) (pa_cons (pe_tup (pa_cons (pv 3) (pa_cons pe_int (pa_cons pe_int pa_nil)))) pa_nil)))))
      (pss_cons (ps_set (i := 6) sc_turned_rests.nd rfl (by first | exact Or.inl rfl | exact Or.inr rfl) (pe_ifExp (pt_cmpR (op_eqD hr.units) (pv 4) (pe_glob (v := .ref zA) (by rfl) m_ZERO rfl) (nomark _)) pe_non (pe_call G_over hr (by rfl) m_over k_over b_over .nil pass0 (pa_cons (pv 0) (pa_cons (pe_glob (v := .ref oA) (by rfl) m_ONE rfl) (pa_cons (pv 4) pa_nil))))))
      (pss_one (ps_ret (pe_tup (pa_cons (pe_call G_over hr (by rfl) m_over k_over b_over .nil pass0 (pa_cons (pv 0) (pa_cons (pe_glob (v := .ref oA) (by rfl) m_ONE rfl) (pa_cons (pv 5) pa_nil)))) (pa_cons (pv 6) pa_nil)))))))), ?_⟩
  have Ir := Num.Root.irr hR
  have zr : Sz 10 r := Root.sz hR
  have okf : Ok r 260 (intN f) := int_ok (by decide) zf
  have c1 : ∀ {k : Nat} {y : N3}, Ok r k y → y.2.2 * (intN f).2.2 ≠ 0 := fun oy => Int.ne_of_gt (Int.mul_pos oy.pos okf.pos)
  refine ⟨_, rfl, _, rfl, _, rfl, smallB rfl, fun t1 ht1 => ?_⟩
  have g1 := Same.new ht1 (.tup [V.int f, V.int 0, V.int 1])
  refine ⟨_, pl, t1, x, intN f, rfl, g1.tup hx, SqT.of upd_same, c1 okx, okx.za.mono, okx.zb.mono, okx.zc.mono, okf.za.mono, okf.zb.mono, okf.zc.mono, fun t2 ht2 => ?_⟩
  have g2 := Same.new ht2 (.tup (vN (subN x (intN f))))
  have e2 : (upd (upd H t1 (.tup [V.int f, V.int 0, V.int 1])) t2 (.tup (vN (subN x (intN f))))) t2 = some (.tup (vN (subN x (intN f)))) := upd_same
  have g12 := g1.trans g2
  generalize upd (upd H t1 (.tup [V.int f, V.int 0, V.int 1])) t2 (.tup (vN (subN x (intN f)))) = H2 at *
  refine ⟨_, rfl, _, rfl, _, rfl, smallB rfl, fun t3 ht3 => ?_⟩
  have g3 := Same.new ht3 (.tup [V.int f, V.int 0, V.int 1])
  refine ⟨_, ph, t3, h, intN f, rfl, (g12.trans g3).tup hh, SqT.of upd_same, c1 okh, okh.za.mono, okh.zb.mono, okh.zc.mono, okf.za.mono, okf.zb.mono, okf.zc.mono, fun t4 ht4 => ?_⟩
  have g4 := Same.new ht4 (.tup (vN (subN h (intN f))))
  have e4 : (upd (upd H2 t3 (.tup [V.int f, V.int 0, V.int 1])) t4 (.tup (vN (subN h (intN f))))) t4 = some (.tup (vN (subN h (intN f)))) := upd_same
  have e24 := (g3.trans g4) _ _ e2
  have g14 := g12.trans (g3.trans g4)
  generalize upd (upd H2 t3 (.tup [V.int f, V.int 0, V.int 1])) t4 (.tup (vN (subN h (intN f)))) = H4 at *
  have o1 : Ok r 382 (subN x (intN f)) := subN_ok okx okf
  have o2 : Ok r 382 (subN h (intN f)) := subN_ok okh okf
  have w1' : wN (subN x (intN f)) = Wo.sb (wN x) (wI f) := by rw [wN_sub okx.pos okf.pos, wN_int]
  have w2' : wN (subN h (intN f)) = Wo.sb (wN h) (wI f) := by rw [wN_sub okh.pos okf.pos, wN_int]
  have b2 := bot_ne Ir o2 (by rw [w2']; exact hne)
  have ov2 := ovN_ok zr (one_ok r 1 (by decide)) o2 b2
  have m2 : Wo.ml r (wN (ovN r oneN (subN h (intN f)))) (Wo.sb (wN h) (wI f)) = w1 := by rw [← w2', wN_ov (by decide) o2.pos b2, wN_one]
  have fin : ∀ (up : V) (hi : Option N3) (H5 : Hp), Same H4 H5 → UpAt K H5 up hi → (hi = none → Wo.sb (wN x) (wI f) = Wo.z) → (∀ h', hi = some h' → Ok r 800 h' ∧ Wo.sb (wN x) (wI f) ≠ Wo.z ∧ Wo.ml r (wN h') (Wo.sb (wN x) (wI f)) = w1) →
      ∀ l, H5 l = none → ∀ t, (upd H5 l (.tup (vN (ovN r oneN (subN h (intN f)))))) t = none → Q (.ref t) (upd (upd H5 l (.tup (vN (ovN r oneN (subN h (intN f)))))) t (.tup [.ref l, up])) := by
    intro up hi H5 g5 hup h0 h1 l hl t ht
    have g6 := Same.new hl (.tup (vN (ovN r oneN (subN h (intN f)))))
    have g7 := Same.new ht (.tup [.ref l, up])
    refine q t l up _ hi _ (g14.trans (g5.trans (g6.trans g7))) upd_same (SqT.of (g7 _ _ upd_same)) (hup.mono (g6.trans g7)) (ov2.mono (by decide)) m2 h0 h1
  refine ⟨_, rfl, dN (subN x (intN f)), dN zeroN, NumAt.dp ⟨_, rfl, SqT.of e24⟩, NumAt.dp ⟨_, rfl, hZ H4⟩, shaped_dN _, shaped_dN _, _, rfl, ?_⟩
  rw [dN_eqv]
  refine ite2 (fun ct => ?_) (fun ct => ?_)
  · have hz := of_decide_eq_true ct
    have hz2 : Wo.sb (wN x) (wI f) = Wo.z := by rw [← w1', hz, wN_zero]
    refine ⟨_, rfl, _, rfl, r, oA, t4, oneN, _, rfl, hO _, SqT.of e4, by decide, b2, zr.mono, (one_ok r 1 (by decide)).za.mono, Sz.zero, (one_ok r 1 (by decide)).zc.mono, o2.za.mono, o2.zb.mono, o2.zc.mono, fun l hl => ?_⟩
    exact ⟨_, rfl, smallB rfl, fin .non none H4 (Same.refl _) rfl (fun _ => hz2) (fun _ z => nomatch z) l hl⟩
  · have hz := of_decide_eq_false (Bool.eq_false_iff.mpr ct)
    have hz2 : Wo.sb (wN x) (wI f) ≠ Wo.z := by
      rw [← w1', ← wN_zero]
      exact fun e => hz (wN_inj o1 (zero_ok r 1 (by decide)) e)
    have b1 := bot_ne Ir o1 (by rw [w1']; exact hz2)
    have ov1 := ovN_ok zr (one_ok r 1 (by decide)) o1 b1
    have m1 : Wo.ml r (wN (ovN r oneN (subN x (intN f)))) (Wo.sb (wN x) (wI f)) = w1 := by rw [← w1', wN_ov (by decide) o1.pos b1, wN_one]
    refine ⟨_, rfl, _, rfl, r, oA, t2, oneN, _, rfl, hO _, SqT.of e24, by decide, b1, zr.mono, (one_ok r 1 (by decide)).za.mono, Sz.zero, (one_ok r 1 (by decide)).zc.mono, o1.za.mono, o1.zb.mono, o1.zc.mono, fun u hu => ?_⟩
    have g5 := Same.new hu (.tup (vN (ovN r oneN (subN x (intN f)))))
    refine ⟨_, rfl, _, rfl, r, oA, t4, oneN, _, rfl, hO _, SqT.of (g5 _ _ e4), by decide, b2, zr.mono, (one_ok r 1 (by decide)).za.mono, Sz.zero, (one_ok r 1 (by decide)).zc.mono, o2.za.mono, o2.zb.mono, o2.zc.mono, fun l hl => ?_⟩
    refine ⟨_, rfl, smallB rfl, fin (.ref u) (some (ovN r oneN (subN x (intN f)))) _ g5 ⟨u, rfl, SqT.of upd_same⟩ (fun z => nomatch z) ?_ l hl⟩
    rintro h' ⟨⟩
    exact ⟨ov1.mono (by decide), hz2, m1⟩
theorem sc_simplest : FnScope ["root", "one", "other", "floors", "low", "high", "first"] ["root", "one", "other"] (defScope s_simplest) := ⟨rfl, rfl, rfl, by decide +kernel, rfl, by decide +kernel, by decide +kernel⟩
set_option maxHeartbeats 4000000 in
theorem ok_simplest {f : Addr} {fd : FuncData} {n : Nat}  (F : Fun K "simplest" "simplest" s_simplest f fd) (C_floor_of : Cal P w K mg base n "floor_of" ["root", "one"] (spFloor K)) (C_put_together : Cal P w K mg base n "put_together" ["floors", "last"] (spPut K)) (C_less : Cal P w K mg base n "less" ["root", "one", "other"] (spLessP K)) (C_turned_rests : Cal P w K mg base n "turned_rests" ["root", "low", "high", "first"] (spTurned K)) :
    FnOk P w K mg base CX0 (n + 1) f fd ["root", "one", "other"] (spSimplest K) := by
  obtain ⟨f_floor_of, fd_floor_of, G_floor_of, b_floor_of, k_floor_of, m_floor_of⟩ := C_floor_of.ex
  obtain ⟨f_put_together, fd_put_together, G_put_together, b_put_together, k_put_together, m_put_together⟩ := C_put_together.ex
  obtain ⟨f_less, fd_less, G_less, b_less, k_less, m_less⟩ := C_less.ex
  obtain ⟨f_turned_rests, fd_turned_rests, G_turned_rests, b_turned_rests, k_turned_rests, m_turned_rests⟩ := C_turned_rests.ex
  refine F.ok sc_simplest (fun vs H Q E h => ?_) (fun cdv A outer s H vs Q E hr h => ?_)
  · obtain ⟨r, p, t, X, Y, rfl, _⟩ := h
    rfl
  obtain ⟨r, p, t, X, Y, rfl, hp, ht, hR, fX, fY, hlt, q⟩ := h
  refine ⟨_, (pss_cons (ps_if (pt_not (pt_val (pe_call G_less hr (by rfl) m_less k_less b_less .nil pass0 (pa_cons (pv 0) (pa_cons (pv 1) (pa_cons (pv 2) pa_nil)))))) (pss_one ps_never) pss_nil)
      (pss_cons (ps_set (i := 3) sc_simplest.nd rfl (by first | exact Or.inl rfl | exact Or.inr rfl) (pe_lst pa_nil))
      (pss_cons (ps_par (by rfl) sc_simplest.nd (i := 4) (j := 5) rfl rfl (by decide) rfl rfl (pa_cons (pv 1) (pa_cons (pv 2) pa_nil)) (by rfl))
      (pss_cons (ps_set (i := 6) sc_simplest.nd rfl (by first | exact Or.inl rfl | exact Or.inr rfl) (pe_call G_floor_of hr (by rfl) m_floor_of k_floor_of b_floor_of .nil pass0 (pa_cons (pv 0) (pa_cons (pv 4) pa_nil))))
      (pss_cons (ps_while PassesOwn.never (PW.pt (pw_and (pt_cmpR op_notN (pv 5) pe_non (nomark _)) (pw_and1 (pt_not (pt_val (pe_call G_less hr (by rfl) m_less k_less b_less .nil pass0 (pa_cons (pv 0) (pa_cons (pe_tup (pa_cons (pe_op op_add (pv 6) pe_int) (pa_cons pe_int (pa_cons pe_int pa_nil)))) (pa_cons (pv 5) pa_nil))))))))) (pss_cons (ps_expr (pe_bm PySem.F.plainAttrs_list PySem.F.slot_list_append PySem.F.type_list_append mt_append (pv 3) (pa_cons (pv 6) pa_nil)))
      (pss_cons (ps_asg (pe_call G_turned_rests hr (by rfl) m_turned_rests k_turned_rests b_turned_rests .nil pass0 (pa_cons (pv 0) (pa_cons (pv 4) (pa_cons (pv 5) (pa_cons (pv 6) pa_nil))))) (pg_tup (n := 2) (by rfl) (pgs_cons (pg_name (i := 4) sc_simplest.nd rfl (by first | exact Or.inl rfl | exact Or.inr rfl)) (pgs_cons (pg_name (i := 5) sc_simplest.nd rfl (by first | exact Or.inl rfl | exact Or.inr rfl)) pgs_nil))))
      (pss_one (ps_set (i := 6) sc_simplest.nd rfl (by first | exact Or.inl rfl | exact Or.inr rfl) (pe_call G_floor_of hr (by rfl) m_floor_of k_floor_of b_floor_of .nil pass0 (pa_cons (pv 0) (pa_cons (pv 4) pa_nil))))))))
      (pss_one (ps_ret (pe_call G_put_together hr (by rfl) m_put_together k_put_together b_put_together .nil pass0 (pa_cons (pv 3) (pa_cons (pe_op op_add (pv 6) pe_int) pa_nil)))))))))), ?_⟩
  have Ir := Num.Root.irr hR
  have zr : Sz 10 r := Root.sz hR
  have vX := fX.ok.vl
  have vY := fY.ok.vl
  have l1 : ltN r X Y = true := (ltN_iff Ir fX.ok fY.ok).mpr hlt
  refine ⟨_, rfl, _, rfl, _, rfl, r, p, t, X, Y, rfl, hp, ht, zr.mono, fX.ok.za.mono, fX.ok.zb.mono, fX.ok.zc.mono, fY.ok.za.mono, fY.ok.zb.mono, fY.ok.zc.mono, _, rfl, ?_⟩
  rw [l1]
  refine iteF ?_
  refine ⟨smallB rfl, fun fl hfl => ?_⟩
  have g0 := Same.new hfl (.lst [])
  have hfl0 : (upd H fl (.lst [])) fl = some (.lst []) := upd_same
  generalize upd H fl (.lst []) = H0 at *
  refine ⟨_, rfl, _, rfl, _, _, rfl, ?_⟩
  refine ⟨_, rfl, _, rfl, r, p, X.1, X.2.1, X.2.2, rfl, g0.tup hp, Ir.1, zr.mono, fX.ok.zb.mono, fX.ok.pos, fX.ok.zc.mono, fun F0 hF0 => ?_⟩
  have fw0 := floor_w hR fX.ok hF0 rfl
  have fz0 := floor_sz zr fX.ok.za fX.ok.zb fX.ok.pos hF0
  have ff0 := floor_few hR fX hF0
  generalize (X.1 + F0) / X.2.2 = f0 at *
  have fin : ∀ (fs : List Int) (low : N3) (high : Option N3) (f e P P' Q1 Q1' : Int) (x y : N3) (H1 : Hp), CF r X Y fs low high e P P' Q1 Q1' x y → Wo.Lt r (wN low) (wI (f + 1)) → Sz 260 f → (∀ h, high = some h → Wo.Lt r (wI (f + 1)) (wN h)) → Same H H1 →
      ∀ u, H1 u = none → Q (.ref u) (upd H1 u (.tup [.int (pt fs (f + 1, 1)).1, .int 0, .int (pt fs (f + 1, 1)).2])) := by
    intro fs low high f e P P' Q1 Q1' x y H1 c h2 zf h3 g u hu
    obtain ⟨z1, z2, _⟩ := c.ptsz hR fX fY hlt h2 zf
    obtain ⟨b1, b2, b3⟩ := c.fin Ir vX vY h2 h3 (T := (pt fs (f + 1, 1)).1) (B := (pt fs (f + 1, 1)).2) rfl
    exact q u _ _ _ (g.trans (Same.new hu _)) upd_same b1 z1 z2 b2 b3
  refine while_by (fun σ H' => ∃ (fs : List Int) (low : N3) (high : Option N3) (pl : Addr) (vh : V) (f e P P' Q1 Q1' : Int) (x y : N3), σ = [some (.int r), some (.ref p), some (.ref t), some (.ref fl), some (.ref pl), some vh, some (.int f)] ∧ H' fl = some (.lst (fs.map V.int)) ∧ NumAt K H' (.ref pl) low ∧ UpAt K H' vh high ∧ CF r X Y fs low high e P P' Q1 Q1' x y ∧
      Ok r 120 low ∧ (∀ h, high = some h → Ok r 120 h) ∧ Wo.Le r (wI f) (wN low) ∧ Wo.Lt r (wN low) (wI (f + 1)) ∧ Sz 260 f ∧ (fs = [] → (f.natAbs : Int) + 1 ≤ 2000) ∧ (∀ g ∈ fs, Sz 260 g) ∧ Same H H')
    (fun σ H' => match H' fl with | some (.lst xs) => 300000 - xs.length | _ => 0) ?_ ?_ ?_
  · exact ⟨[], X, some Y, p, .ref t, f0, 1, 1, 0, 0, 1, X, Y, rfl, hfl0, ⟨p, rfl, g0.tup hp⟩, ⟨t, rfl, g0.tup ht⟩, CF.start fX.ok fY.ok hlt, fX.ok.mono (by decide), (by rintro _ ⟨⟩; exact fY.ok.mono (by decide)), fw0.1, fw0.2, fz0.mono, fun _ => ff0, (fun g m => nomatch m), g0⟩
  · rintro σ H1 ⟨fs, low, high, pl, vh, f, e, P, P', Q1, Q1', x, y, rfl, hfs, hlow, hup, c, okl, okh, hf1, hf2, zf, hfe, zfs, g1⟩
    obtain ⟨p1, p2, p3⟩ := c.ptsz hR fX fY hlt hf2 zf
    have len := c.len hR fX fY hlt
    refine ⟨_, rfl, rfl, _, rfl, ?_⟩
    cases high with
    | none =>
      cases (show vh = .non from hup)
      refine iteF ?_
      refine iteF ?_
      exact ⟨_, rfl, _, rfl, _, _, rfl, rfl, fl, fs, f + 1, rfl, hfs, p3, fun g m => (zfs g m).mono, fin fs low none f e P P' Q1 Q1' x y H1 c hf2 zf (fun _ z => nomatch z) g1⟩
    | some h =>
      obtain ⟨ph, rfl, hph⟩ := (show NumAt K H1 vh h from hup)
      have ok1 := okh h rfl
      have okf : Ok r 262 (intN (f + 1)) := int_ok (by decide) ((zf.add (Sz.sm 1 (by decide) : Sz 1 1)).mono (by decide))
      refine iteT ?_
      refine ⟨_, rfl, _, rfl, _, _, rfl, rfl, smallB rfl, fun u hu => ?_⟩
      have gu := Same.new hu (.tup [V.int (f + 1), V.int 0, V.int 1])
      refine ⟨_, rfl, r, u, ph, intN (f + 1), h, rfl, SqT.of upd_same, gu.tup hph, zr.mono, okf.za.mono, okf.zb.mono, okf.zc.mono, ok1.za.mono, ok1.zb.mono, ok1.zc.mono, _, rfl, ?_⟩
      cases hl : ltN r (intN (f + 1)) h with
      | true =>
        have h3 := (ltN_iff Ir okf ok1).mp hl
        rw [wN_int] at h3
        refine iteF ?_
        exact ⟨_, rfl, _, rfl, _, _, rfl, rfl, fl, fs, f + 1, rfl, gu _ _ hfs, p3, fun g m => (zfs g m).mono, fin fs low (some h) f e P P' Q1 Q1' x y _ c hf2 zf (by rintro _ ⟨⟩; exact h3) (g1.trans gu)⟩
      | false =>
        have h3 : ¬ Wo.Lt r (wI (f + 1)) (wN h) := fun z => by
          rw [← wN_int] at z
          rw [(ltN_iff Ir okf ok1).mpr z] at hl
          cases hl
        refine iteT ?_
        have hfs2 := gu _ _ hfs
        have hlow2 := hlow.mono gu
        have hph2 : NumAt K _ (.ref ph) h := ⟨ph, rfl, gu.tup hph⟩
        have g2 := g1.trans gu
        generalize upd H1 u (.tup [V.int (f + 1), V.int 0, V.int 1]) = H2 at *
        refine ⟨_, rfl, .inl ⟨rfl, _, SqL.of hfs2⟩, _, rfl, ?_⟩
        refine ⟨fl, _, _, rfl, rfl, hfs2, by rw [List.length_map]; exact Nat.lt_of_le_of_lt len (by decide), ?_⟩
        have sx := SameX.upd (H := H2) (p := fl) (.lst (fs.map V.int ++ [V.int f]))
        obtain ⟨_, e3, hl3⟩ := hlow2.monoX sx hfs2
        cases e3
        obtain ⟨_, e3, hp3⟩ := hph2.monoX sx hfs2
        cases e3
        have hf3 : (upd H2 fl (.lst (fs.map V.int ++ [V.int f]))) fl = some (.lst (fs.map V.int ++ [V.int f])) := upd_same
        have g3 : Same H (upd H2 fl (.lst (fs.map V.int ++ [V.int f]))) := SameX.same hfl g2 sx
        generalize upd H2 fl (.lst (fs.map V.int ++ [V.int f])) = H3 at *
        have hne : Wo.sb (wN h) (wI f) ≠ Wo.z := fun z => by
          have := hf1.lt Ir (wI_vl r f) okl.vl ok1.vl (c.hs h rfl).2.2.2
          unfold Wo.Lt at this
          rw [z] at this
          exact this.irr
        refine ⟨_, rfl, _, rfl, _, rfl, _, rfl, r, pl, ph, low, h, f, rfl, hl3, hp3, hR, okl, ok1, zf, hne, fun t2 l2 up x' hi H4 g4 ht2 hl2 hup2 okx' m1 m2 m3 => ?_⟩
        refine ⟨t2, _, rfl, SqT.of ht2, rfl, ?_⟩
        refine ⟨_, _, rfl, _, _, rfl, rfl, ?_⟩
        refine ⟨_, rfl, _, rfl, r, l2, x'.1, x'.2.1, x'.2.2, rfl, hl2, Ir.1, zr.mono, okx'.zb.mono, okx'.pos, okx'.zc.mono, fun F hF => ?_⟩
        have c' := c.step Ir vX vY hf1 hf2 h3 hfe (low' := x') (high' := hi) okx'.vl m1 m2 (fun h' e' => ⟨(m3 h' e').1.vl, (m3 h' e').2⟩)
        obtain ⟨ok3, ok4⟩ := c'.sizes hR fX fY hlt okx' (fun h' e' => (m3 h' e').1)
        have fw := floor_w hR okx' hF rfl
        have fz := floor_sz zr ok3.za ok3.zb ok3.pos hF
        generalize (x'.1 + F) / x'.2.2 = f' at *
        refine ⟨⟨fs ++ [f], x', hi, l2, up, f', _, _, _, _, _, _, _, rfl, ?_, ⟨l2, rfl, hl2⟩, hup2, c', ok3, ok4, fw.1, fw.2, fz.mono, fun z => absurd z (by simp), ?_, g3.trans g4⟩, ?_⟩
        · rw [List.map_append]
          exact g4 _ _ hf3
        · intro g m
          rcases List.mem_append.mp m with m | m
          · exact zfs g m
          · rw [List.mem_singleton.mp m]
            exact zf
        · rw [g4 _ _ hf3, hfs]
          dsimp only
          rw [List.length_append, List.length_map, List.length_singleton]
          omega
  · intro σ H1 Q1 Q2 hQ h
    obtain ⟨v, hv, hn, k, hk, h⟩ := h
    refine ⟨v, hv, hn, k, hk, ?_⟩
    dsimp only at h ⊢
    cases k with
    | false => exact hQ _ _ h
    | true =>
      obtain ⟨v0, h0, v1, h1, i, j, e1, e2, hz, h⟩ := h
      refine ⟨v0, h0, v1, h1, i, j, e1, e2, hz, fun u hu => ?_⟩
      obtain ⟨v2, h2, r', p', t', x', y', e3, a1, a2, a3, a4, a5, a6, a7, a8, a9, d, e4, h⟩ := h u hu
      exact ⟨v2, h2, r', p', t', x', y', e3, a1, a2, a3, a4, a5, a6, a7, a8, a9, d, e4, hQ _ _ h⟩
theorem sc_plus : FnScope ["root", "one", "other", "a", "b", "c", "d", "e", "f"] ["root", "one", "other"] (defScope s_plus) := ⟨rfl, rfl, rfl, by decide +kernel, rfl, by decide +kernel, by decide +kernel⟩
set_option maxHeartbeats 4000000 in
theorem ok_plus {f : Addr} {fd : FuncData} {n : Nat}  (F : Fun K "plus" "plus" s_plus f fd) (C_in_lowest_terms : Cal P w K mg base n "in_lowest_terms" ["a", "b", "c"] spLowP) :
    FnOk P w K mg base CX0 (n + 1) f fd ["root", "one", "other"] (spPlusP K) := by
  obtain ⟨f_in_lowest_terms, fd_in_lowest_terms, G_in_lowest_terms, b_in_lowest_terms, k_in_lowest_terms, m_in_lowest_terms⟩ := C_in_lowest_terms.ex
  refine F.ok sc_plus (fun vs H Q E h => ?_) (fun cdv A outer s H vs Q E hr h => ?_)
  · obtain ⟨v, p, r, x, y, rfl, _⟩ := h
    rfl
  obtain ⟨v, p, r, x, y, rfl, h1, h2, hcf, za, zb, zc, zd, ze, zf, q⟩ := h
  refine ⟨_, (pss_cons (ps_asg (pv 1) (pg_tup (n := 3) (by rfl) (pgs_cons (pg_name (i := 3) sc_plus.nd rfl (by first | exact Or.inl rfl | exact Or.inr rfl)) (pgs_cons (pg_name (i := 4) sc_plus.nd rfl (by first | exact Or.inl rfl | exact Or.inr rfl)) (pgs_cons (pg_name (i := 5) sc_plus.nd rfl (by first | exact Or.inl rfl | exact Or.inr rfl)) pgs_nil)))))
      (pss_cons (ps_asg (pv 2) (pg_tup (n := 3) (by rfl) (pgs_cons (pg_name (i := 6) sc_plus.nd rfl (by first | exact Or.inl rfl | exact Or.inr rfl)) (pgs_cons (pg_name (i := 7) sc_plus.nd rfl (by first | exact Or.inl rfl | exact Or.inr rfl)) (pgs_cons (pg_name (i := 8) sc_plus.nd rfl (by first | exact Or.inl rfl | exact Or.inr rfl)) pgs_nil)))))
      (pss_one (ps_ret (pe_call G_in_lowest_terms hr (by rfl) m_in_lowest_terms k_in_lowest_terms b_in_lowest_terms .nil pass0 (pa_cons (pe_op op_add (pe_op op_mulB (pv 3) (pv 8)) (pe_op op_mulB (pv 6) (pv 5))) (pa_cons (pe_op op_add (pe_op op_mulB (pv 4) (pv 8)) (pe_op op_mulB (pv 7) (pv 5))) (pa_cons (pe_op op_mulB (pv 5) (pv 8)) pa_nil)))))))), ?_⟩
  refine ⟨_, rfl, p, _, rfl, h1, rfl, ?_⟩
  refine ⟨_, _, rfl, _, _, rfl, _, _, rfl, rfl, ?_⟩
  refine ⟨_, rfl, r, _, rfl, h2, rfl, ?_⟩
  refine ⟨_, _, rfl, _, _, rfl, _, _, rfl, rfl, ?_⟩
  refine ⟨_, rfl, _, rfl, _, _, rfl, rfl, ⟨za.mono, zf.mono⟩, _, rfl, _, rfl, _, _, rfl, rfl, ⟨zd.mono, zc.mono⟩, _, _, rfl, rfl, ?_⟩
  refine ⟨_, rfl, _, rfl, _, _, rfl, rfl, ⟨zb.mono, zf.mono⟩, _, rfl, _, rfl, _, _, rfl, rfl, ⟨ze.mono, zc.mono⟩, _, _, rfl, rfl, ?_⟩
  refine ⟨_, rfl, _, rfl, _, _, rfl, rfl, ⟨zc.mono, zf.mono⟩, _, _, _, rfl, hcf, (zc.mul zf).mono, q⟩
theorem sc_times : FnScope ["root", "one", "other", "a", "b", "c", "d", "e", "f"] ["root", "one", "other"] (defScope s_times) := ⟨rfl, rfl, rfl, by decide +kernel, rfl, by decide +kernel, by decide +kernel⟩
set_option maxHeartbeats 4000000 in
theorem ok_times {f : Addr} {fd : FuncData} {n : Nat}  (F : Fun K "times" "times" s_times f fd) (C_in_lowest_terms : Cal P w K mg base n "in_lowest_terms" ["a", "b", "c"] spLowP) :
    FnOk P w K mg base CX0 (n + 1) f fd ["root", "one", "other"] (spTimes K) := by
  obtain ⟨f_in_lowest_terms, fd_in_lowest_terms, G_in_lowest_terms, b_in_lowest_terms, k_in_lowest_terms, m_in_lowest_terms⟩ := C_in_lowest_terms.ex
  refine F.ok sc_times (fun vs H Q E h => ?_) (fun cdv A outer s H vs Q E hr h => ?_)
  · obtain ⟨r, p, t, x, y, rfl, _⟩ := h
    rfl
  obtain ⟨r, p, t, x, y, rfl, h1, h2, hcf, zr, za, zb, zc, zd, ze, zf, q⟩ := h
  refine ⟨_, (pss_cons (ps_asg (pv 1) (pg_tup (n := 3) (by rfl) (pgs_cons (pg_name (i := 3) sc_times.nd rfl (by first | exact Or.inl rfl | exact Or.inr rfl)) (pgs_cons (pg_name (i := 4) sc_times.nd rfl (by first | exact Or.inl rfl | exact Or.inr rfl)) (pgs_cons (pg_name (i := 5) sc_times.nd rfl (by first | exact Or.inl rfl | exact Or.inr rfl)) pgs_nil)))))
      (pss_cons (ps_asg (pv 2) (pg_tup (n := 3) (by rfl) (pgs_cons (pg_name (i := 6) sc_times.nd rfl (by first | exact Or.inl rfl | exact Or.inr rfl)) (pgs_cons (pg_name (i := 7) sc_times.nd rfl (by first | exact Or.inl rfl | exact Or.inr rfl)) (pgs_cons (pg_name (i := 8) sc_times.nd rfl (by first | exact Or.inl rfl | exact Or.inr rfl)) pgs_nil)))))
      (pss_one (ps_ret (pe_call G_in_lowest_terms hr (by rfl) m_in_lowest_terms k_in_lowest_terms b_in_lowest_terms .nil pass0 (pa_cons (pe_op op_add (pe_op op_mulB (pv 3) (pv 6)) (pe_op op_mulB (pe_op op_mulB (pv 0) (pv 4)) (pv 7))) (pa_cons (pe_op op_add (pe_op op_mulB (pv 3) (pv 7)) (pe_op op_mulB (pv 4) (pv 6))) (pa_cons (pe_op op_mulB (pv 5) (pv 8)) pa_nil)))))))), ?_⟩
  refine ⟨_, rfl, p, _, rfl, h1, rfl, ?_⟩
  refine ⟨_, _, rfl, _, _, rfl, _, _, rfl, rfl, ?_⟩
  refine ⟨_, rfl, t, _, rfl, h2, rfl, ?_⟩
  refine ⟨_, _, rfl, _, _, rfl, _, _, rfl, rfl, ?_⟩
  
  refine ⟨_, rfl, _, rfl, _, _, rfl, rfl, ⟨za.mono, zd.mono⟩, _, rfl, _, rfl, _, _, rfl, rfl, ⟨zr.mono, zb.mono⟩, _, rfl, _, _, rfl, rfl, ⟨(zr.mul zb).mono, ze.mono⟩, _, _, rfl, rfl, ?_⟩
  refine ⟨_, rfl, _, rfl, _, _, rfl, rfl, ⟨za.mono, ze.mono⟩, _, rfl, _, rfl, _, _, rfl, rfl, ⟨zb.mono, zd.mono⟩, _, _, rfl, rfl, ?_⟩
  exact ⟨_, rfl, _, rfl, _, _, rfl, rfl, ⟨zc.mono, zf.mono⟩, _, _, _, rfl, hcf, (zc.mul zf).mono, q⟩
theorem sc__law_ordered : FnScope ["_law_root_here", "_law_one", "_law_other", "_law_third"] ["_law_root_here", "_law_one", "_law_other", "_law_third"] (defScope s__law_ordered) := ⟨rfl, rfl, rfl, by decide +kernel, rfl, by decide +kernel, by decide +kernel⟩
set_option maxHeartbeats 4000000 in
theorem ok__law_ordered {f : Addr} {fd : FuncData} {n : Nat}  (F : Fun K "_law_ordered" "_law_ordered" s__law_ordered f fd) (C_less : Cal P w K mg base n "less" ["root", "one", "other"] (spLessP K)) (C_plus : Cal P w K mg base n "plus" ["root", "one", "other"] (spPlusP K)) (C_times : Cal P w K mg base n "times" ["root", "one", "other"] (spTimes K)) :
    FnOk P w K mg base CX0 (n + 1) f fd ["_law_root_here", "_law_one", "_law_other", "_law_third"] (spOrdered K) := by
  obtain ⟨f_less, fd_less, G_less, b_less, k_less, m_less⟩ := C_less.ex
  obtain ⟨f_plus, fd_plus, G_plus, b_plus, k_plus, m_plus⟩ := C_plus.ex
  obtain ⟨f_times, fd_times, G_times, b_times, k_times, m_times⟩ := C_times.ex
  refine F.ok sc__law_ordered (fun vs H Q E h => ?_) (fun cdv A outer s H vs Q E hr h => ?_)
  · obtain ⟨r, px, py, pz, x, y, w, rfl, _⟩ := h
    rfl
  obtain ⟨r, px, py, pz, x, y, w, rfl, hx, hy, hw, hR, ox, oy, ow, q⟩ := h
  refine ⟨_, (pss_cons (ps_if (PW.pt (pw_or (PW.pt (pw_and (pt_cmpR (op_neD hr.units) (pv 1) (pv 2) (nomark _)) (pw_and1 (pt_cmpR op_eq (pe_call G_less hr (by rfl) m_less k_less b_less .nil pass0 (pa_cons (pv 0) (pa_cons (pv 1) (pa_cons (pv 2) pa_nil)))) (pe_call G_less hr (by rfl) m_less k_less b_less .nil pass0 (pa_cons (pv 0) (pa_cons (pv 2) (pa_cons (pv 1) pa_nil)))) (nomark _))))) (pw_or1 (pt_val (pe_call G_less hr (by rfl) m_less k_less b_less .nil pass0 (pa_cons (pv 0) (pa_cons (pv 1) (pa_cons (pv 1) pa_nil)))))))) (pss_one (ps_ret pe_bl)) pss_nil)
      (pss_cons (ps_if (PW.pt (pw_and (pt_val (pe_call G_less hr (by rfl) m_less k_less b_less .nil pass0 (pa_cons (pv 0) (pa_cons (pv 1) (pa_cons (pv 2) pa_nil))))) (pw_and (pt_val (pe_call G_less hr (by rfl) m_less k_less b_less .nil pass0 (pa_cons (pv 0) (pa_cons (pv 2) (pa_cons (pv 3) pa_nil))))) (pw_and1 (pt_not (pt_val (pe_call G_less hr (by rfl) m_less k_less b_less .nil pass0 (pa_cons (pv 0) (pa_cons (pv 1) (pa_cons (pv 3) pa_nil)))))))))) (pss_one (ps_ret pe_bl)) pss_nil)
      (pss_cons (ps_if (pt_cmpR op_ne (pe_call G_less hr (by rfl) m_less k_less b_less .nil pass0 (pa_cons (pv 0) (pa_cons (pe_call G_plus hr (by rfl) m_plus k_plus b_plus .nil pass0 (pa_cons (pv 0) (pa_cons (pv 1) (pa_cons (pv 3) pa_nil)))) (pa_cons (pe_call G_plus hr (by rfl) m_plus k_plus b_plus .nil pass0 (pa_cons (pv 0) (pa_cons (pv 2) (pa_cons (pv 3) pa_nil)))) pa_nil)))) (pe_call G_less hr (by rfl) m_less k_less b_less .nil pass0 (pa_cons (pv 0) (pa_cons (pv 1) (pa_cons (pv 2) pa_nil)))) (nomark _)) (pss_one (ps_ret pe_bl)) pss_nil)
      (pss_cons (ps_if (pt_val (pe_call G_less hr (by rfl) m_less k_less b_less .nil pass0 (pa_cons (pv 0) (pa_cons (pe_tup (pa_cons pe_int (pa_cons pe_int (pa_cons pe_int pa_nil)))) (pa_cons (pv 3) pa_nil))))) (pss_one (ps_ret (pe_cmpR op_eq (pe_call G_less hr (by rfl) m_less k_less b_less .nil pass0 (pa_cons (pv 0) (pa_cons (pe_call G_times hr (by rfl) m_times k_times b_times .nil pass0 (pa_cons (pv 0) (pa_cons (pv 1) (pa_cons (pv 3) pa_nil)))) (pa_cons (pe_call G_times hr (by rfl) m_times k_times b_times .nil pass0 (pa_cons (pv 0) (pa_cons (pv 2) (pa_cons (pv 3) pa_nil)))) pa_nil)))) (pe_call G_less hr (by rfl) m_less k_less b_less .nil pass0 (pa_cons (pv 0) (pa_cons (pv 1) (pa_cons (pv 2) pa_nil)))) (nomark _)))) pss_nil)
      (pss_cons (ps_if (pt_cmpR (op_neD hr.units) (pv 3) (pe_tup (pa_cons pe_int (pa_cons pe_int (pa_cons pe_int pa_nil)))) (nomark _)) (pss_one (ps_ret (pe_cmpR op_eq (pe_call G_less hr (by rfl) m_less k_less b_less .nil pass0 (pa_cons (pv 0) (pa_cons (pe_call G_times hr (by rfl) m_times k_times b_times .nil pass0 (pa_cons (pv 0) (pa_cons (pv 1) (pa_cons (pv 3) pa_nil)))) (pa_cons (pe_call G_times hr (by rfl) m_times k_times b_times .nil pass0 (pa_cons (pv 0) (pa_cons (pv 2) (pa_cons (pv 3) pa_nil)))) pa_nil)))) (pe_call G_less hr (by rfl) m_less k_less b_less .nil pass0 (pa_cons (pv 0) (pa_cons (pv 2) (pa_cons (pv 1) pa_nil)))) (nomark _)))) pss_nil)
      (pss_one (ps_ret pe_bl))))))), ?_⟩
  have Ir := Num.Root.irr hR
  have zr : Sz 10 r := Root.sz hR
  have o0 := zero_ok r 1 (by decide)
  refine seqF (fun Qb hq => ?_) fun H1 g1 => ?_
  · refine ⟨_, rfl, _, rfl, dN x, dN y, NumAt.dp ⟨_, rfl, hx⟩, NumAt.dp ⟨_, rfl, hy⟩, shaped_dN _, shaped_dN _, _, rfl, ?_⟩
    have last : ∀ H', Same H H' → Qb (ltN r x x) H' := fun H' g => by rw [ltN_irr Ir ox]; exact hq H' g
    rw [dN_eqv]
    refine ite2 (fun ct => ?_) (fun ct => ?_)
    · have hne : x ≠ y := by
        intro e
        rw [decide_eq_true e] at ct
        cases ct
      refine ⟨_, rfl, _, rfl, _, rfl, r, px, py, x, y, rfl, hx, hy, zr.mono, ox.za.mono, ox.zb.mono, ox.zc.mono, oy.za.mono, oy.zb.mono, oy.zc.mono, _, rfl, _, rfl, _, rfl, r, py, px, y, x, rfl, hy, hx, zr.mono, oy.za.mono, oy.zb.mono, oy.zc.mono, ox.za.mono, ox.zb.mono, ox.zc.mono, rfl, _, rfl, ?_⟩
      have ee : decide (V.bl (ltN r x y) = V.bl (ltN r y x)) = false := decide_eq_false fun e => by
        have e' := V.bl.inj e
        rw [ltN_ne Ir ox oy hne] at e'
        generalize ltN r y x = b at e'
        cases b <;> simp at e'
      rw [ee]
      refine iteF ?_
      exact ⟨_, rfl, _, rfl, _, rfl, r, px, px, x, x, rfl, hx, hx, zr.mono, ox.za.mono, ox.zb.mono, ox.zc.mono, ox.za.mono, ox.zb.mono, ox.zc.mono, _, rfl, last _ (Same.refl _)⟩
    · refine iteF ?_
      exact ⟨_, rfl, _, rfl, _, rfl, r, px, px, x, x, rfl, hx, hx, zr.mono, ox.za.mono, ox.zb.mono, ox.zc.mono, ox.za.mono, ox.zb.mono, ox.zc.mono, _, rfl, last _ (Same.refl _)⟩
  
  
  have X1 := g1.tup hx
  have Y1 := g1.tup hy
  have W1 := g1.tup hw
  refine seqF (fun Qb hq => ?_) fun H2 g2 => ?_
  · refine ⟨_, rfl, _, rfl, _, rfl, r, px, py, x, y, rfl, X1, Y1, zr.mono, ox.za.mono, ox.zb.mono, ox.zc.mono, oy.za.mono, oy.zb.mono, oy.zc.mono, _, rfl, ?_⟩
    refine ite2 (fun a1 => ?_) (fun _ => hq _ (Same.refl _))
    refine ⟨_, rfl, _, rfl, _, rfl, r, py, pz, y, w, rfl, Y1, W1, zr.mono, oy.za.mono, oy.zb.mono, oy.zc.mono, ow.za.mono, ow.zb.mono, ow.zc.mono, _, rfl, ?_⟩
    refine ite2 (fun a2 => ?_) (fun _ => hq _ (Same.refl _))
    refine ⟨_, rfl, _, rfl, _, rfl, r, px, pz, x, w, rfl, X1, W1, zr.mono, ox.za.mono, ox.zb.mono, ox.zc.mono, ow.za.mono, ow.zb.mono, ow.zc.mono, _, rfl, ?_⟩
    rw [ltN_trans Ir ox oy ow a1 a2]
    exact hq _ (Same.refl _)
  
  have X2 := g2.tup X1
  have Y2 := g2.tup Y1
  have W2 := g2.tup W1
  have oa := addN_ok ox ow
  have ob := addN_ok oy ow
  have om := mulN_ok zr ox ow
  have on := mulN_ok zr oy ow
  refine seqF (fun Qb hq => ?_) fun H3 g3 => ?_
  · refine ⟨_, rfl, _, rfl, _, rfl, _, rfl, _, px, pz, x, w, rfl, X2, W2, (Int.ne_of_gt (Int.mul_pos ox.pos ow.pos)), ox.za.mono, ox.zb.mono, ox.zc.mono, ow.za.mono, ow.zb.mono, ow.zc.mono, fun t1 ht1 => ?_⟩
    have g1 := Same.new ht1 (.tup (vN (addN x w)))
    have e1 : (upd H2 t1 (.tup (vN (addN x w)))) t1 = some (.tup (vN (addN x w))) := upd_same
    generalize upd H2 t1 (.tup (vN (addN x w))) = H3 at *
    
    refine ⟨_, rfl, _, rfl, _, rfl, _, py, pz, y, w, rfl, (g1.tup Y2), (g1.tup W2), (Int.ne_of_gt (Int.mul_pos oy.pos ow.pos)), oy.za.mono, oy.zb.mono, oy.zc.mono, ow.za.mono, ow.zb.mono, ow.zc.mono, fun t2 ht2 => ?_⟩
    have g2 := Same.new ht2 (.tup (vN (addN y w)))
    have e2 : (upd H3 t2 (.tup (vN (addN y w)))) t2 = some (.tup (vN (addN y w))) := upd_same
    generalize upd H3 t2 (.tup (vN (addN y w))) = H4 at *
    
    refine ⟨r, t1, t2, addN x w, addN y w, rfl, (g2.tup (SqT.of e1)), (SqT.of e2), zr.mono, oa.za.mono, oa.zb.mono, oa.zc.mono, ob.za.mono, ob.zb.mono, ob.zc.mono, ?_⟩
    refine ⟨_, rfl, _, rfl, _, rfl, r, px, py, x, y, rfl, ((g1.trans g2).tup X2), ((g1.trans g2).tup Y2), zr.mono, ox.za.mono, ox.zb.mono, ox.zc.mono, oy.za.mono, oy.zb.mono, oy.zc.mono, rfl, _, rfl, ?_⟩
    rw [ltN_add Ir ox oy ow, decide_eq_true rfl]
    exact hq _ (g1.trans g2)
  
  have X3 := g3.tup X2
  have Y3 := g3.tup Y2
  have W3 := g3.tup W2
  have G3 := (g1.trans g2).trans g3
  refine ⟨_, rfl, smallB rfl, fun t0 ht0 => ?_⟩
  have g0 := Same.new ht0 (.tup [V.int 0, V.int 0, V.int 1])
  have e0 : (upd H3 t0 (.tup [V.int 0, V.int 0, V.int 1])) t0 = some (.tup [V.int 0, V.int 0, V.int 1]) := upd_same
  generalize upd H3 t0 (.tup [V.int 0, V.int 0, V.int 1]) = H4 at *
  
  refine ⟨_, rfl, r, t0, pz, zeroN, w, rfl, (SqT.of e0), (g0.tup W3), zr.mono, o0.za.mono, o0.zb.mono, o0.zc.mono, ow.za.mono, ow.zb.mono, ow.zc.mono, _, rfl, ?_⟩
  have X4 := g0.tup X3
  have Y4 := g0.tup Y3
  have W4 := g0.tup W3
  have G4 := G3.trans g0
  refine ite2 (fun ct => ?_) (fun ct => ?_)
  · refine ⟨_, rfl, _, rfl, _, rfl, _, rfl, r, px, pz, x, w, rfl, X4, W4, (Int.ne_of_gt (Int.mul_pos ox.pos ow.pos)), zr.mono, ox.za.mono, ox.zb.mono, ox.zc.mono, ow.za.mono, ow.zb.mono, ow.zc.mono, fun t5 ht5 => ?_⟩
    have g5 := Same.new ht5 (.tup (vN (mulN r x w)))
    have e5 : (upd H4 t5 (.tup (vN (mulN r x w)))) t5 = some (.tup (vN (mulN r x w))) := upd_same
    generalize upd H4 t5 (.tup (vN (mulN r x w))) = H5 at *
    
    refine ⟨_, rfl, _, rfl, _, rfl, r, py, pz, y, w, rfl, (g5.tup Y4), (g5.tup W4), (Int.ne_of_gt (Int.mul_pos oy.pos ow.pos)), zr.mono, oy.za.mono, oy.zb.mono, oy.zc.mono, ow.za.mono, ow.zb.mono, ow.zc.mono, fun t6 ht6 => ?_⟩
    have g6 := Same.new ht6 (.tup (vN (mulN r y w)))
    have e6 : (upd H5 t6 (.tup (vN (mulN r y w)))) t6 = some (.tup (vN (mulN r y w))) := upd_same
    generalize upd H5 t6 (.tup (vN (mulN r y w))) = H6 at *
    
    refine ⟨r, t5, t6, mulN r x w, mulN r y w, rfl, (g6.tup (SqT.of e5)), (SqT.of e6), zr.mono, om.za.mono, om.zb.mono, om.zc.mono, on.za.mono, on.zb.mono, on.zc.mono, ?_⟩
    refine ⟨_, rfl, _, rfl, _, rfl, r, px, py, x, y, rfl, ((g5.trans g6).tup X4), ((g5.trans g6).tup Y4), zr.mono, ox.za.mono, ox.zb.mono, ox.zc.mono, oy.za.mono, oy.zb.mono, oy.zc.mono, rfl, ?_⟩
    rw [ltN_up Ir zr ox oy ow ct, decide_eq_true rfl]
    exact q _ (G4.trans (g5.trans g6))
  have cf : ltN r zeroN w = false := Bool.eq_false_iff.mpr ct
  refine ⟨_, rfl, smallB rfl, fun t7 ht7 => ?_⟩
  have g7 := Same.new ht7 (.tup [V.int 0, V.int 0, V.int 1])
  have e7 : (upd H4 t7 (.tup [V.int 0, V.int 0, V.int 1])) t7 = some (.tup [V.int 0, V.int 0, V.int 1]) := upd_same
  generalize upd H4 t7 (.tup [V.int 0, V.int 0, V.int 1]) = H7 at *
  
  refine ⟨dN w, dN zeroN, NumAt.dp ⟨_, rfl, g7.tup W4⟩, NumAt.dp ⟨_, rfl, SqT.of e7⟩, shaped_dN _, shaped_dN _, _, rfl, ?_⟩
  have X5 := g7.tup X4
  have Y5 := g7.tup Y4
  have W5 := g7.tup W4
  rw [dN_eqv]
  refine ite2 (fun cn => ?_) (fun cn => ?_)
  · have hne : w ≠ zeroN := by
      intro e
      rw [decide_eq_true e] at cn
      cases cn
    refine ⟨_, rfl, _, rfl, _, rfl, _, rfl, r, px, pz, x, w, rfl, X5, W5, (Int.ne_of_gt (Int.mul_pos ox.pos ow.pos)), zr.mono, ox.za.mono, ox.zb.mono, ox.zc.mono, ow.za.mono, ow.zb.mono, ow.zc.mono, fun t5 ht5 => ?_⟩
    have g5 := Same.new ht5 (.tup (vN (mulN r x w)))
    have e5 : (upd H7 t5 (.tup (vN (mulN r x w)))) t5 = some (.tup (vN (mulN r x w))) := upd_same
    generalize upd H7 t5 (.tup (vN (mulN r x w))) = H5 at *
    
    refine ⟨_, rfl, _, rfl, _, rfl, r, py, pz, y, w, rfl, (g5.tup Y5), (g5.tup W5), (Int.ne_of_gt (Int.mul_pos oy.pos ow.pos)), zr.mono, oy.za.mono, oy.zb.mono, oy.zc.mono, ow.za.mono, ow.zb.mono, ow.zc.mono, fun t6 ht6 => ?_⟩
    have g6 := Same.new ht6 (.tup (vN (mulN r y w)))
    have e6 : (upd H5 t6 (.tup (vN (mulN r y w)))) t6 = some (.tup (vN (mulN r y w))) := upd_same
    generalize upd H5 t6 (.tup (vN (mulN r y w))) = H6 at *
    
    refine ⟨r, t5, t6, mulN r x w, mulN r y w, rfl, (g6.tup (SqT.of e5)), (SqT.of e6), zr.mono, om.za.mono, om.zb.mono, om.zc.mono, on.za.mono, on.zb.mono, on.zc.mono, ?_⟩
    refine ⟨_, rfl, _, rfl, _, rfl, r, py, px, y, x, rfl, ((g5.trans g6).tup Y5), ((g5.trans g6).tup X5), zr.mono, oy.za.mono, oy.zb.mono, oy.zc.mono, ox.za.mono, ox.zb.mono, ox.zc.mono, rfl, ?_⟩
    rw [ltN_dn Ir zr ox oy ow cf hne, decide_eq_true rfl]
    exact q _ (G4.trans (g7.trans (g5.trans g6)))
  · exact q _ (G4.trans g7)
theorem sc__law_reckoned : FnScope ["_law_root_here", "_law_one", "_law_other", "_law_third", "_law_both"] ["_law_root_here", "_law_one", "_law_other", "_law_third"] (defScope s__law_reckoned) := ⟨rfl, rfl, rfl, by decide +kernel, rfl, by decide +kernel, by decide +kernel⟩
set_option maxHeartbeats 4000000 in
theorem ok__law_reckoned {f : Addr} {fd : FuncData} {n : Nat}  (F : Fun K "_law_reckoned" "_law_reckoned" s__law_reckoned f fd) (C_plus : Cal P w K mg base n "plus" ["root", "one", "other"] (spPlusP K)) (C_times : Cal P w K mg base n "times" ["root", "one", "other"] (spTimes K)) (C_minus : Cal P w K mg base n "minus" ["root", "one", "other"] (spMinusP K)) (C_over : Cal P w K mg base n "over" ["root", "one", "other"] (spOver K)) :
    FnOk P w K mg base CX0 (n + 1) f fd ["_law_root_here", "_law_one", "_law_other", "_law_third"] (spReckoned K) := by
  obtain ⟨f_plus, fd_plus, G_plus, b_plus, k_plus, m_plus⟩ := C_plus.ex
  obtain ⟨f_times, fd_times, G_times, b_times, k_times, m_times⟩ := C_times.ex
  obtain ⟨f_minus, fd_minus, G_minus, b_minus, k_minus, m_minus⟩ := C_minus.ex
  obtain ⟨f_over, fd_over, G_over, b_over, k_over, m_over⟩ := C_over.ex
  refine F.ok sc__law_reckoned (fun vs H Q E h => ?_) (fun cdv A outer s H vs Q E hr h => ?_)
  · obtain ⟨r, px, py, pz, x, y, w, rfl, _⟩ := h
    rfl
  obtain ⟨r, px, py, pz, x, y, w, rfl, hx, hy, hw, hR, ox, oy, ow, q⟩ := h
  refine ⟨_, (pss_cons (ps_if (pt_cmpR (op_neD hr.units) (pe_call G_plus hr (by rfl) m_plus k_plus b_plus .nil pass0 (pa_cons (pv 0) (pa_cons (pe_call G_plus hr (by rfl) m_plus k_plus b_plus .nil pass0 (pa_cons (pv 0) (pa_cons (pv 1) (pa_cons (pv 2) pa_nil)))) (pa_cons (pv 3) pa_nil)))) (pe_call G_plus hr (by rfl) m_plus k_plus b_plus .nil pass0 (pa_cons (pv 0) (pa_cons (pv 1) (pa_cons (pe_call G_plus hr (by rfl) m_plus k_plus b_plus .nil pass0 (pa_cons (pv 0) (pa_cons (pv 2) (pa_cons (pv 3) pa_nil)))) pa_nil)))) (nomark _)) (pss_one (ps_ret pe_bl)) pss_nil)
      (pss_cons (ps_if (pt_cmpR (op_neD hr.units) (pe_call G_times hr (by rfl) m_times k_times b_times .nil pass0 (pa_cons (pv 0) (pa_cons (pe_call G_times hr (by rfl) m_times k_times b_times .nil pass0 (pa_cons (pv 0) (pa_cons (pv 1) (pa_cons (pv 2) pa_nil)))) (pa_cons (pv 3) pa_nil)))) (pe_call G_times hr (by rfl) m_times k_times b_times .nil pass0 (pa_cons (pv 0) (pa_cons (pv 1) (pa_cons (pe_call G_times hr (by rfl) m_times k_times b_times .nil pass0 (pa_cons (pv 0) (pa_cons (pv 2) (pa_cons (pv 3) pa_nil)))) pa_nil)))) (nomark _)) (pss_one (ps_ret pe_bl)) pss_nil)
      (pss_cons (ps_set (i := 4) sc__law_reckoned.nd rfl (by first | exact Or.inl rfl | exact Or.inr rfl) (pe_call G_plus hr (by rfl) m_plus k_plus b_plus .nil pass0 (pa_cons (pv 0) (pa_cons (pe_call G_times hr (by rfl) m_times k_times b_times .nil pass0 (pa_cons (pv 0) (pa_cons (pv 1) (pa_cons (pv 3) pa_nil)))) (pa_cons (pe_call G_times hr (by rfl) m_times k_times b_times .nil pass0 (pa_cons (pv 0) (pa_cons (pv 2) (pa_cons (pv 3) pa_nil)))) pa_nil)))))
      (pss_cons (ps_if (PW.pt (pw_or (pt_cmpR (op_neD hr.units) (pe_call G_times hr (by rfl) m_times k_times b_times .nil pass0 (pa_cons (pv 0) (pa_cons (pe_call G_plus hr (by rfl) m_plus k_plus b_plus .nil pass0 (pa_cons (pv 0) (pa_cons (pv 1) (pa_cons (pv 2) pa_nil)))) (pa_cons (pv 3) pa_nil)))) (pv 4) (nomark _)) (pw_or1 (pt_cmpR (op_neD hr.units) (pe_call G_plus hr (by rfl) m_plus k_plus b_plus .nil pass0 (pa_cons (pv 0) (pa_cons (pe_call G_minus hr (by rfl) m_minus k_minus b_minus .nil pass0 (pa_cons (pv 0) (pa_cons (pv 1) (pa_cons (pv 2) pa_nil)))) (pa_cons (pv 2) pa_nil)))) (pv 1) (nomark _))))) (pss_one (ps_ret pe_bl)) pss_nil)
      (pss_one (ps_ret (pe_or (pe_cmpR (op_eqD hr.units) (pv 3) (pe_tup (pa_cons pe_int (pa_cons pe_int (pa_cons pe_int pa_nil)))) (nomark _)) (pe_one (pe_cmpR (op_eqD hr.units) (pe_call G_times hr (by rfl) m_times k_times b_times .nil pass0 (pa_cons (pv 0) (pa_cons (pe_call G_over hr (by rfl) m_over k_over b_over .nil pass0 (pa_cons (pv 0) (pa_cons (pv 1) (pa_cons (pv 3) pa_nil)))) (pa_cons (pv 3) pa_nil)))) (pv 1) (nomark _)))))))))), ?_⟩
  have Ir := Num.Root.irr hR
  have zr : Sz 10 r := Root.sz hR
  have oxy := addN_ok ox oy
  have oyw := addN_ok oy ow
  have mxy := mulN_ok zr ox oy
  have myw := mulN_ok zr oy ow
  have mxw := mulN_ok zr ox ow
  refine seqF (fun Qb hq => ?_) fun H1 f1 => ?_
  · refine ⟨_, rfl, _, rfl, _, rfl, _, rfl, _, px, py, x, y, rfl, hx, hy, (Int.ne_of_gt (Int.mul_pos ox.pos oy.pos)), ox.za.mono, ox.zb.mono, ox.zc.mono, oy.za.mono, oy.zb.mono, oy.zc.mono, fun t1 ht1 => ?_⟩
    have g1 := Same.new ht1 (.tup (vN (addN x y)))
    have e1 : (upd H t1 (.tup (vN (addN x y)))) t1 = some (.tup (vN (addN x y))) := upd_same
    generalize upd H t1 (.tup (vN (addN x y))) = Ha at *
    have G1 := g1
    refine ⟨_, rfl, _, t1, pz, addN x y, w, rfl, (SqT.of e1), (G1.tup hw), (Int.ne_of_gt (Int.mul_pos oxy.pos ow.pos)), oxy.za.mono, oxy.zb.mono, oxy.zc.mono, ow.za.mono, ow.zb.mono, ow.zc.mono, fun t2 ht2 => ?_⟩
    have g2 := Same.new ht2 (.tup (vN (addN (addN x y) w)))
    have e2 : (upd Ha t2 (.tup (vN (addN (addN x y) w)))) t2 = some (.tup (vN (addN (addN x y) w))) := upd_same
    generalize upd Ha t2 (.tup (vN (addN (addN x y) w))) = Hb at *
    have G2 := G1.trans g2
    refine ⟨_, rfl, _, rfl, _, rfl, _, rfl, _, rfl, _, py, pz, y, w, rfl, (G2.tup hy), (G2.tup hw), (Int.ne_of_gt (Int.mul_pos oy.pos ow.pos)), oy.za.mono, oy.zb.mono, oy.zc.mono, ow.za.mono, ow.zb.mono, ow.zc.mono, fun t3 ht3 => ?_⟩
    have g3 := Same.new ht3 (.tup (vN (addN y w)))
    have e3 : (upd Hb t3 (.tup (vN (addN y w)))) t3 = some (.tup (vN (addN y w))) := upd_same
    generalize upd Hb t3 (.tup (vN (addN y w))) = Hc at *
    have G3 := G2.trans g3
    refine ⟨_, px, t3, x, addN y w, rfl, (G3.tup hx), (SqT.of e3), (Int.ne_of_gt (Int.mul_pos ox.pos oyw.pos)), ox.za.mono, ox.zb.mono, ox.zc.mono, oyw.za.mono, oyw.zb.mono, oyw.zc.mono, fun t4 ht4 => ?_⟩
    have g4 := Same.new ht4 (.tup (vN (addN x (addN y w))))
    have e4 : (upd Hc t4 (.tup (vN (addN x (addN y w))))) t4 = some (.tup (vN (addN x (addN y w)))) := upd_same
    generalize upd Hc t4 (.tup (vN (addN x (addN y w)))) = Hd at *
    have G4 := G3.trans g4
    refine ⟨dN _, dN _, NumAt.dp ⟨_, rfl, (g3.trans g4).tup (SqT.of e2)⟩, NumAt.dp ⟨_, rfl, SqT.of e4⟩, shaped_dN _, shaped_dN _, _, rfl, ?_⟩
    rw [addN_assoc ox oy ow, eqv_self (shaped_dN _)]
    exact hq _ G4
  replace hx := f1.tup hx
  replace hy := f1.tup hy
  replace hw := f1.tup hw
  refine seqF (fun Qb hq => ?_) fun H2 f2 => ?_
  · refine ⟨_, rfl, _, rfl, _, rfl, _, rfl, r, px, py, x, y, rfl, hx, hy, (Int.ne_of_gt (Int.mul_pos ox.pos oy.pos)), zr.mono, ox.za.mono, ox.zb.mono, ox.zc.mono, oy.za.mono, oy.zb.mono, oy.zc.mono, fun t1 ht1 => ?_⟩
    have g1 := Same.new ht1 (.tup (vN (mulN r x y)))
    have e1 : (upd H1 t1 (.tup (vN (mulN r x y)))) t1 = some (.tup (vN (mulN r x y))) := upd_same
    generalize upd H1 t1 (.tup (vN (mulN r x y))) = Ha at *
    have G1 := g1
    refine ⟨_, rfl, r, t1, pz, mulN r x y, w, rfl, (SqT.of e1), (G1.tup hw), (Int.ne_of_gt (Int.mul_pos mxy.pos ow.pos)), zr.mono, mxy.za.mono, mxy.zb.mono, mxy.zc.mono, ow.za.mono, ow.zb.mono, ow.zc.mono, fun t2 ht2 => ?_⟩
    have g2 := Same.new ht2 (.tup (vN (mulN r (mulN r x y) w)))
    have e2 : (upd Ha t2 (.tup (vN (mulN r (mulN r x y) w)))) t2 = some (.tup (vN (mulN r (mulN r x y) w))) := upd_same
    generalize upd Ha t2 (.tup (vN (mulN r (mulN r x y) w))) = Hb at *
    have G2 := G1.trans g2
    refine ⟨_, rfl, _, rfl, _, rfl, _, rfl, _, rfl, r, py, pz, y, w, rfl, (G2.tup hy), (G2.tup hw), (Int.ne_of_gt (Int.mul_pos oy.pos ow.pos)), zr.mono, oy.za.mono, oy.zb.mono, oy.zc.mono, ow.za.mono, ow.zb.mono, ow.zc.mono, fun t3 ht3 => ?_⟩
    have g3 := Same.new ht3 (.tup (vN (mulN r y w)))
    have e3 : (upd Hb t3 (.tup (vN (mulN r y w)))) t3 = some (.tup (vN (mulN r y w))) := upd_same
    generalize upd Hb t3 (.tup (vN (mulN r y w))) = Hc at *
    have G3 := G2.trans g3
    refine ⟨r, px, t3, x, mulN r y w, rfl, (G3.tup hx), (SqT.of e3), (Int.ne_of_gt (Int.mul_pos ox.pos myw.pos)), zr.mono, ox.za.mono, ox.zb.mono, ox.zc.mono, myw.za.mono, myw.zb.mono, myw.zc.mono, fun t4 ht4 => ?_⟩
    have g4 := Same.new ht4 (.tup (vN (mulN r x (mulN r y w))))
    have e4 : (upd Hc t4 (.tup (vN (mulN r x (mulN r y w))))) t4 = some (.tup (vN (mulN r x (mulN r y w)))) := upd_same
    generalize upd Hc t4 (.tup (vN (mulN r x (mulN r y w)))) = Hd at *
    have G4 := G3.trans g4
    refine ⟨dN _, dN _, NumAt.dp ⟨_, rfl, (g3.trans g4).tup (SqT.of e2)⟩, NumAt.dp ⟨_, rfl, SqT.of e4⟩, shaped_dN _, shaped_dN _, _, rfl, ?_⟩
    rw [mulN_assoc zr ox oy ow, eqv_self (shaped_dN _)]
    exact hq _ G4
  replace hx := f2.tup hx
  replace hy := f2.tup hy
  replace hw := f2.tup hw
  refine ⟨_, rfl, _, rfl, _, rfl, _, rfl, r, px, pz, x, w, rfl, hx, hw, (Int.ne_of_gt (Int.mul_pos ox.pos ow.pos)), zr.mono, ox.za.mono, ox.zb.mono, ox.zc.mono, ow.za.mono, ow.zb.mono, ow.zc.mono, fun t1 ht1 => ?_⟩
  have g1 := Same.new ht1 (.tup (vN (mulN r x w)))
  have e1 : (upd H2 t1 (.tup (vN (mulN r x w)))) t1 = some (.tup (vN (mulN r x w))) := upd_same
  generalize upd H2 t1 (.tup (vN (mulN r x w))) = Ha at *
  have G1 := g1
  
  refine ⟨_, rfl, _, rfl, _, rfl, r, py, pz, y, w, rfl, (G1.tup hy), (G1.tup hw), (Int.ne_of_gt (Int.mul_pos oy.pos ow.pos)), zr.mono, oy.za.mono, oy.zb.mono, oy.zc.mono, ow.za.mono, ow.zb.mono, ow.zc.mono, fun t2 ht2 => ?_⟩
  have g2 := Same.new ht2 (.tup (vN (mulN r y w)))
  have e2 : (upd Ha t2 (.tup (vN (mulN r y w)))) t2 = some (.tup (vN (mulN r y w))) := upd_same
  generalize upd Ha t2 (.tup (vN (mulN r y w))) = Hb at *
  have G2 := G1.trans g2
  
  refine ⟨_, t1, t2, mulN r x w, mulN r y w, rfl, (g2.tup (SqT.of e1)), (SqT.of e2), (Int.ne_of_gt (Int.mul_pos mxw.pos myw.pos)), mxw.za.mono, mxw.zb.mono, mxw.zc.mono, myw.za.mono, myw.zb.mono, myw.zc.mono, fun t3 ht3 => ?_⟩
  have g3 := Same.new ht3 (.tup (vN (addN (mulN r x w) (mulN r y w))))
  have e3 : (upd Hb t3 (.tup (vN (addN (mulN r x w) (mulN r y w))))) t3 = some (.tup (vN (addN (mulN r x w) (mulN r y w)))) := upd_same
  generalize upd Hb t3 (.tup (vN (addN (mulN r x w) (mulN r y w)))) = Hc at *
  have G3 := G2.trans g3
  
  replace hx := G3.tup hx
  replace hy := G3.tup hy
  replace hw := G3.tup hw
  have F3 := (f1.trans f2).trans G3
  clear g1 g2 g3 G1 G2 G3 e1 e2 f1 f2
  dsimp only [gName]
  refine seqF (fun Qb hq => ?_) fun H4 f4 => ?_
  · refine ⟨_, rfl, _, rfl, _, rfl, _, rfl, _, px, py, x, y, rfl, hx, hy, (Int.ne_of_gt (Int.mul_pos ox.pos oy.pos)), ox.za.mono, ox.zb.mono, ox.zc.mono, oy.za.mono, oy.zb.mono, oy.zc.mono, fun t4 ht4 => ?_⟩
    have g4 := Same.new ht4 (.tup (vN (addN x y)))
    have e4 : (upd Hc t4 (.tup (vN (addN x y)))) t4 = some (.tup (vN (addN x y))) := upd_same
    generalize upd Hc t4 (.tup (vN (addN x y))) = Hd at *
    have G4 := g4
    refine ⟨_, rfl, r, t4, pz, addN x y, w, rfl, (SqT.of e4), (G4.tup hw), (Int.ne_of_gt (Int.mul_pos oxy.pos ow.pos)), zr.mono, oxy.za.mono, oxy.zb.mono, oxy.zc.mono, ow.za.mono, ow.zb.mono, ow.zc.mono, fun t5 ht5 => ?_⟩
    have g5 := Same.new ht5 (.tup (vN (mulN r (addN x y) w)))
    have e5 : (upd Hd t5 (.tup (vN (mulN r (addN x y) w)))) t5 = some (.tup (vN (mulN r (addN x y) w))) := upd_same
    generalize upd Hd t5 (.tup (vN (mulN r (addN x y) w))) = He at *
    have G5 := G4.trans g5
    refine ⟨_, rfl, dN _, dN _, NumAt.dp ⟨_, rfl, SqT.of e5⟩, NumAt.dp ⟨_, rfl, G5.tup (SqT.of e3)⟩, shaped_dN _, shaped_dN _, _, rfl, ?_⟩
    rw [mulN_apart zr ox oy ow, eqv_self (shaped_dN _)]
    refine iteF ?_
    refine ⟨_, rfl, _, rfl, _, rfl, _, rfl, _, px, py, x, y, rfl, (G5.tup hx), (G5.tup hy), (Int.ne_of_gt (Int.mul_pos ox.pos oy.pos)), ox.za.mono, ox.zb.mono, ox.zc.mono, oy.za.mono, oy.zb.mono, oy.zc.mono, fun t6 ht6 => ?_⟩
    have g6 := Same.new ht6 (.tup (vN (subN x y)))
    have e6 : (upd He t6 (.tup (vN (subN x y)))) t6 = some (.tup (vN (subN x y))) := upd_same
    generalize upd He t6 (.tup (vN (subN x y))) = Hf at *
    have G6 := G5.trans g6
    have osb := subN_ok ox oy
    refine ⟨_, rfl, _, t6, py, subN x y, y, rfl, (SqT.of e6), (G6.tup hy), (Int.ne_of_gt (Int.mul_pos osb.pos oy.pos)), osb.za.mono, osb.zb.mono, osb.zc.mono, oy.za.mono, oy.zb.mono, oy.zc.mono, fun t7 ht7 => ?_⟩
    have g7 := Same.new ht7 (.tup (vN (addN (subN x y) y)))
    have e7 : (upd Hf t7 (.tup (vN (addN (subN x y) y)))) t7 = some (.tup (vN (addN (subN x y) y))) := upd_same
    generalize upd Hf t7 (.tup (vN (addN (subN x y) y))) = Hg at *
    have G7 := G6.trans g7
    refine ⟨_, rfl, dN _, dN _, NumAt.dp ⟨_, rfl, SqT.of e7⟩, NumAt.dp ⟨_, rfl, G7.tup hx⟩, shaped_dN _, shaped_dN _, _, rfl, ?_⟩
    rw [back_goes ox oy, eqv_self (shaped_dN _)]
    exact hq _ G7
  replace hx := f4.tup hx
  replace hw := f4.tup hw
  have F4 := F3.trans f4
  refine ⟨_, rfl, smallB rfl, fun t8 ht8 => ?_⟩
  have g8 := Same.new ht8 (.tup [V.int 0, V.int 0, V.int 1])
  have e8 : (upd H4 t8 (.tup [V.int 0, V.int 0, V.int 1])) t8 = some (.tup [V.int 0, V.int 0, V.int 1]) := upd_same
  generalize upd H4 t8 (.tup [V.int 0, V.int 0, V.int 1]) = Hh at *
  have G8 := g8
  
  refine ⟨dN w, dN zeroN, NumAt.dp ⟨_, rfl, G8.tup hw⟩, NumAt.dp ⟨_, rfl, SqT.of e8⟩, shaped_dN _, shaped_dN _, _, rfl, ?_⟩
  rw [dN_eqv]
  refine ite2 (fun ct => ?_) (fun ct => ?_)
  · exact q _ (F4.trans G8)
  have hne : w ≠ zeroN := of_decide_eq_false (Bool.eq_false_iff.mpr ct)
  obtain ⟨hb, hm⟩ := ov_mul Ir zr ox ow hne
  have oov := ovN_ok zr ox ow hb
  refine ⟨_, rfl, _, rfl, _, rfl, _, rfl, r, px, pz, x, w, rfl, G8.tup hx, G8.tup hw, Int.ne_of_gt ox.pos, hb, zr.mono, ox.za.mono, ox.zb.mono, ox.zc.mono, ow.za.mono, ow.zb.mono, ow.zc.mono, fun t9 ht9 => ?_⟩
  have g9 := Same.new ht9 (.tup (vN (ovN r x w)))
  have e9 : (upd Hh t9 (.tup (vN (ovN r x w)))) t9 = some (.tup (vN (ovN r x w))) := upd_same
  generalize upd Hh t9 (.tup (vN (ovN r x w))) = Hi at *
  have G9 := G8.trans g9
  
  refine ⟨_, rfl, r, t9, pz, ovN r x w, w, rfl, (SqT.of e9), (G9.tup hw), (Int.ne_of_gt (Int.mul_pos oov.pos ow.pos)), zr.mono, oov.za.mono, oov.zb.mono, oov.zc.mono, ow.za.mono, ow.zb.mono, ow.zc.mono, fun t10 ht10 => ?_⟩
  have g10 := Same.new ht10 (.tup (vN (mulN r (ovN r x w) w)))
  have e10 : (upd Hi t10 (.tup (vN (mulN r (ovN r x w) w)))) t10 = some (.tup (vN (mulN r (ovN r x w) w))) := upd_same
  generalize upd Hi t10 (.tup (vN (mulN r (ovN r x w) w))) = Hj at *
  have G10 := G9.trans g10
  
  refine ⟨_, rfl, dN _, dN _, NumAt.dp ⟨_, rfl, SqT.of e10⟩, NumAt.dp ⟨_, rfl, G10.tup hx⟩, shaped_dN _, shaped_dN _, ?_⟩
  rw [hm, eqv_self (shaped_dN _)]
  exact q _ (F4.trans G10)
theorem sc_law : FnScope ["_law_script", "_law_k", "_law_box_here", "_law_root_here", "_law_one", "_law_other", "_law_third", "_law_found", "_law_turn"] ["_law_script"] (defScope s_law) := ⟨rfl, rfl, rfl, by decide +kernel, rfl, by decide +kernel, by decide +kernel⟩
set_option maxHeartbeats 4000000 in
theorem ok_law {f : Addr} {fd : FuncData} {n : Nat}  (F : Fun K "law" "law" s_law f fd) (C__law_box : Cal P w K mg base n "_law_box" ["_law_script", "_law_k"] (spBox K)) (C__law_root : Cal P w K mg base n "_law_root" ["_law_box_here"] spRoot) (C_less : Cal P w K mg base n "less" ["root", "one", "other"] (spLessP K)) (C__law_any : Cal P w K mg base n "_law_any" ["_law_box_here", "_law_root_here"] (spAny K)) (C_floor_of : Cal P w K mg base n "floor_of" ["root", "one"] (spFloor K)) (C_simplest : Cal P w K mg base n "simplest" ["root", "one", "other"] (spSimplest K)) (C__law_ordered : Cal P w K mg base n "_law_ordered" ["_law_root_here", "_law_one", "_law_other", "_law_third"] (spOrdered K)) (C__law_reckoned : Cal P w K mg base n "_law_reckoned" ["_law_root_here", "_law_one", "_law_other", "_law_third"] (spReckoned K)) (C_plus : Cal P w K mg base n "plus" ["root", "one", "other"] (spPlusP K)) (m_range : mg "range" = none) (m_max : mg "max" = none) (m_min : mg "min" = none) (m_len : mg "len" = none) :
    FnOk P w K mg base CX0 (n + 1) f fd ["_law_script"] (spLaw K) := by
  obtain ⟨f__law_box, fd__law_box, G__law_box, b__law_box, k__law_box, m__law_box⟩ := C__law_box.ex
  obtain ⟨f__law_root, fd__law_root, G__law_root, b__law_root, k__law_root, m__law_root⟩ := C__law_root.ex
  obtain ⟨f_less, fd_less, G_less, b_less, k_less, m_less⟩ := C_less.ex
  obtain ⟨f__law_any, fd__law_any, G__law_any, b__law_any, k__law_any, m__law_any⟩ := C__law_any.ex
  obtain ⟨f_floor_of, fd_floor_of, G_floor_of, b_floor_of, k_floor_of, m_floor_of⟩ := C_floor_of.ex
  obtain ⟨f_simplest, fd_simplest, G_simplest, b_simplest, k_simplest, m_simplest⟩ := C_simplest.ex
  obtain ⟨f__law_ordered, fd__law_ordered, G__law_ordered, b__law_ordered, k__law_ordered, m__law_ordered⟩ := C__law_ordered.ex
  obtain ⟨f__law_reckoned, fd__law_reckoned, G__law_reckoned, b__law_reckoned, k__law_reckoned, m__law_reckoned⟩ := C__law_reckoned.ex
  obtain ⟨f_plus, fd_plus, G_plus, b_plus, k_plus, m_plus⟩ := C_plus.ex
  refine F.ok sc_law (fun vs H Q E h => ?_) (fun cdv A outer s H vs Q E hr h => ?_)
  · obtain ⟨a, ns, rfl, _⟩ := h
    rfl
  obtain ⟨a, ns, rfl, hS, h63, q⟩ := h
  refine ⟨_, (pss_cons (ps_for PassesOwn.never (by rfl) (pi_range1 (by rfl) m_range (pa_cons (pe_callB (call_max2 rfl) (by rfl) m_max (by decide +kernel) (pa_cons pe_int (pa_cons (pe_callB (call_min2 rfl) (by rfl) m_min (by decide +kernel) (pa_cons (pe_callB call_len_seq (by rfl) m_len (by decide +kernel) (pa_cons (pv 0) pa_nil)) (pa_cons pe_int pa_nil))) pa_nil))) pa_nil)) (pg_name (i := 1) sc_law.nd rfl (by first | exact Or.inl rfl | exact Or.inr rfl)) (pss_cons (ps_set (i := 2) sc_law.nd rfl (by first | exact Or.inl rfl | exact Or.inr rfl) (pe_call G__law_box hr (by rfl) m__law_box k__law_box b__law_box .nil pass0 (pa_cons (pv 0) (pa_cons (pv 1) pa_nil))))
      (pss_cons (ps_set (i := 3) sc_law.nd rfl (by first | exact Or.inl rfl | exact Or.inr rfl) (pe_call G__law_root hr (by rfl) m__law_root k__law_root b__law_root .nil pass0 (pa_cons (pv 2) pa_nil)))
      (pss_cons (ps_asg (pe_lc (own := [("_law_turn", 8)]) (g := gName 8) (by rfl) sc_law.nd (pi_range1 (by rfl) m_range (pa_cons pe_int pa_nil)) (blkOk_by (own := [("_law_turn", 8)]) (N := ["_law_script", "_law_k", "_law_box_here", "_law_root_here", "_law_one", "_law_other", "_law_third", "_law_found", "_law_turn"]) (sc := defScope s_law) (by decide +kernel)) (fun _ _ _ _ _ => (pg_name (i := 8) sc_law.nd rfl (by first | exact Or.inl rfl | exact Or.inr rfl))) (fun _ _ _ _ _ => pts_nil) (fun _ _ _ _ _ => (pe_call G__law_any hr (by rfl) m__law_any k__law_any b__law_any .nil pass0 (pa_cons (pv 2) (pa_cons (pv 3) pa_nil))))) (pg_lst (n := 3) (by rfl) (pgs_cons (pg_name (i := 4) sc_law.nd rfl (by first | exact Or.inl rfl | exact Or.inr rfl)) (pgs_cons (pg_name (i := 5) sc_law.nd rfl (by first | exact Or.inl rfl | exact Or.inr rfl)) (pgs_cons (pg_name (i := 6) sc_law.nd rfl (by first | exact Or.inl rfl | exact Or.inr rfl)) pgs_nil)))))
      (pss_cons (ps_if (PW.pt (pw_or (pt_not (pt_val (pe_call G__law_ordered hr (by rfl) m__law_ordered k__law_ordered b__law_ordered .nil pass0 (pa_cons (pv 3) (pa_cons (pv 4) (pa_cons (pv 5) (pa_cons (pv 6) pa_nil))))))) (pw_or1 (pt_not (pt_val (pe_call G__law_reckoned hr (by rfl) m__law_reckoned k__law_reckoned b__law_reckoned .nil pass0 (pa_cons (pv 3) (pa_cons (pv 4) (pa_cons (pv 5) (pa_cons (pv 6) pa_nil)))))))))) (pss_one (ps_ret pe_bl)) pss_nil)
      (pss_cons (ps_if (pt_cmpR op_ne (pe_call G_floor_of hr (by rfl) m_floor_of k_floor_of b_floor_of .nil pass0 (pa_cons (pv 3) (pa_cons (pe_call G_plus hr (by rfl) m_plus k_plus b_plus .nil pass0 (pa_cons (pv 3) (pa_cons (pv 4) (pa_cons (pe_tup (pa_cons pe_int (pa_cons pe_int (pa_cons pe_int pa_nil)))) pa_nil)))) pa_nil))) (pe_op op_add (pe_call G_floor_of hr (by rfl) m_floor_of k_floor_of b_floor_of .nil pass0 (pa_cons (pv 3) (pa_cons (pv 4) pa_nil))) pe_int) (nomark _)) (pss_one (ps_ret pe_bl)) pss_nil)
      (pss_one (ps_if (pt_val (pe_call G_less hr (by rfl) m_less k_less b_less .nil pass0 (pa_cons (pv 3) (pa_cons (pv 4) (pa_cons (pv 5) pa_nil))))) (pss_cons (ps_set (i := 7) sc_law.nd rfl (by first | exact Or.inl rfl | exact Or.inr rfl) (pe_call G_simplest hr (by rfl) m_simplest k_simplest b_simplest .nil pass0 (pa_cons (pv 3) (pa_cons (pv 4) (pa_cons (pv 5) pa_nil)))))
      (pss_one (ps_if (PW.pt (pw_or (pt_not (pt_val (pe_call G_less hr (by rfl) m_less k_less b_less .nil pass0 (pa_cons (pv 3) (pa_cons (pv 4) (pa_cons (pv 7) pa_nil)))))) (pw_or1 (pt_not (pt_val (pe_call G_less hr (by rfl) m_less k_less b_less .nil pass0 (pa_cons (pv 3) (pa_cons (pv 7) (pa_cons (pv 5) pa_nil))))))))) (pss_one (ps_ret pe_bl)) pss_nil))) pss_nil))))))))
      (pss_one (ps_ret pe_bl))), ?_⟩
  obtain ⟨m, hm, hm0, hm1⟩ : ∃ m : Int, (if (if (6 : Int) < ((ns.map V.int).length : Int) then (6 : Int) else ((ns.map V.int).length : Int)) > 1 then (if (6 : Int) < ((ns.map V.int).length : Int) then (6 : Int) else ((ns.map V.int).length : Int)) else 1) = m ∧ 0 ≤ m ∧ m ≤ 6 := by
    have hL : 0 ≤ ((ns.map V.int).length : Int) := Int.natCast_nonneg _
    generalize ((ns.map V.int).length : Int) = L at hL
    refine ⟨_, rfl, ?_, ?_⟩ <;> (repeat' split) <;> omega
  refine ⟨_, rfl, a, _, rfl, .inl hS, _, _, rfl, _, _, rfl, ?_⟩
  
  refine ⟨m, by rw [← hm], by omega, by omega, for_range (n := m.toNat) (fun i σ H' => Same H H' ∧ ∃ v1 v2 v3 v4 v5 v6 v7 v8 : Option V, σ = [some (.ref a), v1, v2, v3, v4, v5, v6, v7, v8]) ⟨Same.refl H, _, _, _, _, _, _, _, _, rfl⟩ ?_ ?_⟩
  case refine_2 =>
    rintro σ H1 ⟨g1, v1, v2, v3, v4, v5, v6, v7, v8, rfl⟩
    exact q H1
  rintro i σ H1 hi ⟨g1, v1, v2, v3, v4, v5, v6, v7, v8, rfl⟩
  refine ⟨_, rfl, _, rfl, a, ns, _, rfl, g1.seq hS, h63, by omega, by omega, fun p n H2 hp0 g2 hp => ?_⟩
  refine ⟨_, rfl, p, n, rfl, hp, fun r n2 H3 hR x3 hp3 => ?_⟩
  have Ir := Num.Root.irr hR
  have zr : Sz 10 r := Root.sz hR
  have s3 : Same H H3 := SameX.same (g1.free hp0) (g1.trans g2) x3
  have f3 : H p = none := g1.free hp0
  refine ⟨3, rfl, by decide, by decide, fun D hD => lc_range (lo := 0) (n := 3) (fun i H' => ∃ acc pts n', H' D = some (.lst acc) ∧ Nums K H' acc pts ∧ pts.length = i ∧ (∀ x ∈ pts, Few r x) ∧ SameX p H3 H' ∧ H' p = some (.lst [.int n']))
    ⟨[], [], n2, upd_same, Nums.nil, rfl, (fun x m => nomatch m), (Same.new hD _).x p, (Same.new hD _) _ _ hp3⟩ ?_ ?_⟩
  · rintro j H' hj ⟨acc, pts, n', hA, hAn, hl, hpt, sx, hp'⟩
    refine ⟨rfl, ?_⟩
    refine ⟨_, rfl, _, rfl, p, n', r, rfl, hp', hR, fun v x n4 H7 few sx7 hp7 hv => ?_⟩
    have nDp : D ≠ p := ne_of_none hp3 hD |>.symm
    have hA7 : H7 D = some (.lst acc) := sx7 _ _ hA nDp
    refine ⟨acc, hA7, small1000 (by rw [hAn.1, hl]; omega), acc ++ [v], pts ++ [x], n4, upd_same, ?_, by rw [List.length_append, hl]; rfl, ?_, ?_, ?_⟩
    · exact Nums.snoc ((hAn.monoX sx7 hp').monoX (SameX.upd _) hA7) (hv.monoX (SameX.upd _) hA7)
    · intro y hy
      rcases List.mem_append.mp hy with hy | hy
      · exact hpt y hy
      · rw [List.mem_singleton.mp hy]
        exact few
    · intro b o hb hne
      rw [upd_ne (ne_of_none hb hD)]
      exact (sx.trans sx7) b o hb hne
    · rw [upd_ne nDp.symm]
      exact hp7
  rintro H7 ⟨acc, pts, n', hA, hAn, hl, hpt, sx, hp7⟩
  obtain ⟨_, _, _, x, y, w, rfl, rfl, ⟨px, rfl, hx⟩, ⟨py, rfl, hy⟩, ⟨pz, rfl, hw⟩⟩ := hAn.three hl
  have fx := hpt x (List.mem_cons_self)
  have fy := hpt y (List.mem_cons_of_mem _ List.mem_cons_self)
  have fw := hpt w (List.mem_cons_of_mem _ (List.mem_cons_of_mem _ List.mem_cons_self))
  have s7 : Same H H7 := SameX.same f3 s3 sx
  refine ⟨D, _, rfl, SqL.of hA, rfl, ?_⟩
  refine ⟨_, _, rfl, _, _, rfl, _, _, rfl, rfl, ?_⟩
  refine ⟨_, rfl, _, rfl, _, rfl, _, rfl, r, px, py, pz, x, y, w, rfl, hx, hy, hw, hR, fx.ok, fy.ok, fw.ok, fun H8 g8 => ⟨_, rfl, iteF ?_⟩⟩
  refine ⟨_, rfl, _, rfl, _, rfl, _, rfl, r, px, py, pz, x, y, w, rfl, g8.tup hx, g8.tup hy, g8.tup hw, hR, fx.ok, fy.ok, fw.ok, fun H9 g9 => ⟨_, rfl, iteF ?_⟩⟩
  replace hx := (g8.trans g9).tup hx
  replace hy := (g8.trans g9).tup hy
  have s9 := s7.trans (g8.trans g9)
  have ox := fx.ok
  have oy := fy.ok
  have o1 := one_ok r 1 (by decide)
  have oa := addN_ok ox o1
  refine ⟨_, rfl, _, rfl, _, rfl, smallB rfl, fun t1 ht1 => ?_⟩
  have g1 := Same.new ht1 (.tup [V.int 1, V.int 0, V.int 1])
  have e1 : (upd H9 t1 (.tup [V.int 1, V.int 0, V.int 1])) t1 = some (.tup [V.int 1, V.int 0, V.int 1]) := upd_same
  generalize upd H9 t1 (.tup [V.int 1, V.int 0, V.int 1]) = H10 at *
  
  refine ⟨_, px, t1, x, oneN, rfl, (g1.tup hx), (SqT.of e1), (Int.ne_of_gt (Int.mul_pos ox.pos o1.pos)), ox.za.mono, ox.zb.mono, ox.zc.mono, o1.za.mono, o1.zb.mono, o1.zc.mono, fun t2 ht2 => ?_⟩
  have g2 := Same.new ht2 (.tup (vN (addN x oneN)))
  have e2 : (upd H10 t2 (.tup (vN (addN x oneN)))) t2 = some (.tup (vN (addN x oneN))) := upd_same
  generalize upd H10 t2 (.tup (vN (addN x oneN))) = H11 at *
  
  refine ⟨r, t2, (addN x oneN).1, (addN x oneN).2.1, (addN x oneN).2.2, rfl, SqT.of e2, Ir.1, zr.mono, oa.zb.mono, oa.pos, oa.zc.mono, fun F' hF' => ?_⟩
  replace hx := (g1.trans g2).tup hx
  replace hy := (g1.trans g2).tup hy
  have s11 := s9.trans (g1.trans g2)
  refine ⟨_, rfl, _, rfl, r, px, x.1, x.2.1, x.2.2, rfl, hx, Ir.1, zr.mono, ox.zb.mono, ox.pos, ox.zc.mono, fun F hF => ?_⟩
  refine ⟨_, _, rfl, rfl, rfl, _, rfl, ?_⟩
  rw [floor_up hR ox hF hF', decide_eq_true rfl]
  refine iteF ?_
  refine ⟨_, rfl, _, rfl, _, rfl, r, px, py, x, y, rfl, hx, hy, zr.mono, ox.za.mono, ox.zb.mono, ox.zc.mono, oy.za.mono, oy.zb.mono, oy.zc.mono, _, rfl, ?_⟩
  refine ite2 (fun ct => ?_) (fun _ => ?_)
  case refine_2 => exact ⟨s11, _, _, _, _, _, _, _, _, rfl⟩
  have hlt := (ltN_iff Ir ox oy).mp ct
  refine ⟨_, rfl, _, rfl, _, rfl, r, px, py, x, y, rfl, hx, hy, hR, fx, fy, hlt, fun u T B H12 g12 hu hB zT zB l1 l2 => ?_⟩
  have c1 : ltN r x (T, 0, B) = true := (ltN_w Ir ox.pos hB ox.root (fun _ => rfl)).mpr l1
  have c2 : ltN r (T, 0, B) y = true := (ltN_w Ir hB oy.pos (fun _ => rfl) oy.root).mpr l2
  refine ⟨_, rfl, _, rfl, _, rfl, r, px, u, x, (T, 0, B), rfl, g12.tup hx, SqT.of hu, zr.mono, ox.za.mono, ox.zb.mono, ox.zc.mono, zT.mono, Sz.zero, zB.mono, _, rfl, ?_⟩
  rw [c1]
  refine iteF ?_
  refine ⟨_, rfl, _, rfl, _, rfl, r, u, py, (T, 0, B), y, rfl, SqT.of hu, g12.tup hy, zr.mono, zT.mono, Sz.zero, zB.mono, oy.za.mono, oy.zb.mono, oy.zc.mono, _, rfl, ?_⟩
  rw [c2]
  refine iteF ?_
  exact ⟨s11.trans g12, _, _, _, _, _, _, _, _, rfl⟩
end
set_option maxHeartbeats 4000000 in
theorem all_mk {l : PySem.W.OpenLaw} {w : World} {K : PySem.W.Frag} {h : Heap} {mg : Str → Option Value} {fa f__law_cell f__law_box f__law_take f__law_root f_is_below_zero f_less f__law_low f__law_any f_floor_of_square_root f_floor_of_roots f_floor_of f_put_together f_divisor_of_both f_divisor_of_all f_in_lowest_terms f_minus f_over f_turned_rests f_simplest f_plus f_times f__law_ordered f__law_reckoned f_law : Addr} (X : K.In h) (G : h.Ns mainGlobals mg) (hfa : mg "law" = some (.ref fa))
    {od__law_cell an__law_cell od__law_box an__law_box od__law_take an__law_take od__law_root an__law_root od_is_below_zero an_is_below_zero od_less an_less od__law_low an__law_low od__law_any an__law_any od_floor_of_square_root an_floor_of_square_root od_floor_of_roots an_floor_of_roots od_floor_of an_floor_of od_put_together an_put_together od_divisor_of_both an_divisor_of_both od_divisor_of_all an_divisor_of_all od_in_lowest_terms an_in_lowest_terms od_minus an_minus od_over an_over od_turned_rests an_turned_rests od_simplest an_simplest od_plus an_plus od_times an_times od__law_ordered an__law_ordered od__law_reckoned an__law_reckoned od_law an_law : Option Addr} {sl__law_cell sl__law_box sl__law_take sl__law_root sl_is_below_zero sl_less sl__law_low sl__law_any sl_floor_of_square_root sl_floor_of_roots sl_floor_of sl_put_together sl_divisor_of_both sl_divisor_of_all sl_in_lowest_terms sl_minus sl_over sl_turned_rests sl_simplest sl_plus sl_times sl__law_ordered sl__law_reckoned sl_law : Array (Option Value)} {oc__law_cell kV__law_cell dc__law_cell pm__law_cell cd__law_cell ct__law_cell oc__law_box kV__law_box dc__law_box pm__law_box cd__law_box ct__law_box oc__law_take kV__law_take dc__law_take pm__law_take cd__law_take ct__law_take oc__law_root kV__law_root dc__law_root pm__law_root cd__law_root ct__law_root oc_is_below_zero kV_is_below_zero dc_is_below_zero pm_is_below_zero cd_is_below_zero ct_is_below_zero oc_less kV_less dc_less pm_less cd_less ct_less oc__law_low kV__law_low dc__law_low pm__law_low cd__law_low ct__law_low oc__law_any kV__law_any dc__law_any pm__law_any cd__law_any ct__law_any oc_floor_of_square_root kV_floor_of_square_root dc_floor_of_square_root pm_floor_of_square_root cd_floor_of_square_root ct_floor_of_square_root oc_floor_of_roots kV_floor_of_roots dc_floor_of_roots pm_floor_of_roots cd_floor_of_roots ct_floor_of_roots oc_floor_of kV_floor_of dc_floor_of pm_floor_of cd_floor_of ct_floor_of oc_put_together kV_put_together dc_put_together pm_put_together cd_put_together ct_put_together oc_divisor_of_both kV_divisor_of_both dc_divisor_of_both pm_divisor_of_both cd_divisor_of_both ct_divisor_of_both oc_divisor_of_all kV_divisor_of_all dc_divisor_of_all pm_divisor_of_all cd_divisor_of_all ct_divisor_of_all oc_in_lowest_terms kV_in_lowest_terms dc_in_lowest_terms pm_in_lowest_terms cd_in_lowest_terms ct_in_lowest_terms oc_minus kV_minus dc_minus pm_minus cd_minus ct_minus oc_over kV_over dc_over pm_over cd_over ct_over oc_turned_rests kV_turned_rests dc_turned_rests pm_turned_rests cd_turned_rests ct_turned_rests oc_simplest kV_simplest dc_simplest pm_simplest cd_simplest ct_simplest oc_plus kV_plus dc_plus pm_plus cd_plus ct_plus oc_times kV_times dc_times pm_times cd_times ct_times oc__law_ordered kV__law_ordered dc__law_ordered pm__law_ordered cd__law_ordered ct__law_ordered oc__law_reckoned kV__law_reckoned dc__law_reckoned pm__law_reckoned cd__law_reckoned ct__law_reckoned oc_law kV_law dc_law pm_law cd_law ct_law : Value}
    {zZ zO : Addr} {odZ odO : Option Addr} {tz0 tz1 tz2 to0 to1 to2 : Tok} {nZ nO : Nat} {slZ slO : Array (Option Value)}
    (a__law_cell : PySem.W.nsIn K mainGlobals "_law_cell" = some (some (.ref f__law_cell))) (l__law_cell : K.lookup f__law_cell = some ⟨oc__law_cell, od__law_cell, .func (PySem.W.fnOf "_law_cell" "_law_cell" (defArgs s__law_cell) (defBody s__law_cell) (defScope s__law_cell) .none kV__law_cell dc__law_cell pm__law_cell an__law_cell cd__law_cell ct__law_cell), sl__law_cell⟩) (c__law_cell : PySem.W.codeIn K cd__law_cell "_law_cell" = true) (k__law_cell : PySem.W.keepIn K (.ref f__law_cell) = true)
    (a__law_box : PySem.W.nsIn K mainGlobals "_law_box" = some (some (.ref f__law_box))) (l__law_box : K.lookup f__law_box = some ⟨oc__law_box, od__law_box, .func (PySem.W.fnOf "_law_box" "_law_box" (defArgs s__law_box) (defBody s__law_box) (defScope s__law_box) .none kV__law_box dc__law_box pm__law_box an__law_box cd__law_box ct__law_box), sl__law_box⟩) (c__law_box : PySem.W.codeIn K cd__law_box "_law_box" = true) (k__law_box : PySem.W.keepIn K (.ref f__law_box) = true)
    (a__law_take : PySem.W.nsIn K mainGlobals "_law_take" = some (some (.ref f__law_take))) (l__law_take : K.lookup f__law_take = some ⟨oc__law_take, od__law_take, .func (PySem.W.fnOf "_law_take" "_law_take" (defArgs s__law_take) (defBody s__law_take) (defScope s__law_take) .none kV__law_take dc__law_take pm__law_take an__law_take cd__law_take ct__law_take), sl__law_take⟩) (c__law_take : PySem.W.codeIn K cd__law_take "_law_take" = true) (k__law_take : PySem.W.keepIn K (.ref f__law_take) = true)
    (a__law_root : PySem.W.nsIn K mainGlobals "_law_root" = some (some (.ref f__law_root))) (l__law_root : K.lookup f__law_root = some ⟨oc__law_root, od__law_root, .func (PySem.W.fnOf "_law_root" "_law_root" (defArgs s__law_root) (defBody s__law_root) (defScope s__law_root) .none kV__law_root dc__law_root pm__law_root an__law_root cd__law_root ct__law_root), sl__law_root⟩) (c__law_root : PySem.W.codeIn K cd__law_root "_law_root" = true) (k__law_root : PySem.W.keepIn K (.ref f__law_root) = true)
    (a_is_below_zero : PySem.W.nsIn K mainGlobals "is_below_zero" = some (some (.ref f_is_below_zero))) (l_is_below_zero : K.lookup f_is_below_zero = some ⟨oc_is_below_zero, od_is_below_zero, .func (PySem.W.fnOf "is_below_zero" "is_below_zero" (defArgs s_is_below_zero) (defBody s_is_below_zero) (defScope s_is_below_zero) .none kV_is_below_zero dc_is_below_zero pm_is_below_zero an_is_below_zero cd_is_below_zero ct_is_below_zero), sl_is_below_zero⟩) (c_is_below_zero : PySem.W.codeIn K cd_is_below_zero "is_below_zero" = true) (k_is_below_zero : PySem.W.keepIn K (.ref f_is_below_zero) = true)
    (a_less : PySem.W.nsIn K mainGlobals "less" = some (some (.ref f_less))) (l_less : K.lookup f_less = some ⟨oc_less, od_less, .func (PySem.W.fnOf "less" "less" (defArgs s_less) (defBody s_less) (defScope s_less) .none kV_less dc_less pm_less an_less cd_less ct_less), sl_less⟩) (c_less : PySem.W.codeIn K cd_less "less" = true) (k_less : PySem.W.keepIn K (.ref f_less) = true)
    (a__law_low : PySem.W.nsIn K mainGlobals "_law_low" = some (some (.ref f__law_low))) (l__law_low : K.lookup f__law_low = some ⟨oc__law_low, od__law_low, .func (PySem.W.fnOf "_law_low" "_law_low" (defArgs s__law_low) (defBody s__law_low) (defScope s__law_low) .none kV__law_low dc__law_low pm__law_low an__law_low cd__law_low ct__law_low), sl__law_low⟩) (c__law_low : PySem.W.codeIn K cd__law_low "_law_low" = true) (k__law_low : PySem.W.keepIn K (.ref f__law_low) = true)
    (a__law_any : PySem.W.nsIn K mainGlobals "_law_any" = some (some (.ref f__law_any))) (l__law_any : K.lookup f__law_any = some ⟨oc__law_any, od__law_any, .func (PySem.W.fnOf "_law_any" "_law_any" (defArgs s__law_any) (defBody s__law_any) (defScope s__law_any) .none kV__law_any dc__law_any pm__law_any an__law_any cd__law_any ct__law_any), sl__law_any⟩) (c__law_any : PySem.W.codeIn K cd__law_any "_law_any" = true) (k__law_any : PySem.W.keepIn K (.ref f__law_any) = true)
    (a_floor_of_square_root : PySem.W.nsIn K mainGlobals "floor_of_square_root" = some (some (.ref f_floor_of_square_root))) (l_floor_of_square_root : K.lookup f_floor_of_square_root = some ⟨oc_floor_of_square_root, od_floor_of_square_root, .func (PySem.W.fnOf "floor_of_square_root" "floor_of_square_root" (defArgs s_floor_of_square_root) (defBody s_floor_of_square_root) (defScope s_floor_of_square_root) .none kV_floor_of_square_root dc_floor_of_square_root pm_floor_of_square_root an_floor_of_square_root cd_floor_of_square_root ct_floor_of_square_root), sl_floor_of_square_root⟩) (c_floor_of_square_root : PySem.W.codeIn K cd_floor_of_square_root "floor_of_square_root" = true) (k_floor_of_square_root : PySem.W.keepIn K (.ref f_floor_of_square_root) = true)
    (a_floor_of_roots : PySem.W.nsIn K mainGlobals "floor_of_roots" = some (some (.ref f_floor_of_roots))) (l_floor_of_roots : K.lookup f_floor_of_roots = some ⟨oc_floor_of_roots, od_floor_of_roots, .func (PySem.W.fnOf "floor_of_roots" "floor_of_roots" (defArgs s_floor_of_roots) (defBody s_floor_of_roots) (defScope s_floor_of_roots) .none kV_floor_of_roots dc_floor_of_roots pm_floor_of_roots an_floor_of_roots cd_floor_of_roots ct_floor_of_roots), sl_floor_of_roots⟩) (c_floor_of_roots : PySem.W.codeIn K cd_floor_of_roots "floor_of_roots" = true) (k_floor_of_roots : PySem.W.keepIn K (.ref f_floor_of_roots) = true)
    (a_floor_of : PySem.W.nsIn K mainGlobals "floor_of" = some (some (.ref f_floor_of))) (l_floor_of : K.lookup f_floor_of = some ⟨oc_floor_of, od_floor_of, .func (PySem.W.fnOf "floor_of" "floor_of" (defArgs s_floor_of) (defBody s_floor_of) (defScope s_floor_of) .none kV_floor_of dc_floor_of pm_floor_of an_floor_of cd_floor_of ct_floor_of), sl_floor_of⟩) (c_floor_of : PySem.W.codeIn K cd_floor_of "floor_of" = true) (k_floor_of : PySem.W.keepIn K (.ref f_floor_of) = true)
    (a_put_together : PySem.W.nsIn K mainGlobals "put_together" = some (some (.ref f_put_together))) (l_put_together : K.lookup f_put_together = some ⟨oc_put_together, od_put_together, .func (PySem.W.fnOf "put_together" "put_together" (defArgs s_put_together) (defBody s_put_together) (defScope s_put_together) .none kV_put_together dc_put_together pm_put_together an_put_together cd_put_together ct_put_together), sl_put_together⟩) (c_put_together : PySem.W.codeIn K cd_put_together "put_together" = true) (k_put_together : PySem.W.keepIn K (.ref f_put_together) = true)
    (a_divisor_of_both : PySem.W.nsIn K mainGlobals "divisor_of_both" = some (some (.ref f_divisor_of_both))) (l_divisor_of_both : K.lookup f_divisor_of_both = some ⟨oc_divisor_of_both, od_divisor_of_both, .func (PySem.W.fnOf "divisor_of_both" "divisor_of_both" (defArgs s_divisor_of_both) (defBody s_divisor_of_both) (defScope s_divisor_of_both) .none kV_divisor_of_both dc_divisor_of_both pm_divisor_of_both an_divisor_of_both cd_divisor_of_both ct_divisor_of_both), sl_divisor_of_both⟩) (c_divisor_of_both : PySem.W.codeIn K cd_divisor_of_both "divisor_of_both" = true) (k_divisor_of_both : PySem.W.keepIn K (.ref f_divisor_of_both) = true)
    (a_divisor_of_all : PySem.W.nsIn K mainGlobals "divisor_of_all" = some (some (.ref f_divisor_of_all))) (l_divisor_of_all : K.lookup f_divisor_of_all = some ⟨oc_divisor_of_all, od_divisor_of_all, .func (PySem.W.fnOf "divisor_of_all" "divisor_of_all" (defArgs s_divisor_of_all) (defBody s_divisor_of_all) (defScope s_divisor_of_all) .none kV_divisor_of_all dc_divisor_of_all pm_divisor_of_all an_divisor_of_all cd_divisor_of_all ct_divisor_of_all), sl_divisor_of_all⟩) (c_divisor_of_all : PySem.W.codeIn K cd_divisor_of_all "divisor_of_all" = true) (k_divisor_of_all : PySem.W.keepIn K (.ref f_divisor_of_all) = true)
    (a_in_lowest_terms : PySem.W.nsIn K mainGlobals "in_lowest_terms" = some (some (.ref f_in_lowest_terms))) (l_in_lowest_terms : K.lookup f_in_lowest_terms = some ⟨oc_in_lowest_terms, od_in_lowest_terms, .func (PySem.W.fnOf "in_lowest_terms" "in_lowest_terms" (defArgs s_in_lowest_terms) (defBody s_in_lowest_terms) (defScope s_in_lowest_terms) .none kV_in_lowest_terms dc_in_lowest_terms pm_in_lowest_terms an_in_lowest_terms cd_in_lowest_terms ct_in_lowest_terms), sl_in_lowest_terms⟩) (c_in_lowest_terms : PySem.W.codeIn K cd_in_lowest_terms "in_lowest_terms" = true) (k_in_lowest_terms : PySem.W.keepIn K (.ref f_in_lowest_terms) = true)
    (a_minus : PySem.W.nsIn K mainGlobals "minus" = some (some (.ref f_minus))) (l_minus : K.lookup f_minus = some ⟨oc_minus, od_minus, .func (PySem.W.fnOf "minus" "minus" (defArgs s_minus) (defBody s_minus) (defScope s_minus) .none kV_minus dc_minus pm_minus an_minus cd_minus ct_minus), sl_minus⟩) (c_minus : PySem.W.codeIn K cd_minus "minus" = true) (k_minus : PySem.W.keepIn K (.ref f_minus) = true)
    (a_over : PySem.W.nsIn K mainGlobals "over" = some (some (.ref f_over))) (l_over : K.lookup f_over = some ⟨oc_over, od_over, .func (PySem.W.fnOf "over" "over" (defArgs s_over) (defBody s_over) (defScope s_over) .none kV_over dc_over pm_over an_over cd_over ct_over), sl_over⟩) (c_over : PySem.W.codeIn K cd_over "over" = true) (k_over : PySem.W.keepIn K (.ref f_over) = true)
    (a_turned_rests : PySem.W.nsIn K mainGlobals "turned_rests" = some (some (.ref f_turned_rests))) (l_turned_rests : K.lookup f_turned_rests = some ⟨oc_turned_rests, od_turned_rests, .func (PySem.W.fnOf "turned_rests" "turned_rests" (defArgs s_turned_rests) (defBody s_turned_rests) (defScope s_turned_rests) .none kV_turned_rests dc_turned_rests pm_turned_rests an_turned_rests cd_turned_rests ct_turned_rests), sl_turned_rests⟩) (c_turned_rests : PySem.W.codeIn K cd_turned_rests "turned_rests" = true) (k_turned_rests : PySem.W.keepIn K (.ref f_turned_rests) = true)
    (a_simplest : PySem.W.nsIn K mainGlobals "simplest" = some (some (.ref f_simplest))) (l_simplest : K.lookup f_simplest = some ⟨oc_simplest, od_simplest, .func (PySem.W.fnOf "simplest" "simplest" (defArgs s_simplest) (defBody s_simplest) (defScope s_simplest) .none kV_simplest dc_simplest pm_simplest an_simplest cd_simplest ct_simplest), sl_simplest⟩) (c_simplest : PySem.W.codeIn K cd_simplest "simplest" = true) (k_simplest : PySem.W.keepIn K (.ref f_simplest) = true)
    (a_plus : PySem.W.nsIn K mainGlobals "plus" = some (some (.ref f_plus))) (l_plus : K.lookup f_plus = some ⟨oc_plus, od_plus, .func (PySem.W.fnOf "plus" "plus" (defArgs s_plus) (defBody s_plus) (defScope s_plus) .none kV_plus dc_plus pm_plus an_plus cd_plus ct_plus), sl_plus⟩) (c_plus : PySem.W.codeIn K cd_plus "plus" = true) (k_plus : PySem.W.keepIn K (.ref f_plus) = true)
    (a_times : PySem.W.nsIn K mainGlobals "times" = some (some (.ref f_times))) (l_times : K.lookup f_times = some ⟨oc_times, od_times, .func (PySem.W.fnOf "times" "times" (defArgs s_times) (defBody s_times) (defScope s_times) .none kV_times dc_times pm_times an_times cd_times ct_times), sl_times⟩) (c_times : PySem.W.codeIn K cd_times "times" = true) (k_times : PySem.W.keepIn K (.ref f_times) = true)
    (a__law_ordered : PySem.W.nsIn K mainGlobals "_law_ordered" = some (some (.ref f__law_ordered))) (l__law_ordered : K.lookup f__law_ordered = some ⟨oc__law_ordered, od__law_ordered, .func (PySem.W.fnOf "_law_ordered" "_law_ordered" (defArgs s__law_ordered) (defBody s__law_ordered) (defScope s__law_ordered) .none kV__law_ordered dc__law_ordered pm__law_ordered an__law_ordered cd__law_ordered ct__law_ordered), sl__law_ordered⟩) (c__law_ordered : PySem.W.codeIn K cd__law_ordered "_law_ordered" = true) (k__law_ordered : PySem.W.keepIn K (.ref f__law_ordered) = true)
    (a__law_reckoned : PySem.W.nsIn K mainGlobals "_law_reckoned" = some (some (.ref f__law_reckoned))) (l__law_reckoned : K.lookup f__law_reckoned = some ⟨oc__law_reckoned, od__law_reckoned, .func (PySem.W.fnOf "_law_reckoned" "_law_reckoned" (defArgs s__law_reckoned) (defBody s__law_reckoned) (defScope s__law_reckoned) .none kV__law_reckoned dc__law_reckoned pm__law_reckoned an__law_reckoned cd__law_reckoned ct__law_reckoned), sl__law_reckoned⟩) (c__law_reckoned : PySem.W.codeIn K cd__law_reckoned "_law_reckoned" = true) (k__law_reckoned : PySem.W.keepIn K (.ref f__law_reckoned) = true)
    (a_law : PySem.W.nsIn K mainGlobals "law" = some (some (.ref f_law))) (l_law : K.lookup f_law = some ⟨oc_law, od_law, .func (PySem.W.fnOf "law" "law" (defArgs s_law) (defBody s_law) (defScope s_law) .none kV_law dc_law pm_law an_law cd_law ct_law), sl_law⟩) (c_law : PySem.W.codeIn K cd_law "law" = true) (k_law : PySem.W.keepIn K (.ref f_law) = true)
    (z_len : PySem.W.nsIn K mainGlobals "len" = some none)
    (z_range : PySem.W.nsIn K mainGlobals "range" = some none)
    (z_abs : PySem.W.nsIn K mainGlobals "abs" = some none)
    (z_int : PySem.W.nsIn K mainGlobals "int" = some none)
    (z_reversed : PySem.W.nsIn K mainGlobals "reversed" = some none)
    (z_max : PySem.W.nsIn K mainGlobals "max" = some none)
    (z_min : PySem.W.nsIn K mainGlobals "min" = some none)
    (a_ZERO : PySem.W.nsIn K mainGlobals "ZERO" = some (some (.ref zZ)))
    (l_ZERO : K.lookup zZ = some ⟨.type "tuple", odZ, .seq #[.int 0 tz0, .int 0 tz1, .int 1 tz2] nZ, slZ⟩)
    (a_ONE : PySem.W.nsIn K mainGlobals "ONE" = some (some (.ref zO)))
    (l_ONE : K.lookup zO = some ⟨.type "tuple", odO, .seq #[.int 1 to0, .int 0 to1, .int 1 to2] nO, slO⟩)
    : ∃ fd : FuncData, (∀ (s : Shared) (v : Value), BindsTo s fd ⟨[v], []⟩ [("_law_script", v)]) ∧ ∀ base : Heap, K.In base → base.Ns mainGlobals mg → FnOk l.prog w K mg base CX0 7 fa fd ["_law_script"] (spLaw K) := by
  have e := hfa.symm.trans (PySem.W.mg_of X G a_law)
  cases e
  have m_len := PySem.W.mg_none_of X G z_len
  have m_range := PySem.W.mg_none_of X G z_range
  have m_abs := PySem.W.mg_none_of X G z_abs
  have m_int := PySem.W.mg_none_of X G z_int
  have m_reversed := PySem.W.mg_none_of X G z_reversed
  have m_max := PySem.W.mg_none_of X G z_max
  have m_min := PySem.W.mg_none_of X G z_min
  have m_ZERO := PySem.W.mg_of X G a_ZERO
  have hZ : ZeroK K zZ := fun H => .inr ⟨_, _, _, l_ZERO, rfl, rfl, smallB rfl, .cons ⟨_, rfl⟩ (.cons ⟨_, rfl⟩ (.cons ⟨_, rfl⟩ .nil))⟩
  have m_ONE := PySem.W.mg_of X G a_ONE
  have hO : OneK K zO := fun H => .inr ⟨_, _, _, l_ONE, rfl, rfl, smallB rfl, .cons ⟨_, rfl⟩ (.cons ⟨_, rfl⟩ (.cons ⟨_, rfl⟩ .nil))⟩
  have F__law_cell := fun_mk (st := s__law_cell) l__law_cell c__law_cell k__law_cell
  have b__law_cell := F__law_cell.binds (ps := ["_law_script", "_law_k"]) fun _ _ _ _ _ _ us hl => match us, hl with | [_, _], _ => rfl
  have F__law_box := fun_mk (st := s__law_box) l__law_box c__law_box k__law_box
  have b__law_box := F__law_box.binds (ps := ["_law_script", "_law_k"]) fun _ _ _ _ _ _ us hl => match us, hl with | [_, _], _ => rfl
  have F__law_take := fun_mk (st := s__law_take) l__law_take c__law_take k__law_take
  have b__law_take := F__law_take.binds (ps := ["_law_box_here", "_law_many"]) fun _ _ _ _ _ _ us hl => match us, hl with | [_, _], _ => rfl
  have F__law_root := fun_mk (st := s__law_root) l__law_root c__law_root k__law_root
  have b__law_root := F__law_root.binds (ps := ["_law_box_here"]) fun _ _ _ _ _ _ us hl => match us, hl with | [_], _ => rfl
  have F_is_below_zero := fun_mk (st := s_is_below_zero) l_is_below_zero c_is_below_zero k_is_below_zero
  have b_is_below_zero := F_is_below_zero.binds (ps := ["root", "a", "b"]) fun _ _ _ _ _ _ us hl => match us, hl with | [_, _, _], _ => rfl
  have F_less := fun_mk (st := s_less) l_less c_less k_less
  have b_less := F_less.binds (ps := ["root", "one", "other"]) fun _ _ _ _ _ _ us hl => match us, hl with | [_, _, _], _ => rfl
  have F__law_low := fun_mk (st := s__law_low) l__law_low c__law_low k__law_low
  have b__law_low := F__law_low.binds (ps := ["_law_a", "_law_b", "_law_c"]) fun _ _ _ _ _ _ us hl => match us, hl with | [_, _, _], _ => rfl
  have F__law_any := fun_mk (st := s__law_any) l__law_any c__law_any k__law_any
  have b__law_any := F__law_any.binds (ps := ["_law_box_here", "_law_root_here"]) fun _ _ _ _ _ _ us hl => match us, hl with | [_, _], _ => rfl
  have F_floor_of_square_root := fun_mk (st := s_floor_of_square_root) l_floor_of_square_root c_floor_of_square_root k_floor_of_square_root
  have b_floor_of_square_root := F_floor_of_square_root.binds (ps := ["square"]) fun _ _ _ _ _ _ us hl => match us, hl with | [_], _ => rfl
  have F_floor_of_roots := fun_mk (st := s_floor_of_roots) l_floor_of_roots c_floor_of_roots k_floor_of_roots
  have b_floor_of_roots := F_floor_of_roots.binds (ps := ["root", "b"]) fun _ _ _ _ _ _ us hl => match us, hl with | [_, _], _ => rfl
  have F_floor_of := fun_mk (st := s_floor_of) l_floor_of c_floor_of k_floor_of
  have b_floor_of := F_floor_of.binds (ps := ["root", "one"]) fun _ _ _ _ _ _ us hl => match us, hl with | [_, _], _ => rfl
  have F_put_together := fun_mk (st := s_put_together) l_put_together c_put_together k_put_together
  have b_put_together := F_put_together.binds (ps := ["floors", "last"]) fun _ _ _ _ _ _ us hl => match us, hl with | [_, _], _ => rfl
  have F_divisor_of_both := fun_mk (st := s_divisor_of_both) l_divisor_of_both c_divisor_of_both k_divisor_of_both
  have b_divisor_of_both := F_divisor_of_both.binds (ps := ["one", "other"]) fun _ _ _ _ _ _ us hl => match us, hl with | [_, _], _ => rfl
  have F_divisor_of_all := fun_mk (st := s_divisor_of_all) l_divisor_of_all c_divisor_of_all k_divisor_of_all
  have b_divisor_of_all := F_divisor_of_all.binds (ps := ["a", "b", "c"]) fun _ _ _ _ _ _ us hl => match us, hl with | [_, _, _], _ => rfl
  have F_in_lowest_terms := fun_mk (st := s_in_lowest_terms) l_in_lowest_terms c_in_lowest_terms k_in_lowest_terms
  have b_in_lowest_terms := F_in_lowest_terms.binds (ps := ["a", "b", "c"]) fun _ _ _ _ _ _ us hl => match us, hl with | [_, _, _], _ => rfl
  have F_minus := fun_mk (st := s_minus) l_minus c_minus k_minus
  have b_minus := F_minus.binds (ps := ["root", "one", "other"]) fun _ _ _ _ _ _ us hl => match us, hl with | [_, _, _], _ => rfl
  have F_over := fun_mk (st := s_over) l_over c_over k_over
  have b_over := F_over.binds (ps := ["root", "one", "other"]) fun _ _ _ _ _ _ us hl => match us, hl with | [_, _, _], _ => rfl
  have F_turned_rests := fun_mk (st := s_turned_rests) l_turned_rests c_turned_rests k_turned_rests
  have b_turned_rests := F_turned_rests.binds (ps := ["root", "low", "high", "first"]) fun _ _ _ _ _ _ us hl => match us, hl with | [_, _, _, _], _ => rfl
  have F_simplest := fun_mk (st := s_simplest) l_simplest c_simplest k_simplest
  have b_simplest := F_simplest.binds (ps := ["root", "one", "other"]) fun _ _ _ _ _ _ us hl => match us, hl with | [_, _, _], _ => rfl
  have F_plus := fun_mk (st := s_plus) l_plus c_plus k_plus
  have b_plus := F_plus.binds (ps := ["root", "one", "other"]) fun _ _ _ _ _ _ us hl => match us, hl with | [_, _, _], _ => rfl
  have F_times := fun_mk (st := s_times) l_times c_times k_times
  have b_times := F_times.binds (ps := ["root", "one", "other"]) fun _ _ _ _ _ _ us hl => match us, hl with | [_, _, _], _ => rfl
  have F__law_ordered := fun_mk (st := s__law_ordered) l__law_ordered c__law_ordered k__law_ordered
  have b__law_ordered := F__law_ordered.binds (ps := ["_law_root_here", "_law_one", "_law_other", "_law_third"]) fun _ _ _ _ _ _ us hl => match us, hl with | [_, _, _, _], _ => rfl
  have F__law_reckoned := fun_mk (st := s__law_reckoned) l__law_reckoned c__law_reckoned k__law_reckoned
  have b__law_reckoned := F__law_reckoned.binds (ps := ["_law_root_here", "_law_one", "_law_other", "_law_third"]) fun _ _ _ _ _ _ us hl => match us, hl with | [_, _, _, _], _ => rfl
  have F_law := fun_mk (st := s_law) l_law c_law k_law
  refine ⟨PySem.W.fnOf "law" "law" (defArgs s_law) (defBody s_law) (defScope s_law) .none kV_law dc_law pm_law an_law cd_law ct_law, fun s v => .of_eq rfl, fun base kb nb => ?_⟩
  have C__law_cell : Cal l.prog w K mg base 1 "_law_cell" ["_law_script", "_law_k"] (spCell K) := ⟨⟨_, _, ok__law_cell (n := 0) F__law_cell m_len, b__law_cell, k__law_cell, PySem.W.mg_of X G a__law_cell⟩⟩
  have C__law_box : Cal l.prog w K mg base 2 "_law_box" ["_law_script", "_law_k"] (spBox K) := ⟨⟨_, _, ok__law_box (n := 1) F__law_box (C__law_cell.mono) m_range, b__law_box, k__law_box, PySem.W.mg_of X G a__law_box⟩⟩
  have C__law_take : Cal l.prog w K mg base 1 "_law_take" ["_law_box_here", "_law_many"] spTake := ⟨⟨_, _, ok__law_take (n := 0) F__law_take, b__law_take, k__law_take, PySem.W.mg_of X G a__law_take⟩⟩
  have C__law_root : Cal l.prog w K mg base 2 "_law_root" ["_law_box_here"] spRoot := ⟨⟨_, _, ok__law_root (n := 1) F__law_root (C__law_take.mono), b__law_root, k__law_root, PySem.W.mg_of X G a__law_root⟩⟩
  have C_is_below_zero : Cal l.prog w K mg base 1 "is_below_zero" ["root", "a", "b"] spBelow := ⟨⟨_, _, ok_is_below_zero (n := 0) F_is_below_zero, b_is_below_zero, k_is_below_zero, PySem.W.mg_of X G a_is_below_zero⟩⟩
  have C_less : Cal l.prog w K mg base 2 "less" ["root", "one", "other"] (spLessP K) := ⟨⟨_, _, ok_less (n := 1) F_less (C_is_below_zero.mono), b_less, k_less, PySem.W.mg_of X G a_less⟩⟩
  have C__law_low : Cal l.prog w K mg base 1 "_law_low" ["_law_a", "_law_b", "_law_c"] spLow := ⟨⟨_, _, ok__law_low (n := 0) F__law_low m_abs, b__law_low, k__law_low, PySem.W.mg_of X G a__law_low⟩⟩
  have C__law_any : Cal l.prog w K mg base 2 "_law_any" ["_law_box_here", "_law_root_here"] (spAny K) := ⟨⟨_, _, ok__law_any (n := 1) F__law_any (C__law_low.mono) (C__law_take.mono) m_int, b__law_any, k__law_any, PySem.W.mg_of X G a__law_any⟩⟩
  have C_floor_of_square_root : Cal l.prog w K mg base 1 "floor_of_square_root" ["square"] spSqrt := ⟨⟨_, _, ok_floor_of_square_root (n := 0) F_floor_of_square_root, b_floor_of_square_root, k_floor_of_square_root, PySem.W.mg_of X G a_floor_of_square_root⟩⟩
  have C_floor_of_roots : Cal l.prog w K mg base 2 "floor_of_roots" ["root", "b"] spRoots := ⟨⟨_, _, ok_floor_of_roots (n := 1) F_floor_of_roots (C_floor_of_square_root.mono), b_floor_of_roots, k_floor_of_roots, PySem.W.mg_of X G a_floor_of_roots⟩⟩
  have C_floor_of : Cal l.prog w K mg base 3 "floor_of" ["root", "one"] (spFloor K) := ⟨⟨_, _, ok_floor_of (n := 2) F_floor_of (C_floor_of_roots.mono), b_floor_of, k_floor_of, PySem.W.mg_of X G a_floor_of⟩⟩
  have C_put_together : Cal l.prog w K mg base 1 "put_together" ["floors", "last"] (spPut K) := ⟨⟨_, _, ok_put_together (n := 0) F_put_together m_reversed, b_put_together, k_put_together, PySem.W.mg_of X G a_put_together⟩⟩
  have C_divisor_of_both : Cal l.prog w K mg base 1 "divisor_of_both" ["one", "other"] spGcd := ⟨⟨_, _, ok_divisor_of_both (n := 0) F_divisor_of_both m_abs, b_divisor_of_both, k_divisor_of_both, PySem.W.mg_of X G a_divisor_of_both⟩⟩
  have C_divisor_of_all : Cal l.prog w K mg base 2 "divisor_of_all" ["a", "b", "c"] spDiv := ⟨⟨_, _, ok_divisor_of_all (n := 1) F_divisor_of_all (C_divisor_of_both.mono), b_divisor_of_all, k_divisor_of_all, PySem.W.mg_of X G a_divisor_of_all⟩⟩
  have C_in_lowest_terms : Cal l.prog w K mg base 3 "in_lowest_terms" ["a", "b", "c"] spLowP := ⟨⟨_, _, ok_in_lowest_terms (n := 2) F_in_lowest_terms (C_divisor_of_all.mono), b_in_lowest_terms, k_in_lowest_terms, PySem.W.mg_of X G a_in_lowest_terms⟩⟩
  have C_minus : Cal l.prog w K mg base 4 "minus" ["root", "one", "other"] (spMinusP K) := ⟨⟨_, _, ok_minus (n := 3) F_minus (C_in_lowest_terms.mono), b_minus, k_minus, PySem.W.mg_of X G a_minus⟩⟩
  have C_over : Cal l.prog w K mg base 4 "over" ["root", "one", "other"] (spOver K) := ⟨⟨_, _, ok_over (n := 3) F_over (C_in_lowest_terms.mono), b_over, k_over, PySem.W.mg_of X G a_over⟩⟩
  have C_turned_rests : Cal l.prog w K mg base 5 "turned_rests" ["root", "low", "high", "first"] (spTurned K) := ⟨⟨_, _, ok_turned_rests (n := 4) F_turned_rests (C_minus.mono) (C_over.mono) m_ZERO hZ m_ONE hO, b_turned_rests, k_turned_rests, PySem.W.mg_of X G a_turned_rests⟩⟩
  have C_simplest : Cal l.prog w K mg base 6 "simplest" ["root", "one", "other"] (spSimplest K) := ⟨⟨_, _, ok_simplest (n := 5) F_simplest (C_floor_of.mono) (C_put_together.mono) (C_less.mono) (C_turned_rests.mono), b_simplest, k_simplest, PySem.W.mg_of X G a_simplest⟩⟩
  have C_plus : Cal l.prog w K mg base 4 "plus" ["root", "one", "other"] (spPlusP K) := ⟨⟨_, _, ok_plus (n := 3) F_plus (C_in_lowest_terms.mono), b_plus, k_plus, PySem.W.mg_of X G a_plus⟩⟩
  have C_times : Cal l.prog w K mg base 4 "times" ["root", "one", "other"] (spTimes K) := ⟨⟨_, _, ok_times (n := 3) F_times (C_in_lowest_terms.mono), b_times, k_times, PySem.W.mg_of X G a_times⟩⟩
  have C__law_ordered : Cal l.prog w K mg base 5 "_law_ordered" ["_law_root_here", "_law_one", "_law_other", "_law_third"] (spOrdered K) := ⟨⟨_, _, ok__law_ordered (n := 4) F__law_ordered (C_less.mono) (C_plus.mono) (C_times.mono), b__law_ordered, k__law_ordered, PySem.W.mg_of X G a__law_ordered⟩⟩
  have C__law_reckoned : Cal l.prog w K mg base 5 "_law_reckoned" ["_law_root_here", "_law_one", "_law_other", "_law_third"] (spReckoned K) := ⟨⟨_, _, ok__law_reckoned (n := 4) F__law_reckoned (C_plus.mono) (C_times.mono) (C_minus.mono) (C_over.mono), b__law_reckoned, k__law_reckoned, PySem.W.mg_of X G a__law_reckoned⟩⟩
  exact ok_law (n := 6) F_law (C__law_box.mono) (C__law_root.mono) (C_less.mono) (C__law_any.mono) (C_floor_of.mono) (C_simplest.mono) (C__law_ordered.mono) (C__law_reckoned.mono) (C_plus.mono) m_range m_max m_min m_len
theorem walk {l : PySem.W.OpenLaw} {q : Program} {loose : List Str} {XP : (Str → Option Value) → Heap → Prop} {YP : World → Heap → Prop} {d : DefRec} {K : Params → PySem.W.Frag} (hn : l.most = some 63) (hdf : d.params.defaults = [])
    (hY : ∀ (w : World) (h : Heap), YP w h → (K w.params).In h)
    (F : ∀ (w : World) (mg : Str → Option Value) (fa : Addr) (h : Heap), (K w.params).In h → h.Ns mainGlobals mg → mg d.name = some (.ref fa) →
      ∃ fd : FuncData, (∀ (s : Shared) (u : Value), BindsTo s fd ⟨[u], []⟩ [("_law_script", u)]) ∧ ∀ base : Heap, (K w.params).In base → base.Ns mainGlobals mg → FnOk l.prog w (K w.params) mg base CX0 7 fa fd ["_law_script"] (spLaw (K w.params))) :
    PySem.W.WalkO q loose XP YP l.row.toRowW d [] (fun f vs => PySem.call f vs) :=
  L2.walk_of (n := 63) (k := 7) (x := "_law_script") (CX := fun _ => CX0) (sp := fun w => spLaw (K w.params)) hn (by decide) hdf ⟨rfl, by decide, by decide⟩ hY F (fun _ _ a ns hl _ hS => ⟨a, ns, rfl, hS, hl, fun _ => rfl⟩) fun _ _ _ _ _ z => z
end My
open PySem PySem.W PyProof.Rows
set_option maxRecDepth 100000 in
set_option maxHeartbeats 0 in
theorem PySem.Challenge.cw_cutexchange_k05_whole_order_and_reckonin_holds : PySem.Challenge.rw_cutexchange_k05_whole_order_and_reckonin.Holds := by
  w_on; o_law; k_head; (case hw => w_witness2)
  k_fill
  refine My.walk (l := PySem.Challenge.rw_cutexchange_k05_whole_order_and_reckonin) rfl rfl (fun w h Y => PySem.W.kIn_of Y) ?F
  case F =>
    intro w mg fa h KX G hmg
    refine' My.all_mk KX G hmg ?a__law_cell ?l__law_cell ?c__law_cell ?k__law_cell ?a__law_box ?l__law_box ?c__law_box ?k__law_box ?a__law_take ?l__law_take ?c__law_take ?k__law_take ?a__law_root ?l__law_root ?c__law_root ?k__law_root ?a_is_below_zero ?l_is_below_zero ?c_is_below_zero ?k_is_below_zero ?a_less ?l_less ?c_less ?k_less ?a__law_low ?l__law_low ?c__law_low ?k__law_low ?a__law_any ?l__law_any ?c__law_any ?k__law_any ?a_floor_of_square_root ?l_floor_of_square_root ?c_floor_of_square_root ?k_floor_of_square_root ?a_floor_of_roots ?l_floor_of_roots ?c_floor_of_roots ?k_floor_of_roots ?a_floor_of ?l_floor_of ?c_floor_of ?k_floor_of ?a_put_together ?l_put_together ?c_put_together ?k_put_together ?a_divisor_of_both ?l_divisor_of_both ?c_divisor_of_both ?k_divisor_of_both ?a_divisor_of_all ?l_divisor_of_all ?c_divisor_of_all ?k_divisor_of_all ?a_in_lowest_terms ?l_in_lowest_terms ?c_in_lowest_terms ?k_in_lowest_terms ?a_minus ?l_minus ?c_minus ?k_minus ?a_over ?l_over ?c_over ?k_over ?a_turned_rests ?l_turned_rests ?c_turned_rests ?k_turned_rests ?a_simplest ?l_simplest ?c_simplest ?k_simplest ?a_plus ?l_plus ?c_plus ?k_plus ?a_times ?l_times ?c_times ?k_times ?a__law_ordered ?l__law_ordered ?c__law_ordered ?k__law_ordered ?a__law_reckoned ?l__law_reckoned ?c__law_reckoned ?k__law_reckoned ?a_law ?l_law ?c_law ?k_law ?z_len ?z_range ?z_abs ?z_int ?z_reversed ?z_max ?z_min ?a_ZERO ?l_ZERO ?a_ONE ?l_ONE
    (case a__law_cell => k_is)
    (case l__law_cell => k_is)
    (case c__law_cell => k_is)
    (case k__law_cell => k_is)
    (case a__law_box => k_is)
    (case l__law_box => k_is)
    (case c__law_box => k_is)
    (case k__law_box => k_is)
    (case a__law_take => k_is)
    (case l__law_take => k_is)
    (case c__law_take => k_is)
    (case k__law_take => k_is)
    (case a__law_root => k_is)
    (case l__law_root => k_is)
    (case c__law_root => k_is)
    (case k__law_root => k_is)
    (case a_is_below_zero => k_is)
    (case l_is_below_zero => k_is)
    (case c_is_below_zero => k_is)
    (case k_is_below_zero => k_is)
    (case a_less => k_is)
    (case l_less => k_is)
    (case c_less => k_is)
    (case k_less => k_is)
    (case a__law_low => k_is)
    (case l__law_low => k_is)
    (case c__law_low => k_is)
    (case k__law_low => k_is)
    (case a__law_any => k_is)
    (case l__law_any => k_is)
    (case c__law_any => k_is)
    (case k__law_any => k_is)
    (case a_floor_of_square_root => k_is)
    (case l_floor_of_square_root => k_is)
    (case c_floor_of_square_root => k_is)
    (case k_floor_of_square_root => k_is)
    (case a_floor_of_roots => k_is)
    (case l_floor_of_roots => k_is)
    (case c_floor_of_roots => k_is)
    (case k_floor_of_roots => k_is)
    (case a_floor_of => k_is)
    (case l_floor_of => k_is)
    (case c_floor_of => k_is)
    (case k_floor_of => k_is)
    (case a_put_together => k_is)
    (case l_put_together => k_is)
    (case c_put_together => k_is)
    (case k_put_together => k_is)
    (case a_divisor_of_both => k_is)
    (case l_divisor_of_both => k_is)
    (case c_divisor_of_both => k_is)
    (case k_divisor_of_both => k_is)
    (case a_divisor_of_all => k_is)
    (case l_divisor_of_all => k_is)
    (case c_divisor_of_all => k_is)
    (case k_divisor_of_all => k_is)
    (case a_in_lowest_terms => k_is)
    (case l_in_lowest_terms => k_is)
    (case c_in_lowest_terms => k_is)
    (case k_in_lowest_terms => k_is)
    (case a_minus => k_is)
    (case l_minus => k_is)
    (case c_minus => k_is)
    (case k_minus => k_is)
    (case a_over => k_is)
    (case l_over => k_is)
    (case c_over => k_is)
    (case k_over => k_is)
    (case a_turned_rests => k_is)
    (case l_turned_rests => k_is)
    (case c_turned_rests => k_is)
    (case k_turned_rests => k_is)
    (case a_simplest => k_is)
    (case l_simplest => k_is)
    (case c_simplest => k_is)
    (case k_simplest => k_is)
    (case a_plus => k_is)
    (case l_plus => k_is)
    (case c_plus => k_is)
    (case k_plus => k_is)
    (case a_times => k_is)
    (case l_times => k_is)
    (case c_times => k_is)
    (case k_times => k_is)
    (case a__law_ordered => k_is)
    (case l__law_ordered => k_is)
    (case c__law_ordered => k_is)
    (case k__law_ordered => k_is)
    (case a__law_reckoned => k_is)
    (case l__law_reckoned => k_is)
    (case c__law_reckoned => k_is)
    (case k__law_reckoned => k_is)
    (case a_law => k_is)
    (case l_law => k_is)
    (case c_law => k_is)
    (case k_law => k_is)
    (case z_len => k_is)
    (case z_range => k_is)
    (case z_abs => k_is)
    (case z_int => k_is)
    (case z_reversed => k_is)
    (case z_max => k_is)
    (case z_min => k_is)
    (case a_ZERO => k_is)
    (case l_ZERO => k_is)
    (case a_ONE => k_is)
    (case l_ONE => k_is)
