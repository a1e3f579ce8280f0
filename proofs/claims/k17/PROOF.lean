import PyProof.Rows.All
import Wide.All
import OpenK.AllK
import Wide.FinOn
import Lean
import PyProof.EqAt
import PyProof.EqKinds
import PyProof.TupleCall
import PySem.Challenge.RW_rulefound_k17_unread
set_option Elab.async false
set_option linter.all false
set_option maxRecDepth 100000
namespace L2
open PySem PySem.Spec PyProof.Rows
abbrev Key := Sum Int Str
def keyIs : Key → Value → Bool
  | .inl k, v => Value.isInt k v
  | .inr x, v => Value.isStrOf x v
def keyH (w : World) : Key → Int
  | .inl k => hashInt k
  | .inr x => hashStr w x
theorem keyIs_shape : ∀ {k : Key} {v : Value}, keyIs k v = true → (∃ i t, k = Sum.inl i ∧ v = Value.int i t) ∨ (∃ x t, k = Sum.inr x ∧ v = Value.str x t)
  | .inl i, v, h => by
    obtain ⟨t, e⟩ := Value.isInt_shape (k := i) (v := v) h
    exact .inl ⟨i, t, rfl, e⟩
  | .inr x, v, h => by
    obtain ⟨t, e⟩ := Value.isStrOf_shape (x := x) (v := v) h
    exact .inr ⟨x, t, rfl, e⟩
theorem key_ll (a b : Int) : decide ((Sum.inl a : Key) = Sum.inl b) = (a == b) := by
  by_cases e : a = b
  · subst e; simp
  · have h : ¬ (Sum.inl a : Key) = Sum.inl b := fun q => e (Sum.inl.inj q)
    rw [decide_eq_false h]
    exact (beq_eq_false_iff_ne.mpr e).symm
theorem key_rr (a b : Str) : decide ((Sum.inr a : Key) = Sum.inr b) = decide (a = b) := by
  by_cases e : a = b
  · subst e; simp
  · have h : ¬ (Sum.inr a : Key) = Sum.inr b := fun q => e (Sum.inr.inj q)
    rw [decide_eq_false h, decide_eq_false e]
theorem key_lr (a : Int) (b : Str) : decide ((Sum.inl a : Key) = Sum.inr b) = false := decide_eq_false (fun q => nomatch q)
theorem key_rl (a : Str) (b : Int) : decide ((Sum.inr a : Key) = Sum.inl b) = false := decide_eq_false (fun q => nomatch q)
def mixKind (prog : Program) (w : World) : PySem.KeyKind prog w Key where
  is := keyIs
  hash := keyH w
  inj := fun v a b ha hb => by
    rcases keyIs_shape ha with ⟨i, t, rfl, rfl⟩ | ⟨x, t, rfl, rfl⟩
    · rcases keyIs_shape hb with ⟨j, u, rfl, e⟩ | ⟨y, u, rfl, e⟩
      · injection e with e1 _; rw [e1]
      · exact nomatch e
    · rcases keyIs_shape hb with ⟨j, u, rfl, e⟩ | ⟨y, u, rfl, e⟩
      · exact nomatch e
      · injection e with e1 _; rw [e1]
  byValue := fun k v h => by
    rcases keyIs_shape h with ⟨i, t, rfl, rfl⟩ | ⟨x, t, rfl, rfl⟩ <;> rfl
  pyHash := fun hv h => by
    rcases keyIs_shape hv with ⟨i, t, rfl, rfl⟩ | ⟨x, t, rfl, rfl⟩
    · exact wpAny_pyHash_int h
    · exact wpAny_pyHash_str h
  eqBool := fun hu hv h => by
    rcases keyIs_shape hu with ⟨i, t, rfl, rfl⟩ | ⟨x, t, rfl, rfl⟩
    · rcases keyIs_shape hv with ⟨j, u, rfl, rfl⟩ | ⟨y, u, rfl, rfl⟩
      · rw [key_ll] at h; exact wpAny_eqBool_int h
      · rw [key_lr] at h; exact SeqAt.EqAt.int_str i t y u _ _ _ _ h
    · rcases keyIs_shape hv with ⟨j, u, rfl, rfl⟩ | ⟨y, u, rfl, rfl⟩
      · rw [key_rl] at h; exact SeqAt.EqAt.str_int x t j u _ _ _ _ h
      · rw [key_rr] at h; exact wpAny_eqBool_str h
  «strs» := fun k x t v h => by
    rcases keyIs_shape h with ⟨i, u, rfl, e⟩ | ⟨y, u, rfl, e⟩
    · exact nomatch e
    · injection e with e1 _
      subst e1
      cases v <;> rfl
end L2
namespace L2
open PySem PySem.Spec PyProof.Rows
inductive V where
  | non | bl (b : Bool) | int (i : Int) | str (x : Str) | byt (b : Array UInt8) | flt (b : UInt64) | ref (a : Addr) | ty (n : String)
  deriving DecidableEq
def RelV : V → Value → Prop
  | .non, u => u = Value.none
  | .bl b, u => u = Value.bool b
  | .int i, u => ∃ t, u = Value.int i t
  | .str x, u => ∃ t, u = Value.str x t
  | .byt b, u => ∃ t, u = Value.bytes b t
  | .flt b, u => ∃ t, u = Value.float b t
  | .ref a, u => u = Value.ref a
  | .ty n, u => u = Value.type n
abbrev Vals : List V → List Value → Prop := Paired RelV
theorem Vals.length {xs : List V} {us : List Value} (r : Vals xs us) : xs.length = us.length := Paired.length r
theorem Vals.get : ∀ {xs : List V} {us : List Value} {i : Nat} {x : V}, Vals xs us → xs[i]? = some x → ∃ u, us[i]? = some u ∧ RelV x u
  | _, _, _, _, .nil, e => by simp at e
  | _, _, 0, _, .cons r _, e => by simp at e; subst e; exact ⟨_, rfl, r⟩
  | _, _, i + 1, x, .cons _ t, e => by
    obtain ⟨u, h1, h2⟩ := Vals.get (i := i) (x := x) t (by simpa using e)
    exact ⟨u, by simpa using h1, h2⟩
theorem Vals.set {x : V} {u : Value} (r : RelV x u) : ∀ {xs : List V} {us : List Value} (i : Nat), Vals xs us → Vals (xs.set i x) (us.set i u)
  | _, _, _, .nil => .nil
  | _, _, 0, .cons _ t => .cons r t
  | _, _, i + 1, .cons q t => .cons q (Vals.set r i t)
theorem Vals.append : ∀ {xs ys : List V} {us ws : List Value}, Vals xs us → Vals ys ws → Vals (xs ++ ys) (us ++ ws)
  | _, _, _, _, .nil, s => s
  | _, _, _, _, .cons r t, s => .cons r (Vals.append t s)
theorem Vals.take : ∀ {xs : List V} {us : List Value} (n : Nat), Vals xs us → Vals (xs.take n) (us.take n)
  | _, _, 0, _ => .nil
  | _, _, _ + 1, .nil => .nil
  | _, _, n + 1, .cons r t => .cons r (Vals.take n t)
theorem Vals.drop : ∀ {xs : List V} {us : List Value} (n : Nat), Vals xs us → Vals (xs.drop n) (us.drop n)
  | _, _, 0, r => r
  | _, _, _ + 1, .nil => .nil
  | _, _, n + 1, .cons _ t => Vals.drop n t
def RelO : Option V → Option Value → Prop
  | some v, some u => RelV v u
  | none, none => True
  | _, _ => False
def KV {κ : Type} : List (κ × V) → List (κ × Value) → Prop := Paired fun (p : κ × V) (q : κ × Value) => p.1 = q.1 ∧ RelV p.2 q.2
def kV : Key → V
  | .inl i => .int i
  | .inr x => .str x
inductive HO where
  /-- a list -/
  | lst (xs : List V)
  /-- a tuple (never changes) -/
  | tup (xs : List V)
  /-- a dict whose keys are ints and texts; one whose keys are tuples of ints and texts (the empty one is both) -/
  | dK (kvs : List (Key × V)) | dT (kvs : List (List Key × V))
  /-- a set of ints: its members, its size -/
  | set (S : Int → Bool) (n : Nat)
  /-- an instance of the class at C, its dict at dx, its attributes -/
  | ins (C dx : Addr) (fs : List (Str × V))
  /-- the dict of the instance at x -/
  | own (x : Addr)
  /-- the dict of an exception -/
  | xd (fs : List (Str × V))
  /-- a bound method, f of x -/
  | met (f x : Addr)
  /-- a range object lo, lo + 1, .. below hi -/
  | rng (lo hi : Int)
  /-- a thing that is known to the object (the script; a dict while a loop walks it): read, never written while it is so -/
  | frz (o : Obj) (u : HO)
  /-- a code object's table -/
  | tbl (ps : Array Value)
  /-- any other thing, by what is true of its one object (a def of one's own: SetO a S n := HO.ext fun h => ..) -/
  | ext (φ : Heap → Prop)
abbrev Hp := Addr → Option HO
def upd (H : Hp) (a : Addr) (o : HO) : Hp := fun b => if b = a then some o else H b
theorem upd_same {H : Hp} {a : Addr} {o : HO} : upd H a o a = some o := by unfold upd; rw [if_pos rfl]
theorem upd_ne {H : Hp} {a b : Addr} {o : HO} (h : b ≠ a) : upd H a o b = H b := by unfold upd; rw [if_neg h]
theorem ne_of_none {H : Hp} {a b : Addr} {o : HO} (h : H a = some o) (h' : H b = none) : a ≠ b := by
  intro e; subst e; rw [h] at h'; cases h'
section
variable (P : Program) (w : World)
def ObjOk (H : Hp) (h : Heap) (a : Addr) : HO → Prop
  | .lst xs => xs.length ≤ sizeLine ∧ ∃ (its : List Value) (n : Nat), Vals xs its ∧ h.get? a = some { cls := .type "list", data := .seq its.toArray n }
  | .tup xs => xs.length ≤ sizeLine ∧ ∃ its : List Value, Vals xs its ∧ IsTup h a its.toArray
  | .dK kvs => kvs.length ≤ sizeLine ∧ (a == sysModules) = false ∧ ∃ vs, KV kvs vs ∧ h.DictOf (mixKind P w) a vs
  | .dT kvs => kvs.length ≤ sizeLine ∧ (a == sysModules) = false ∧ ∃ xs : List (List Key × Addr × Value),
      Paired (fun (p : List Key × V) (q : List Key × Addr × Value) => p.1 = q.1 ∧ H q.2.1 = some (.tup (p.1.map kV)) ∧ RelV p.2 q.2.2) kvs xs ∧
      ∃ o es ep, h.get? a = some o ∧ o.ExactDict ∧ o.data = .dict es ep ∧ es.toList = xs.map (entryOfKey (tupleKind (mixKind P w))) ∧ (xs.map (·.1)).Nodup
  | .set S n => h.SetOf (intKind P w) a S n
  | .ins C dx fs => H dx = some (.own a) ∧ fs.length ≤ 1000 ∧ dx ≠ a ∧ h.get? a = some (PySem.W.instObj C dx) ∧
      ∃ mA, h.Ns1 dx mA ∧ (∀ f, RelO (fs.lookup f) (mA f)) ∧ PySem.Within mA (fs.map (·.1))
  | .own _ => ∃ o, h.get? a = some o
  | .xd fs => ∃ mA, h.Ns1 a mA ∧ ∀ f, RelO (fs.lookup f) (mA f)
  | .rng lo hi => ∃ t u v, h.get? a = some { cls := .type "range", data := .fields #[.int lo t, .int hi u, .int 1 v] }
  | .frz o u => h.get? a = some o ∧ ObjOk H h a u
  | .tbl ps => h.get? a = some { cls := .none, data := .fields ps }
  | .met f x => h.get? a = some (PySem.W.methodObj (.ref f) (.ref x))
  | .ext φ => φ h ∧ (∃ o, h.get? a = some o) ∧ ∀ h1 h2 : Heap, φ h1 → (∀ o, h1.get? a = some o → h2.get? a = some o) → φ h2
def HOk (H : Hp) (h : Heap) : Prop := ∀ a o, H a = some o → ObjOk P w H h a o
end
section
variable {P : Program} {w : World} {H H' : Hp} {h h' : Heap} {a : Addr} {o : HO}
theorem ObjOk.lt (x : ObjOk P w H h a o) : a < h.objs.size := by
  cases o with
  | lst xs => obtain ⟨_, _, _, _, e⟩ := x; exact Heap.lt_size e
  | tup xs => obtain ⟨_, _, _, p⟩ := x; exact p.lt
  | dK kvs => obtain ⟨_, _, _, _, o, _, _, e, _⟩ := x; exact Heap.lt_size e
  | dT kvs => obtain ⟨_, _, _, _, o, _, _, e, _⟩ := x; exact Heap.lt_size e
  | set S n => obtain ⟨o, _, _, _, e, _⟩ := x; exact Heap.lt_size e
  | ins C dx fs => obtain ⟨_, _, _, e, _⟩ := x; exact Heap.lt_size e
  | own y => obtain ⟨_, e⟩ := x; exact Heap.lt_size e
  | xd fs => obtain ⟨_, ⟨_, _, _, e, _⟩, _⟩ := x; exact Heap.lt_size e
  | rng lo hi => obtain ⟨_, _, _, e⟩ := x; exact Heap.lt_size e
  | frz ob u => obtain ⟨e, _⟩ := x; exact Heap.lt_size e
  | tbl ps => exact Heap.lt_size (show h.get? a = some _ from x)
  | met f y => exact Heap.lt_size (show h.get? a = some _ from x)
  | ext φ => obtain ⟨_, ⟨_, e⟩, _⟩ := x; exact Heap.lt_size e
theorem Paired.mapP {α β : Type} {F G : α → β → Prop} : ∀ {l₁ : List α} {l₂ : List β}, Paired F l₁ l₂ → (∀ a b, F a b → G a b) → Paired G l₁ l₂
  | _, _, .nil, _ => .nil
  | _, _, .cons r t, f => .cons (f _ _ r) (Paired.mapP t f)
theorem ObjOk.stay (x : ObjOk P w H h a o) (k : ∀ b u, (b = a ∨ H b = some (.own a)) → h.get? b = some u → h'.get? b = some u)
    (ho : ∀ b, H b = some (.own a) → H' b = some (.own a)) (ht : ∀ b xs, H b = some (.tup xs) → H' b = some (.tup xs)) : ObjOk P w H' h' a o := by
  induction o with
  | lst xs => obtain ⟨z, its, n, r, e⟩ := x; exact ⟨z, its, n, r, k _ _ (.inl rfl) e⟩
  | tup xs => obtain ⟨z, its, r, ob, e, c⟩ := x; exact ⟨z, its, r, ob, k _ _ (.inl rfl) e, c⟩
  | dK kvs => obtain ⟨z, y, vs, r, ob, es, ep, e, c⟩ := x; exact ⟨z, y, vs, r, ob, es, ep, k _ _ (.inl rfl) e, c⟩
  | dT kvs =>
    obtain ⟨z, y, xs, r, ob, es, ep, e, c⟩ := x
    exact ⟨z, y, xs, Paired.mapP r fun p q z => ⟨z.1, ht _ _ z.2.1, z.2.2⟩, ob, es, ep, k _ _ (.inl rfl) e, c⟩
  | set S n => obtain ⟨ob, es, ep, t, e, c⟩ := x; exact ⟨ob, es, ep, t, k _ _ (.inl rfl) e, c⟩
  | ins C dx fs =>
    obtain ⟨d, z, ne, e, mA, ⟨od, es, ep, e2, c⟩, r⟩ := x
    exact ⟨ho _ d, z, ne, k _ _ (.inl rfl) e, mA, ⟨od, es, ep, k _ _ (.inr d) e2, c⟩, r⟩
  | own y => obtain ⟨ob, e⟩ := x; exact ⟨ob, k _ _ (.inl rfl) e⟩
  | xd fs => obtain ⟨mA, ⟨od, es, ep, e, c⟩, r⟩ := x; exact ⟨mA, ⟨od, es, ep, k _ _ (.inl rfl) e, c⟩, r⟩
  | rng lo hi => obtain ⟨t, u, v, e⟩ := x; exact ⟨t, u, v, k _ _ (.inl rfl) e⟩
  | frz ob u ih => obtain ⟨e, q⟩ := x; exact ⟨k _ _ (.inl rfl) e, ih q⟩
  | tbl ps =>
    have e : h.get? a = some { cls := .none, data := .fields ps } := x
    show h'.get? a = some { cls := .none, data := .fields ps }
    exact k a _ (.inl rfl) e
  | met f y =>
    have e : h.get? a = some (PySem.W.methodObj (.ref f) (.ref y)) := x
    show h'.get? a = some (PySem.W.methodObj (.ref f) (.ref y))
    exact k a _ (.inl rfl) e
  | ext φ => obtain ⟨p, ⟨o, e⟩, st⟩ := x; exact ⟨st _ _ p fun o q => k _ _ (.inl rfl) q, ⟨o, k _ _ (.inl rfl) e⟩, st⟩
theorem HOk.lt (x : HOk P w H h) (e : H a = some o) : a < h.objs.size := (x a o e).lt
theorem HOk.fresh (x : HOk P w H h) (e : h.objs.size ≤ a) : H a = none := by
  cases q : H a with
  | none => rfl
  | some u => exact absurd (Nat.lt_of_lt_of_le (x.lt q) e) (Nat.lt_irrefl _)
theorem HOk.kept (x : HOk P w H h) (k : ∀ b u, h.get? b = some u → h'.get? b = some u) : HOk P w H h' := fun a o e =>
  (x a o e).stay (fun b u _ q => k b u q) (fun _ q => q) fun _ _ q => q
theorem HOk.laid (x : HOk P w H h) (k : ∀ b u, h.get? b = some u → h'.get? b = some u) (hp : h.objs.size ≤ a) (new : ObjOk P w (upd H a o) h' a o) : HOk P w (upd H a o) h' := fun b u e => by
  have hn := x.fresh hp
  by_cases hb : b = a
  · subst hb; rw [upd_same] at e; cases e; exact new
  · rw [upd_ne hb] at e
    exact (x b u e).stay (fun c v _ q => k c v q) (fun c q => by rw [upd_ne (ne_of_none q hn)]; exact q) fun c xs q => by rw [upd_ne (ne_of_none q hn)]; exact q
end
def Rd (H : Hp) (a : Addr) (u : HO) : Prop := H a = some u ∨ ∃ o, H a = some (.frz o u)
theorem Rd.ok {P : Program} {w : World} {H : Hp} {h : Heap} {a : Addr} {u : HO} (r : Rd H a u) (x : HOk P w H h) : ObjOk P w H h a u := by
  rcases r with r | ⟨o, r⟩
  · exact x a u r
  · obtain ⟨_, q⟩ := x a _ r
    exact q
def Mut : Option HO → Prop
  | some (.lst _) => True
  | some (.dK _) => True
  | some (.dT _) => True
  | some (.set _ _) => True
  | some (.ins _ _ _) => True
  | some (.ext _) => True
  | _ => False
section
variable {P : Program} {w : World} {H : Hp} {h h' : Heap} {x e : Addr} {o' : HO}
theorem HOk.write (ok : HOk P w H h) (mu : Mut (H x)) (he : e = x ∨ H e = some (.own x)) (k : ∀ b u, b ≠ e → h.get? b = some u → h'.get? b = some u) (heo : ∃ u, h'.get? e = some u)
    (new : ObjOk P w (upd H x o') h' x o') : HOk P w (upd H x o') h' := fun b u q => by
  have nown : ∀ c y, H c = some (.own y) → c ≠ x := fun c y r z => by subst z; rw [r] at mu; exact mu
  have ntup : ∀ c xs, H c = some (.tup xs) → c ≠ x := fun c xs r z => by subst z; rw [r] at mu; exact mu
  by_cases hb : b = x
  · subst hb; rw [upd_same] at q; cases q; exact new
  · rw [upd_ne hb] at q
    by_cases hbe : b = e
    · have q' : H b = some (.own x) := by
        rcases he with z | z
        · exact absurd (hbe.trans z) hb
        · rw [hbe]; exact z
      rw [q] at q'; cases q'
      obtain ⟨v, hv⟩ := heo
      exact ⟨v, by rw [hbe]; exact hv⟩
    · refine (ok b u q).stay (fun c v hc r => k c v ?_ r) (fun c r => by rw [upd_ne (nown c b r)]; exact r) fun c xs r => by rw [upd_ne (ntup c xs r)]; exact r
      rcases hc with rfl | hc
      · exact hbe
      · rintro rfl
        rcases he with z | z
        · exact nown c b hc z
        · rw [hc] at z; cases z; exact hb rfl
end
structure Un (fs ex : List Addr) (H H' : Hp) (h h' : Heap) : Prop where
  keep : ∀ b o, h.get? b = some o → H b = none → b ∉ fs → b ∉ ex → h'.get? b = some o
  slot : ∀ b o, h.get? b = some o → H b = none → b ∈ fs → b ∉ ex → ∃ sl, h'.get? b = some { o with slots := sl }
  free : ∀ b o, h.get? b = some o → H b = none → b ∉ ex → H' b = none
  there : ∀ b o, h.get? b = some o → b ∉ ex → ∃ o', h'.get? b = some o'
  tups : ∀ b xs, H b = some (.tup xs) → H' b = some (.tup xs)
  frzs : ∀ b o u, H b = some (.frz o u) → H' b = some (.frz o u)
  tbls : ∀ b ps, H b = some (.tbl ps) → ∃ more, H' b = some (.tbl (ps ++ more))
section
variable {fs fs' ex ex' : List Addr} {H H1 H2 : Hp} {h h1 h2 h' : Heap} {a x e : Addr} {o : HO}
theorem Un.any (u : Un fs ex H H1 h h1) {b : Addr} {ob : Obj} (q : h.get? b = some ob) (n : H b = none) (hx : b ∉ ex) : ∃ sl, h1.get? b = some { ob with slots := sl } := by
  by_cases hb : b ∈ fs
  · exact u.slot b ob q n hb hx
  · exact ⟨ob.slots, u.keep b ob q n hb hx⟩
theorem Un.kept (k : ∀ b u, h.get? b = some u → h'.get? b = some u) : Un fs ex H H h h' :=
  ⟨fun b ob q _ _ _ => k b ob q, fun b ob q _ _ _ => ⟨ob.slots, k b ob q⟩, fun _ _ _ n _ => n, fun b ob q _ => ⟨ob, k b ob q⟩, fun _ _ q => q, fun _ _ _ q => q, fun _ ps q => ⟨#[], by rw [q]; simp⟩⟩
theorem Un.refl : Un fs ex H H h h := Un.kept fun _ _ q => q
theorem Un.laid (k : ∀ b u, h.get? b = some u → h'.get? b = some u) (hp : h.objs.size ≤ a) (hn : H a = none) : Un fs ex H (upd H a o) h h' where
  keep := fun b u q _ _ _ => k b u q
  slot := fun b u q _ _ _ => ⟨u.slots, k b u q⟩
  free := fun b u q n _ => by rw [upd_ne (Nat.ne_of_lt (Nat.lt_of_lt_of_le (Heap.lt_size q) hp))]; exact n
  there := fun b u q _ => ⟨u, k b u q⟩
  tups := fun b xs q => by rw [upd_ne (ne_of_none q hn)]; exact q
  frzs := fun b u xs q => by rw [upd_ne (ne_of_none q hn)]; exact q
  tbls := fun b ps q => ⟨#[], by rw [upd_ne (ne_of_none q hn), q]; simp⟩
theorem Un.write (mu : Mut (H x)) (he : e = x ∨ H e = some (.own x)) (k : ∀ b u, b ≠ e → h.get? b = some u → h'.get? b = some u) (heo : ∃ u, h'.get? e = some u) : Un fs ex H (upd H x o) h h' := by
  have hx : ∀ b, H b = none → b ≠ x := fun b n z => by subst z; rw [n] at mu; exact mu
  have hb : ∀ b, H b = none → b ≠ e := fun b n z => by
    subst z
    rcases he with r | r
    · exact hx b n r
    · rw [n] at r; cases r
  have hm : ∀ b u, H b = some u → ¬ Mut (some u) → b ≠ x := fun b u q nm z => by subst z; rw [q] at mu; exact nm mu
  refine ⟨fun b u q n _ _ => k b u (hb b n) q, fun b u q n _ _ => ⟨u.slots, k b u (hb b n) q⟩, fun b u q n _ => by rw [upd_ne (hx b n)]; exact n, fun b u q _ => ?_,
    fun b xs q => by rw [upd_ne (hm b _ q fun z => z)]; exact q, fun b u xs q => by rw [upd_ne (hm b _ q fun z => z)]; exact q, fun b ps q => ⟨#[], by rw [upd_ne (hm b _ q fun z => z), q]; simp⟩⟩
  by_cases hbe : b = e
  · subst hbe; exact heo
  · exact ⟨u, k b u hbe q⟩
end
def trk (h : Heap) (H : Hp) : List Addr := (List.range h.objs.size).filter fun a => (H a).isSome
def hidT (h : Heap) (H : Hp) : Heap := PySem.W.hideAll h (trk h H)
theorem hidT_size (h : Heap) (H : Hp) : (hidT h H).objs.size = h.objs.size := PySem.W.hideAll_size _ _
theorem hidT_get {h : Heap} {H : Hp} {b : Addr} {o : Obj} (e : h.get? b = some o) (n : H b = none) : (hidT h H).get? b = some o :=
  PySem.W.hideAll_get _ e fun hm => by
    have q : (H b).isSome = true := (List.mem_filter.mp hm).2
    rw [n] at q; simp at q
theorem of_hidT {h : Heap} {H : Hp} {b : Addr} {o : Obj} (e : (hidT h H).get? b = some o) : h.get? b = some o ∧ H b = none := by
  have e' : h.get? b = some o := PySem.W.of_hideAll (trk h H) e
  refine ⟨e', ?_⟩
  cases q : H b with
  | none => rfl
  | some x =>
    have hm : b ∈ trk h H := List.mem_filter.mpr ⟨List.mem_range.mpr (Heap.lt_size e'), by simp [q]⟩
    have z : (hidT h H).get? b = none := PySem.W.hideAll_none (trk h H) hm
    rw [z] at e; cases e
end L2
namespace L2
open PySem PySem.Spec PyProof.Rows
structure Mod (K : PySem.W.Frag) (mg : Str → Option Value) (base : Heap) : Prop where
  kin : K.In base
  glob : base.Ns mainGlobals mg
  blt : ∃ mb, base.Ns builtinsNs mb ∧ ∀ x : Str, x ≠ "__name__" → mb x = bootBuiltins x
  nolimit : base.NoLimit
structure Cx where
  prog : Program
  w : World
  K : PySem.W.Frag
  mg : Str → Option Value
  base : Heap
  A : Around
  N : List Str
  s₀ : Shared
  H₀ : Hp
  env : Env
  outer : List Env
  stack : List Env
  ex : List Addr
  fn : Str → Bool
  calm : Bool
  pn : List (Addr × Obj)
  xe : Value → Shared → Prop
def frs (l : List Env) : List Addr := l.filterMap (·.frame)
abbrev Cx.fs (X : Cx) : List Addr := frs X.outer
def Vis (sc : Scope) (x : Str) : Prop := sc.names.lookup x = some .local ∨ sc.names.lookup x = some .cell ∨ sc.names.lookup x = some .free
def Loc (sc : Scope) (x : Str) : Prop := sc.names.lookup x = some .local ∨ sc.names.lookup x = some .cell
def Look (env : Env) (h : Heap) (m : Str → Option Value) (x : Str) (u : Value) : Prop :=
  (env.kindOf x = some .local ∧ m x = some u) ∨ ((env.kindOf x = some .cell ∨ env.kindOf x = some .free) ∧ ∃ c, env.cells.lookup x = some c ∧ h.IsCell c (some u))
structure Cx.Ok (X : Cx) : Prop where
  mod : Mod X.K X.mg X.base
  kind : X.env.scope.kind = .function
  glob : X.env.globals = mainGlobals
  blt : X.env.builtins = builtinsNs
  above : X.s₀.heap.objs.size ≤ X.env.locals
  inj : ∀ x y c, X.env.cells.lookup x = some c → X.env.cells.lookup y = some c → x = y
  has : ∀ x, (X.env.kindOf x = some .cell ∨ X.env.kindOf x = some .free) → ∃ c, X.env.cells.lookup x = some c
  cab : ∀ x c, X.fn x = true → X.env.cells.lookup x = some c → X.s₀.heap.objs.size ≤ c
  hd : X.calm = true → X.A.handled = none
  frames : X.A.frames = some X.stack
  stk : X.stack = X.outer ∨ (X.stack = X.env :: X.outer ∧ X.env.frame = some X.env.locals)
  exf : ∀ b ∈ X.ex, b ≠ X.env.locals ∧ ∀ x c, X.env.cells.lookup x = some c → c ≠ b
  bs : ∀ b o, X.base.get? b = some o → X.s₀.heap.get? b = some o ∧ X.H₀ b = none
  bsz : X.base.objs.size ≤ X.s₀.heap.objs.size
  noex : ∀ b o, X.base.get? b = some o → b ∉ X.ex
  exfs : ∀ b ∈ X.ex, b ∉ X.fs
  funs : X.s₀.heap.FunFrames X.base X.outer
  frf : ∀ b ∈ X.fs, X.H₀ b = none
structure Inv (X : Cx) (pins : List (Addr × Obj)) (σ : List (Option V)) (H : Hp) (s : Shared) : Prop where
  ok : X.Ok
  os : s.os = X.s₀.os
  bare : AllBare s.gens
  base : Un X.fs X.ex X.H₀ H X.s₀.heap s.heap
  loc : ∃ m, s.heap.Ns X.env.locals m ∧ ∀ (i : Nat) (x : Str) (v : V), X.N[i]? = some x → σ[i]? = some (some v) → Vis X.env.scope x → ∃ u, RelV v u ∧ Look X.env s.heap m x u
  cell : ∀ x c, X.env.cells.lookup x = some c → ∃ v, s.heap.IsCell c v
  free : H X.env.locals = none
  freeC : ∀ x c, X.env.cells.lookup x = some c → H c = none
  pin : ∀ p ∈ X.pn ++ pins, s.heap.get? p.1 = some p.2 ∧ H p.1 = none ∧ p.1 ≠ X.env.locals ∧ p.1 ∉ X.fs ∧ ∀ v, p.2.data ≠ .cell v
  hok : HOk X.prog X.w H s.heap
  len : σ.length = X.N.length
section
variable {X : Cx} {pins : List (Addr × Obj)} {σ : List (Option V)} {H H' : Hp} {s : Shared} {h' : Heap}
theorem Cx.Ok.nofr (ok : X.Ok) {b : Addr} {o : Obj} (e : X.base.get? b = some o) : b ∉ X.fs := fun hb => by
  have := (ok.funs.mem hb).1
  rw [e] at this; cases this
theorem Inv.bs (I : Inv X pins σ H s) : ∀ b o, X.base.get? b = some o → s.heap.get? b = some o ∧ H b = none := fun b o e =>
  ⟨I.base.keep b o (I.ok.bs b o e).1 (I.ok.bs b o e).2 (I.ok.nofr e) (I.ok.noex b o e), I.base.free b o (I.ok.bs b o e).1 (I.ok.bs b o e).2 (I.ok.noex b o e)⟩
theorem Inv.bk (I : Inv X pins σ H s) : ∀ b o, X.base.get? b = some o → s.heap.get? b = some o := fun b o e => (I.bs b o e).1
theorem Inv.mod (I : Inv X pins σ H s) : Mod X.K X.mg X.base := I.ok.mod
theorem Inv.kIn (I : Inv X pins σ H s) : X.K.In s.heap := I.ok.mod.kin.keeps I.bk
theorem Inv.lt (I : Inv X pins σ H s) : X.env.locals < s.heap.objs.size := let ⟨_, hn, _⟩ := I.loc; hn.lt
theorem Inv.sz (I : Inv X pins σ H s) : X.s₀.heap.objs.size ≤ s.heap.objs.size := Nat.le_trans I.ok.above (Nat.le_of_lt I.lt)
theorem Inv.nofs (I : Inv X pins σ H s) {a : Addr} (h : s.heap.objs.size ≤ a) : a ∉ X.fs := fun hb => by
  obtain ⟨_, o, ho, _⟩ := I.ok.funs.mem hb
  exact absurd (Nat.lt_of_lt_of_le (Heap.lt_size ho) (Nat.le_trans I.sz h)) (Nat.lt_irrefl _)
theorem Inv.cne (I : Inv X pins σ H s) : ∀ x c, X.env.cells.lookup x = some c → c ≠ X.env.locals := fun x c e z => by
  obtain ⟨v, o, ho, hd⟩ := I.cell x c e
  obtain ⟨m, ⟨o', es, ep, ho', hd', _⟩, _⟩ := I.loc
  rw [z, ho'] at ho; cases ho; rw [hd'] at hd; cases hd
theorem Inv.funs (I : Inv X pins σ H s) : s.heap.FunFrames X.base X.outer := by
  have all : ∀ (l : List Env), (∀ b ∈ frs l, b ∈ X.fs) → X.s₀.heap.FunFrames X.base l → s.heap.FunFrames X.base l := by
    intro l
    induction l with
    | nil => intro _ _; trivial
    | cons env r ih =>
      intro hs hl
      obtain ⟨hk, ⟨L, o, hf, hn, ho, hd⟩, hr⟩ := hl
      have hL : L ∈ X.fs := hs L (by unfold frs; rw [List.filterMap_cons, hf]; exact List.mem_cons_self)
      obtain ⟨sl, e⟩ := I.base.slot L o ho (I.ok.frf L hL) hL fun z => I.ok.exfs L z hL
      exact ⟨hk, ⟨L, _, hf, hn, e, hd⟩, ih (fun b hb => hs b (by unfold frs; rw [List.filterMap_cons, hf]; exact List.mem_cons_of_mem _ hb)) hr⟩
  exact all X.outer (fun _ hb => hb) I.ok.funs
theorem Inv.stack (I : Inv X pins σ H s) : s.heap.FunFrames X.base X.stack := by
  rcases I.ok.stk with e | ⟨e, hf⟩
  · rw [e]; exact I.funs
  · rw [e]
    obtain ⟨m, hn, _⟩ := I.loc
    refine .cons (by rw [I.ok.kind]; decide) hf hn ?_ I.funs
    exact Heap.get?_none_of_le (Nat.le_trans I.ok.bsz I.ok.above)
theorem Inv.stkSub (I : Inv X pins σ H s) : ∀ b ∈ frs X.stack, b ∈ X.env.locals :: X.fs := fun b hb => by
  rcases I.ok.stk with e | ⟨e, hf⟩
  · rw [e] at hb; exact List.mem_cons_of_mem _ hb
  · rw [e] at hb
    unfold frs at hb
    rw [List.filterMap_cons, hf] at hb
    exact hb
theorem Inv.stkFree (I : Inv X pins σ H s) : ∀ b ∈ frs X.stack, H b = none := fun b hb => by
  rcases List.mem_cons.mp (I.stkSub b hb) with e | hb
  · rw [e]; exact I.free
  · obtain ⟨_, o, ho, _⟩ := I.ok.funs.mem hb
    exact I.base.free b o ho (I.ok.frf b hb) fun z => I.ok.exfs b z hb
theorem Inv.step {g' : Array GenState} {t' : Nat} {d' : Drawn} {ch : List Addr} (I : Inv X pins σ H s)
    (hch : ∀ b ∈ ch, (b ∈ X.ex ∨ X.s₀.heap.objs.size ≤ b) ∧ b ≠ X.env.locals ∧ (∀ x c, X.env.cells.lookup x = some c → c ≠ b) ∧ ∀ p ∈ X.pn ++ pins, p.1 ≠ b)
    (keep : ∀ b o, b ≠ X.env.locals → b ∉ X.fs → b ∉ ch → s.heap.get? b = some o → H b = none → h'.get? b = some o)
    (slot : ∀ b o, b ≠ X.env.locals → b ∈ X.fs → b ∉ ch → s.heap.get? b = some o → H b = none → ∃ sl, h'.get? b = some { o with slots := sl }) (free : ∀ b o, b ∉ ch → s.heap.get? b = some o → H b = none → H' b = none)
    (there : ∀ b o, b ∉ ch → s.heap.get? b = some o → ∃ o', h'.get? b = some o')
    (tups : ∀ b xs, H b = some (.tup xs) → H' b = some (.tup xs)) (frzs : ∀ b o u, H b = some (.frz o u) → H' b = some (.frz o u)) (tbls : ∀ b ps, H b = some (.tbl ps) → ∃ more, H' b = some (.tbl (ps ++ more)))
    (ns : ∀ m, s.heap.Ns X.env.locals m → h'.Ns X.env.locals m) (hok : HOk X.prog X.w H' h') (hg : AllBare g') :
    Inv X pins σ H' { s with heap := h', gens := g', drawn := d', toks := t' } := by
  have neL : ∀ b o, X.s₀.heap.get? b = some o → b ≠ X.env.locals := fun b o e => Nat.ne_of_lt (Nat.lt_of_lt_of_le (Heap.lt_size e) I.ok.above)
  have neC : ∀ b o, X.s₀.heap.get? b = some o → b ∉ X.ex → b ∉ ch := fun b o e hx hb => by
    rcases (hch b hb).1 with z | z
    · exact hx z
    · exact absurd (Nat.lt_of_lt_of_le (Heap.lt_size e) z) (Nat.lt_irrefl _)
  have cellK : ∀ x c, X.env.cells.lookup x = some c → ∀ v, s.heap.IsCell c v → h'.IsCell c v := fun x c e v ⟨o, ho, hd⟩ => by
    have nch : c ∉ ch := fun z => (hch c z).2.2.1 x c e rfl
    by_cases hc : c ∈ X.fs
    · obtain ⟨sl, q⟩ := slot c o (I.cne x c e) hc nch ho (I.freeC x c e)
      exact ⟨_, q, hd⟩
    · exact ⟨o, keep c o (I.cne x c e) hc nch ho (I.freeC x c e), hd⟩
  refine ⟨I.ok, I.os, hg, ⟨fun b o e n hb hx => ?_, fun b o e n hb hx => ?_, fun b o e n hx => ?_, fun b o e hx => ?_, fun b xs e => tups b xs (I.base.tups b xs e), fun b o xs e => frzs b o xs (I.base.frzs b o xs e), fun b ps e => ?_⟩, ?_, fun x c e => ?_, ?_, fun x c e => ?_, fun p hp => ?_, hok, I.len⟩
  · exact keep b o (neL b o e) hb (neC b o e hx) (I.base.keep b o e n hb hx) (I.base.free b o e n hx)
  · obtain ⟨sl, e1⟩ := I.base.slot b o e n hb hx
    obtain ⟨sl', e2⟩ := slot b _ (neL b o e) hb (neC b o e hx) e1 (I.base.free b o e n hx)
    exact ⟨sl', e2⟩
  · obtain ⟨o', e1⟩ := I.base.there b o e hx
    exact free b o' (neC b o e hx) e1 (I.base.free b o e n hx)
  · obtain ⟨o', e1⟩ := I.base.there b o e hx
    exact there b o' (neC b o e hx) e1
  · obtain ⟨m1, e1⟩ := I.base.tbls b ps e
    obtain ⟨m2, e2⟩ := tbls b _ e1
    exact ⟨m1 ++ m2, by rw [e2, Array.append_assoc]⟩
  · obtain ⟨m, hn, hl⟩ := I.loc
    refine ⟨m, ns m hn, fun i x v e1 e2 e3 => ?_⟩
    obtain ⟨u, r, l⟩ := hl i x v e1 e2 e3
    refine ⟨u, r, ?_⟩
    rcases l with l | ⟨k, c, e, z⟩
    · exact .inl l
    · exact .inr ⟨k, c, e, cellK x c e _ z⟩
  · obtain ⟨v, z⟩ := I.cell x c e
    exact ⟨v, cellK x c e v z⟩
  · obtain ⟨m, ⟨o, _, _, ho, _⟩, _⟩ := I.loc
    exact free _ o (fun z => (hch _ z).2.1 rfl) ho I.free
  · obtain ⟨v, o, ho, hd⟩ := I.cell x c e
    exact free c o (fun z => (hch c z).2.2.1 x c e rfl) ho (I.freeC x c e)
  · obtain ⟨e, n, ne, nf, d⟩ := I.pin p hp
    have nch : p.1 ∉ ch := fun z => (hch p.1 z).2.2.2 p hp rfl
    exact ⟨keep p.1 p.2 ne nf nch e n, free p.1 p.2 nch e n, ne, nf, d⟩
theorem Inv.un {t' : Nat} (I : Inv X pins σ H s) (u : Un X.fs [] H H' s.heap h') (hok : HOk X.prog X.w H' h') : Inv X pins σ H' { s with heap := h', toks := t' } := by
  obtain ⟨m, ⟨o, es, ep, ho, r⟩, _⟩ := id I.loc
  obtain ⟨sl, hL⟩ := u.any ho I.free (by simp)
  exact I.step (g' := s.gens) (d' := s.drawn) (ch := []) (fun _ z => nomatch z) (fun b o _ hb _ e n => u.keep b o e n hb (by simp)) (fun b o _ hb _ e n => u.slot b o e n hb (by simp)) (fun b o _ e n => u.free b o e n (by simp)) (fun b o _ e => u.there b o e (by simp)) u.tups u.frzs u.tbls (fun m' hm => by
    obtain ⟨o', es', ep', ho', r'⟩ := hm
    rw [ho] at ho'; cases ho'
    exact ⟨_, es', ep', hL, r'⟩) hok I.bare
theorem Inv.call {g' : Array GenState} {t' : Nat} {d' : Drawn} {ch : List Addr} (I : Inv X pins σ H s) (u : Un (frs X.stack) ch H H' s.heap h') (hok : HOk X.prog X.w H' h') (hg : AllBare g')
    (hch : ∀ b ∈ ch, (b ∈ X.ex ∨ X.s₀.heap.objs.size ≤ b) ∧ b ≠ X.env.locals ∧ (∀ x c, X.env.cells.lookup x = some c → c ≠ b) ∧ ∀ p ∈ X.pn ++ pins, p.1 ≠ b) :
    Inv X pins σ H' { s with heap := h', gens := g', drawn := d', toks := t' } := by
  obtain ⟨m, ⟨o, es, ep, ho, r⟩, _⟩ := id I.loc
  obtain ⟨sl, hL⟩ := u.any ho I.free fun z => (hch _ z).2.1 rfl
  exact I.step (ch := ch) hch (fun b o hL hb hc e n => u.keep b o e n (fun z => (List.mem_cons.mp (I.stkSub b z)).elim hL hb) hc) (fun b o _ _ hc e n => u.any e n hc) (fun b o hc e n => u.free b o e n hc) (fun b o hc e => u.there b o e hc) u.tups u.frzs u.tbls (fun m' hm => by
    obtain ⟨o', es', ep', ho', r'⟩ := hm
    rw [ho] at ho'; cases ho'
    exact ⟨_, es', ep', hL, r'⟩) hok hg
theorem Inv.turned {t' : Nat} {it : Addr} (I : Inv X pins σ H s) (k : ∀ b o, b ≠ it → s.heap.get? b = some o → h'.get? b = some o) (hn : H it = none) (hL : it ≠ X.env.locals)
    (h1 : it ∈ X.ex ∨ X.s₀.heap.objs.size ≤ it) (h2 : ∀ x c, X.env.cells.lookup x = some c → c ≠ it) (h3 : ∀ p ∈ X.pn ++ pins, p.1 ≠ it) : Inv X pins σ H { s with heap := h', toks := t' } := by
  have nit : ∀ b u, H b = some u → b ≠ it := fun b u e z => by rw [z, hn] at e; cases e
  refine I.step (g' := s.gens) (d' := s.drawn) (ch := [it]) (fun b hb => ?_) (fun b o _ _ hc e _ => k b o (fun z => hc (by simp [z])) e) (fun b o _ _ hc e _ => ⟨o.slots, k b o (fun z => hc (by simp [z])) e⟩) (fun _ _ _ _ n => n)
    (fun b o hc e => ⟨o, k b o (fun z => hc (by simp [z])) e⟩) (fun _ _ e => e) (fun _ _ _ e => e) (fun b ps e => ⟨#[], by rw [e]; simp⟩) (fun m hm => ?_) (fun b u e => ?_) I.bare
  · have e : b = it := by simpa using hb
    subst e
    exact ⟨h1, hL, h2, h3⟩
  · obtain ⟨o, es, ep, ho, r⟩ := hm
    exact ⟨o, es, ep, k _ o (Ne.symm hL) ho, r⟩
  · refine (I.hok b u e).stay (fun c v hc q => k c v ?_ q) (fun _ q => q) fun _ _ q => q
    rcases hc with z | z
    · rw [z]; exact nit b u e
    · exact nit c _ z
theorem Inv.tok (I : Inv X pins σ H s) (t : Nat) : Inv X pins σ H { s with toks := t } := I.un (h' := s.heap) (t' := t) Un.refl I.hok
theorem Inv.kept {t' : Nat} (I : Inv X pins σ H s) (k : ∀ b u, s.heap.get? b = some u → h'.get? b = some u) : Inv X pins σ H { s with heap := h', toks := t' } := I.un (Un.kept k) (I.hok.kept k)
theorem Inv.laid {a : Addr} {o : HO} {t' : Nat} (I : Inv X pins σ H s) (k : ∀ b u, s.heap.get? b = some u → h'.get? b = some u) (hp : s.heap.objs.size ≤ a) (new : ObjOk X.prog X.w (upd H a o) h' a o) :
    Inv X pins σ (upd H a o) { s with heap := h', toks := t' } := I.un (Un.laid k hp (I.hok.fresh hp)) (I.hok.laid k hp new)
theorem Inv.write {x e : Addr} {o : HO} {t' : Nat} (I : Inv X pins σ H s) (mu : Mut (H x)) (he : e = x ∨ H e = some (.own x)) (k : ∀ b u, b ≠ e → s.heap.get? b = some u → h'.get? b = some u) (heo : ∃ u, h'.get? e = some u)
    (new : ObjOk X.prog X.w (upd H x o) h' x o) : Inv X pins σ (upd H x o) { s with heap := h', toks := t' } := I.un (Un.write mu he k heo) (I.hok.write mu he k heo new)
theorem Inv.weak {σ' : List (Option V)} (I : Inv X pins σ H s) (hl : σ'.length = σ.length) (w : ∀ (i : Nat) v, σ'[i]? = some (some v) → σ[i]? = some (some v)) : Inv X pins σ' H s :=
  ⟨I.ok, I.os, I.bare, I.base, let ⟨m, hn, hl'⟩ := I.loc; ⟨m, hn, fun i x v e1 e2 e3 => hl' i x v e1 (w i v e2) e3⟩, I.cell, I.free, I.freeC, I.pin, I.hok, hl.trans I.len⟩
theorem Inv.pins_of {pins' : List (Addr × Obj)} (I : Inv X pins σ H s) (h : ∀ p ∈ pins', s.heap.get? p.1 = some p.2 ∧ H p.1 = none ∧ p.1 ≠ X.env.locals ∧ p.1 ∉ X.fs ∧ ∀ v, p.2.data ≠ .cell v) : Inv X pins' σ H s :=
  ⟨I.ok, I.os, I.bare, I.base, I.loc, I.cell, I.free, I.freeC, fun p hp => (List.mem_append.mp hp).elim (fun z => I.pin p (List.mem_append_left _ z)) (h p), I.hok, I.len⟩
theorem nodup_ix {N : List Str} (hN : N.Nodup) {i j : Nat} {x : Str} (a : N[i]? = some x) (b : N[j]? = some x) : i = j := by
  obtain ⟨h1, e1⟩ := List.getElem?_eq_some_iff.mp a
  obtain ⟨h2, e2⟩ := List.getElem?_eq_some_iff.mp b
  exact (List.getElem_inj hN).mp (e1.trans e2.symm)
theorem store_ok2 {M : Model} {A : Around} {E : Value → Shared → Prop} {i : Nat} {x : Str} {v : V} {u : Value} {Q : Unit → Shared → Prop} (I : Inv X pins σ H s) (hN : X.N.Nodup) (hi : X.N[i]? = some x) (hx : Loc X.env.scope x) (r : RelV v u)
    (h : ∀ s', Inv X pins (σ.set i (some v)) H s' → (∃ a, Heap.SameBut a s.heap s'.heap ∧ (a = X.env.locals ∨ X.env.cells.lookup x = some a)) → Q () s') (hf : X.fn x = true ∨ X.env.scope.names.lookup x = some .local := by first | exact .inl rfl | exact .inr rfl | assumption) : wpAny M A (storeName X.env x u) Q E s := by
  obtain ⟨m, hn, hl⟩ := id I.loc
  have hcls : (X.env.scope.kind == .class || (X.env.scope.kind == .module && X.env.locals != X.env.globals)) = false := by rw [I.ok.kind]; rfl
  have hiσ : i < σ.length := by rw [I.len]; exact (List.getElem?_eq_some_iff.mp hi).1
  have cne := I.cne
  have tracked : ∀ {a : Addr} {h' : Heap}, (∃ o, s.heap.get? a = some o ∧ H a = none) → Heap.SameBut a s.heap h' → HOk X.prog X.w H h' := fun {a h'} ha hs b ob e => by
    obtain ⟨_, _, hfree⟩ := ha
    refine (I.hok b ob e).stay (fun c w' hc q => (hs.2 c ?_).trans q) (fun _ q => q) fun _ _ q => q
    rintro rfl
    rcases hc with rfl | hc
    · rw [hfree] at e; cases e
    · rw [hfree] at hc; cases hc
  rcases hx with hk | hk
  · refine wpAny_storeName_local hk hn (fun h' hn' hs => ?_) hcls
    obtain ⟨oL, _, _, hoL, _⟩ := id hn
    refine h _ ⟨I.ok, I.os, I.bare, ⟨fun b o e n hb hx => ?_, fun b o e n hb hx => ?_, I.base.free, fun b o e hx => ?_, I.base.tups, I.base.frzs, I.base.tbls⟩, ⟨_, hn', fun j y v' e1 e2 e3 => ?_⟩, fun y c e => ?_, I.free, I.freeC, fun p hp => ?_, tracked ⟨oL, hoL, I.free⟩ hs, by simpa using I.len⟩ ⟨_, hs, .inl rfl⟩
    · exact (hs.2 b (Nat.ne_of_lt (Nat.lt_of_lt_of_le (Heap.lt_size e) I.ok.above))).trans (I.base.keep b o e n hb hx)
    · obtain ⟨sl, e1⟩ := I.base.slot b o e n hb hx
      exact ⟨sl, (hs.2 b (Nat.ne_of_lt (Nat.lt_of_lt_of_le (Heap.lt_size e) I.ok.above))).trans e1⟩
    · obtain ⟨o', e1⟩ := I.base.there b o e hx
      exact ⟨o', (hs.2 b (Nat.ne_of_lt (Nat.lt_of_lt_of_le (Heap.lt_size e) I.ok.above))).trans e1⟩
    · by_cases hj : j = i
      · subst hj
        rw [hi] at e1; cases e1
        rw [List.getElem?_set_self hiσ] at e2
        cases e2
        exact ⟨u, r, .inl ⟨hk, by simp⟩⟩
      · rw [List.getElem?_set_ne (Ne.symm hj)] at e2
        obtain ⟨u', r', q⟩ := hl j y v' e1 e2 e3
        refine ⟨u', r', ?_⟩
        rcases q with ⟨k, e⟩ | ⟨k, c, e, z⟩
        · refine .inl ⟨k, ?_⟩
          have : y ≠ x := fun e => hj (nodup_ix hN e1 (e ▸ hi))
          simp [this, e]
        · exact .inr ⟨k, c, e, z.sameBut hs (cne y c e)⟩
    · obtain ⟨w', z⟩ := I.cell y c e
      exact ⟨w', z.sameBut hs (cne y c e)⟩
    · obtain ⟨e, n, ne, nf, d⟩ := I.pin p hp
      exact ⟨(hs.2 p.1 ne).trans e, n, ne, nf, d⟩
  · have hfn : X.fn x = true := by
      rcases hf with z | z
      · exact z
      · rw [z] at hk; cases hk
    obtain ⟨c, hc⟩ := I.ok.has x (.inl hk)
    obtain ⟨w', z⟩ := I.cell x c hc
    refine wpAny_storeName_cell I.ok.kind hk hc z (fun h' hc' hs => ?_)
    obtain ⟨oc, hoc, hocd⟩ := id z
    refine h { s with heap := h' } ⟨I.ok, I.os, I.bare, ⟨fun b o e n hb hx => ?_, fun b o e n hb hx => ?_, I.base.free, fun b o e hx => ?_, I.base.tups, I.base.frzs, I.base.tbls⟩, ⟨m, hn.sameBut hs (Ne.symm (cne x c hc)), fun j y v' e1 e2 e3 => ?_⟩, fun y c' e => ?_, I.free, I.freeC, fun p hp => ?_, tracked ⟨oc, hoc, I.freeC x c hc⟩ hs, by simpa using I.len⟩ ⟨c, hs, .inr hc⟩
    · exact (hs.2 b (Nat.ne_of_lt (Nat.lt_of_lt_of_le (Heap.lt_size e) (I.ok.cab x c hfn hc)))).trans (I.base.keep b o e n hb hx)
    · obtain ⟨sl, e1⟩ := I.base.slot b o e n hb hx
      exact ⟨sl, (hs.2 b (Nat.ne_of_lt (Nat.lt_of_lt_of_le (Heap.lt_size e) (I.ok.cab x c hfn hc)))).trans e1⟩
    · obtain ⟨o', e1⟩ := I.base.there b o e hx
      exact ⟨o', (hs.2 b (Nat.ne_of_lt (Nat.lt_of_lt_of_le (Heap.lt_size e) (I.ok.cab x c hfn hc)))).trans e1⟩
    · by_cases hj : j = i
      · subst hj
        rw [hi] at e1; cases e1
        rw [List.getElem?_set_self hiσ] at e2
        cases e2
        exact ⟨u, r, .inr ⟨.inl hk, c, hc, hc'⟩⟩
      · rw [List.getElem?_set_ne (Ne.symm hj)] at e2
        obtain ⟨u', r', q⟩ := hl j y v' e1 e2 e3
        refine ⟨u', r', ?_⟩
        rcases q with q | ⟨k, c', e, z'⟩
        · exact .inl q
        · refine .inr ⟨k, c', e, z'.sameBut hs ?_⟩
          rintro rfl
          exact hj (nodup_ix hN e1 (I.ok.inj _ _ _ e hc ▸ hi))
    · by_cases hcc : c' = c
      · subst hcc; exact ⟨_, hc'⟩
      · obtain ⟨w2, z2⟩ := I.cell y c' e
        exact ⟨w2, z2.sameBut hs hcc⟩
    · obtain ⟨e, n, ne, nf, d⟩ := I.pin p hp
      refine ⟨(hs.2 p.1 ?_).trans e, n, ne, nf, d⟩
      intro q
      rw [q, hoc] at e
      have q' : oc = p.2 := Option.some.inj e
      exact d w' (by rw [← q']; exact hocd)
theorem store_ok {M : Model} {A : Around} {E : Value → Shared → Prop} {i : Nat} {x : Str} {v : V} {u : Value} {Q : Unit → Shared → Prop} (I : Inv X pins σ H s) (hN : X.N.Nodup) (hi : X.N[i]? = some x) (hx : Loc X.env.scope x) (r : RelV v u)
    (h : ∀ s', Inv X pins (σ.set i (some v)) H s' → Q () s') (hf : X.fn x = true ∨ X.env.scope.names.lookup x = some .local := by first | exact .inl rfl | exact .inr rfl | assumption) : wpAny M A (storeName X.env x u) Q E s :=
  store_ok2 I hN hi hx r (fun s' I' _ => h s' I') hf
theorem Inv.call' {s' : Shared} {ch : List Addr} (I : Inv X pins σ H s) (ho : s'.os = s.os) (u : Un (frs X.stack) ch H H' s.heap s'.heap) (hok : HOk X.prog X.w H' s'.heap) (hg : AllBare s'.gens)
    (hch : ∀ b ∈ ch, (b ∈ X.ex ∨ X.s₀.heap.objs.size ≤ b) ∧ b ≠ X.env.locals ∧ (∀ x c, X.env.cells.lookup x = some c → c ≠ b) ∧ ∀ p ∈ X.pn ++ pins, p.1 ≠ b) : Inv X pins σ H' s' := by
  obtain ⟨h', g', d', t', o'⟩ := s'
  have e : o' = s.os := ho
  subst e
  exact I.call (g' := g') (t' := t') (d' := d') u hok hg hch
end
abbrev XK := Value → Option Addr → Hp → Prop
abbrev St := List (Option V)
abbrev VK := V → Hp → Prop
abbrev TE := St → Hp → VK → Prop
abbrev TT := St → Hp → (Bool → Hp → Prop) → Prop
abbrev TA := St → Hp → (List V → Hp → Prop) → Prop
structure Ends where
  nx : St → Hp → Prop
  rt : VK
  bk : St → Hp → Prop := fun _ _ => False
  ct : St → Hp → Prop := fun _ _ => False
abbrev TS := Ends → St → Hp → Prop
def EP (X : Cx) (pins : List (Addr × Obj)) (σ : St) (Q : VK) (u : Value) (s' : Shared) : Prop := ∃ v H', Inv X pins σ H' s' ∧ RelV v u ∧ Q v H'
def TP (X : Cx) (pins : List (Addr × Obj)) (σ : St) (Q : Bool → Hp → Prop) (b : Bool) (s' : Shared) : Prop := ∃ H', Inv X pins σ H' s' ∧ Q b H'
def AP (X : Cx) (pins : List (Addr × Obj)) (σ : St) (Q : List V → Hp → Prop) (us : List Value) (s' : Shared) : Prop := ∃ vs H', Inv X pins σ H' s' ∧ Vals vs us ∧ Q vs H'
def SP (X : Cx) (pins : List (Addr × Obj)) (D : Ends) (f : Flow) (s' : Shared) : Prop :=
  match f with
  | .next => ∃ σ' H', Inv X pins σ' H' s' ∧ D.nx σ' H'
  | .brk => ∃ σ' H', Inv X pins σ' H' s' ∧ D.bk σ' H'
  | .cont => ∃ σ' H', Inv X pins σ' H' s' ∧ D.ct σ' H'
  | .ret u => ∃ v σ' H', Inv X pins σ' H' s' ∧ RelV v u ∧ D.rt v H'
def PE (X : Cx) (e : Expr) (t : TE) : Prop :=
  ∀ (pins : List (Addr × Obj)) (s : Shared) (σ : St) (H : Hp) (Q : VK), Inv X pins σ H s → t σ H Q → wpAny (model X.prog X.w) X.A (eval e X.env) (EP X pins σ Q) X.xe s
def PT (X : Cx) (e : Expr) (t : TT) : Prop :=
  ∀ (pins : List (Addr × Obj)) (s : Shared) (σ : St) (H : Hp) (Q : Bool → Hp → Prop), Inv X pins σ H s → t σ H Q → wpAny (model X.prog X.w) X.A (isTrue e X.env (eval e X.env)) (TP X pins σ Q) X.xe s
def PW (X : Cx) (e : Expr) (t : TT) : Prop :=
  ∀ (whole : Sem Value) (pins : List (Addr × Obj)) (s : Shared) (σ : St) (H : Hp) (Q : Bool → Hp → Prop), Inv X pins σ H s → t σ H Q → wpAny (model X.prog X.w) X.A (isTrue e X.env whole) (TP X pins σ Q) X.xe s
theorem PW.pt {X : Cx} {e : Expr} {t : TT} (h : PW X e t) : PT X e t := h _
def PA (X : Cx) (es : List Expr) (t : TA) : Prop :=
  ∀ (pos : Pos) (pins : List (Addr × Obj)) (s : Shared) (σ : St) (H : Hp) (Q : List V → Hp → Prop), Inv X pins σ H s → t σ H Q → wpAny (model X.prog X.w) X.A (spliced (backTo pos (starEach es X.env))) (AP X pins σ Q) X.xe s
def PS (X : Cx) (st : Stmt) (t : TS) : Prop :=
  ∀ (pins : List (Addr × Obj)) (s : Shared) (σ : St) (H : Hp) (D : Ends), Inv X pins σ H s → t D σ H → wpAny (model X.prog X.w) X.A (exec st X.env) (SP X pins D) X.xe s
def PSs (X : Cx) (st : List Stmt) (t : TS) : Prop :=
  ∀ (pins : List (Addr × Obj)) (s : Shared) (σ : St) (H : Hp) (D : Ends), Inv X pins σ H s → t D σ H → wpAny (model X.prog X.w) X.A (execs st X.env) (SP X pins D) X.xe s
theorem thn {α : Type} {t : Sem α} {Q Q' : α → Shared → Prop} {M : Model} {A : Around} {E : Value → Shared → Prop} {s : Shared} (h : wpAny M A t Q E s) (hQ : ∀ a s, Q a s → Q' a s) : wpAny M A t Q' E s := wpAny_mono h hQ fun _ _ x => x
end L2
namespace L2
open PySem PySem.Spec PyProof.Rows
section
variable {X : Cx}
def tVar (i : Nat) : TE := fun σ H Q => ∃ v, σ[i]? = some (some v) ∧ Q v H
def tC (v : V) : TE := fun _ H Q => Q v H
theorem pe_var {i : Nat} {x : Str} {pos : Pos} (hN : X.N[i]? = some x) (hv : Vis X.env.scope x) (hd : (x == ("__debug__" : Str)) = false := by decide) (hcd : (x == ("__classdict__" : Str)) = false := by decide) : PE X (.Name x pos) (tVar i) := by
  intro pins s σ H Q I h
  obtain ⟨v, e, h⟩ := h
  obtain ⟨m, hn, hl⟩ := I.loc
  obtain ⟨u, r, l⟩ := hl i x v hN e hv
  have fin : EP X pins σ Q u s := ⟨v, H, I, r, h⟩
  rcases l with ⟨hk, hm⟩ | ⟨hk, c, hc, hcell⟩
  · exact wpAny_Name (wpAny_loadName_local I.ok.kind hk hn hm fin) hd
  · rcases hk with hk | hk
    · exact wpAny_Name (wpAny_loadName_cell I.ok.kind hk hc hcell fin) hd
    · exact wpAny_Name (wpAny_loadName_free I.ok.kind hk hc hcell fin hcd) hd
theorem pe_int {i j pos} : PE X (.Constant (.int i) j pos) (tC (.int i)) := fun _ _ _ H _ I h => wpAny_Constant_int ⟨.int i, H, I.tok _, ⟨_, rfl⟩, h⟩
theorem pe_bl {b j pos} : PE X (.Constant (.bool b) j pos) (tC (.bl b)) := fun _ _ _ H _ I h => Constant_bool ⟨.bl b, H, I, rfl, h⟩
theorem pe_str {x j pos} : PE X (.Constant (.str x) j pos) (tC (.str x)) := fun _ _ _ H _ I h => Calls.Constant_str ⟨.str x, H, I.tok _, ⟨_, rfl⟩, h⟩
def Gl (X : Cx) (x : Str) : Prop := X.env.kindOf x = some .globalImplicit
theorem ld_glob {E : Value → Shared → Prop} {pins : List (Addr × Obj)} {s : Shared} {σ : St} {H : Hp} {x : Str} {u : Value} {pos : Pos} {Q : Value → Shared → Prop} (I : Inv X pins σ H s) (hg : Gl X x) (hm : X.mg x = some u) (h : Q u s)
    (hd : (x == ("__debug__" : Str)) = false := by decide) : wpAny (model X.prog X.w) X.A (eval (.Name x pos) X.env) Q E s :=
  Calls.Name_function_global I.ok.kind hg (Calls.loadGlobal_global (by rw [I.ok.glob]; exact I.mod.glob.keeps I.bk) hm h) hd
theorem ld_blt {E : Value → Shared → Prop} {pins : List (Addr × Obj)} {s : Shared} {σ : St} {H : Hp} {x : Str} {u : Value} {pos : Pos} {Q : Value → Shared → Prop} (I : Inv X pins σ H s) (hg : Gl X x) (hm : X.mg x = none) (hv : bootBuiltins x = some u) (h : Q u s)
    (hn : x ≠ "__name__" := by decide) (hd : (x == ("__debug__" : Str)) = false := by decide) : wpAny (model X.prog X.w) X.A (eval (.Name x pos) X.env) Q E s := by
  obtain ⟨mb, h1, h2⟩ := I.mod.blt
  exact Calls.Name_function_global I.ok.kind hg (Calls.loadGlobal_builtin (by rw [I.ok.glob]; exact I.mod.glob.keeps I.bk) hm (by rw [I.ok.blt]; exact h1.keeps I.bk) ((h2 x hn).trans hv) h) hd
theorem pe_glob {x : Str} {v : V} {u : Value} {pos : Pos} (hg : Gl X x) (hm : X.mg x = some u) (r : RelV v u) (hd : (x == ("__debug__" : Str)) = false := by decide) : PE X (.Name x pos) (tC v) :=
  fun _ _ _ H _ I h => ld_glob I hg hm ⟨v, H, I, r, h⟩ hd
theorem pe_bltn {x : Str} {v : V} {u : Value} {pos : Pos} (hg : Gl X x) (hm : X.mg x = none) (hv : bootBuiltins x = some u) (r : RelV v u) (hn : x ≠ "__name__" := by decide) (hd : (x == ("__debug__" : Str)) = false := by decide) : PE X (.Name x pos) (tC v) :=
  fun _ _ _ H _ I h => ld_blt I hg hm hv ⟨v, H, I, r, h⟩ hn hd
variable {a b : Expr} {ta tb : TE} {pos : Pos}
def tB (t : TE) : TT := fun σ H Q => t σ H fun x H1 => ∃ c, x = .bl c ∧ Q c H1
theorem pt_val {e : Expr} {t : TE} (h : PE X e t) (he : ∀ whole, isTrue e X.env whole = (do let v ← whole; standAt e.pos; holding [v] (truthy v)) := by intro _; rfl) : PT X e (tB t) := by
  intro pins s σ H Q I hw
  refine isTrue_plain (thn (h pins s σ H _ I hw) fun v s1 ⟨x, H1, I1, r1, q1⟩ => ?_) (he _)
  obtain ⟨d, rfl, q⟩ := q1
  cases r1
  exact wpAny_truthy_bool ⟨H1, I1, q⟩
variable {tA tB' : TT} {rest : List Expr}
def tAnd (t u : TT) : TT := fun σ H Q => t σ H fun c H1 => if c = true then u σ H1 Q else Q false H1
def tOr (t u : TT) : TT := fun σ H Q => t σ H fun c H1 => if c = true then Q true H1 else u σ H1 Q
def tNot (t : TT) : TT := fun σ H Q => t σ H fun c H1 => Q (!c) H1
theorem pw_and1 (ha : PT X a tA) : PW X (.BoolOp .And [a] pos) tA := by
  intro wh pins s σ H Q I h
  refine isTrue_and (thn (ha pins s σ H Q I h) fun c s1 e => ?_)
  cases c with
  | true => exact isTrue_and_nil e
  | false => exact e
theorem pw_or1 (ha : PT X a tA) : PW X (.BoolOp .Or [a] pos) tA := by
  intro wh pins s σ H Q I h
  refine isTrue_or (thn (ha pins s σ H Q I h) fun c s1 e => ?_)
  cases c with
  | false => exact isTrue_or_nil e
  | true => exact e
theorem pw_and (ha : PT X a tA) (hb : PW X (.BoolOp .And (b :: rest) pos) tB') : PW X (.BoolOp .And (a :: b :: rest) pos) (tAnd tA tB') := by
  intro wh pins s σ H Q I h
  refine isTrue_and (thn (ha pins s σ H _ I h) fun c s1 ⟨H1, I1, q1⟩ => ?_)
  cases c with
  | true => exact hb wh pins s1 σ H1 Q I1 q1
  | false => exact ⟨H1, I1, q1⟩
theorem pw_or (ha : PT X a tA) (hb : PW X (.BoolOp .Or (b :: rest) pos) tB') : PW X (.BoolOp .Or (a :: b :: rest) pos) (tOr tA tB') := by
  intro wh pins s σ H Q I h
  refine isTrue_or (thn (ha pins s σ H _ I h) fun c s1 ⟨H1, I1, q1⟩ => ?_)
  cases c with
  | true => exact ⟨H1, I1, q1⟩
  | false => exact hb wh pins s1 σ H1 Q I1 q1
theorem pt_not (ha : PT X a tA) : PT X (.UnaryOp .Not a pos) (tNot tA) := by
  intro pins s σ H Q I h
  exact isTrue_not (ha pins s σ H (fun c H1 => Q (!c) H1) I h)
end
end L2
namespace L2
open PySem PySem.Spec PyProof.Rows
def SqL (K : PySem.W.Frag) (H : Hp) (a : Addr) (xs : List V) : Prop :=
  Rd H a (.lst xs) ∨
    ∃ (o : Obj) (its : Array Value) (n : Nat), K.lookup a = some o ∧ o.cls = .type "list" ∧ o.dict = none ∧ o.data = .seq its n ∧ its.size ≤ sizeLine ∧ Vals xs its.toList
def SqT (K : PySem.W.Frag) (H : Hp) (a : Addr) (xs : List V) : Prop :=
  Rd H a (.tup xs) ∨
    ∃ (o : Obj) (its : Array Value) (n : Nat), K.lookup a = some o ∧ o.cls = .type "tuple" ∧ o.data = .seq its n ∧ its.size ≤ sizeLine ∧ Vals xs its.toList
def absV : Value → Option V
  | .none => some .non
  | .bool b => some (.bl b)
  | .int i _ => some (.int i)
  | .str x _ => some (.str x)
  | .bytes b _ => some (.byt b)
  | .float b _ => some (.flt b)
  | .ref a => some (.ref a)
  | .type n => some (.ty n)
  | _ => none
theorem RelV.abs {x : V} {u : Value} (r : RelV x u) : absV u = some x := by
  cases x with
  | non => cases r; rfl
  | bl _ => cases r; rfl
  | int _ => obtain ⟨t, rfl⟩ := r; rfl
  | str _ => obtain ⟨t, rfl⟩ := r; rfl
  | byt _ => obtain ⟨t, rfl⟩ := r; rfl
  | flt _ => obtain ⟨t, rfl⟩ := r; rfl
  | ref _ => cases r; rfl
  | ty _ => cases r; rfl
theorem RelV.inj {x y : V} {u : Value} (r : RelV x u) (q : RelV y u) : x = y := Option.some.inj (r.abs.symm.trans q.abs)
theorem Vals.inj : ∀ {xs ys : List V} {us : List Value}, Vals xs us → Vals ys us → xs = ys
  | _, _, _, .nil, .nil => rfl
  | _, _, _, .cons r t, .cons r' t' => by rw [r.inj r', Vals.inj t t']
section
variable {X : Cx} {pins : List (Addr × Obj)} {σ : St} {H : Hp} {s : Shared} {a : Addr} {xs ys : List V}
theorem SqL.of {K : PySem.W.Frag} (h : H a = some (.lst xs)) : SqL K H a xs := .inl (.inl h)
theorem Inv.list (I : Inv X pins σ H s) (h : SqL X.K H a xs) : ∃ its : List Value, Vals xs its ∧ PlainL s.heap a its.toArray ∧ xs.length ≤ sizeLine := by
  rcases h with h | ⟨o, its, n, hk, hc, hd, hs, hz, r⟩
  · obtain ⟨z, its, n, r, e⟩ := h.ok I.hok
    exact ⟨its, r, ⟨_, n, e, rfl, rfl, rfl⟩, z⟩
  · refine ⟨its.toList, r, ⟨o, n, I.kIn a o hk, hc, hd, by simpa using hs⟩, ?_⟩
    have e := r.length
    simp only [Array.length_toList] at e
    omega
theorem Inv.tuple (I : Inv X pins σ H s) (h : SqT X.K H a xs) : ∃ its : List Value, Vals xs its ∧ IsTup s.heap a its.toArray ∧ xs.length ≤ sizeLine := by
  rcases h with h | ⟨o, its, n, hk, hc, hs, hz, r⟩
  · obtain ⟨z, its, r, p⟩ := h.ok I.hok
    exact ⟨its, r, p, z⟩
  · refine ⟨its.toList, r, ⟨o, I.kIn a o hk, hc, n, by simpa using hs⟩, ?_⟩
    have e := r.length
    simp only [Array.length_toList] at e
    omega
theorem Inv.list_inj (I : Inv X pins σ H s) (h : SqL X.K H a xs) (h' : SqL X.K H a ys) : xs = ys := by
  obtain ⟨its, r, ⟨o, n, e, _, _, d⟩, _⟩ := I.list h
  obtain ⟨its', r', ⟨o', n', e', _, _, d'⟩, _⟩ := I.list h'
  rw [e] at e'; cases e'
  rw [d] at d'
  injection d' with d1 _
  have : its = its' := by simpa using congrArg Array.toList d1
  subst this
  exact r.inj r'
theorem Inv.tuple_inj (I : Inv X pins σ H s) (h : SqT X.K H a xs) (h' : SqT X.K H a ys) : xs = ys := by
  obtain ⟨its, r, ⟨o, e, _, n, d⟩, _⟩ := I.tuple h
  obtain ⟨its', r', ⟨o', e', _, n', d'⟩, _⟩ := I.tuple h'
  rw [e] at e'; cases e'
  rw [d] at d'
  injection d' with d1 _
  have : its = its' := by simpa using congrArg Array.toList d1
  subst this
  exact r.inj r'
end
abbrev Cx.wish (X : Cx) (E : Value → Shared → Prop) : Cx := { X with xe := E }
abbrev Cx.nox (X : Cx) : Cx := X.wish fun _ _ => False
theorem Cx.Ok.wish {X : Cx} (ok : X.Ok) (E : Value → Shared → Prop) : (X.wish E).Ok :=
  ⟨ok.mod, ok.kind, ok.glob, ok.blt, ok.above, ok.inj, ok.has, ok.cab, ok.hd, ok.frames, ok.stk, ok.exf, ok.bs, ok.bsz, ok.noex, ok.exfs, ok.funs, ok.frf⟩
theorem Cx.Ok.unwish {X : Cx} {E : Value → Shared → Prop} (ok : (X.wish E).Ok) : X.Ok :=
  ⟨ok.mod, ok.kind, ok.glob, ok.blt, ok.above, ok.inj, ok.has, ok.cab, ok.hd, ok.frames, ok.stk, ok.exf, ok.bs, ok.bsz, ok.noex, ok.exfs, ok.funs, ok.frf⟩
section
variable {X : Cx} {pins : List (Addr × Obj)} {σ : St} {H : Hp} {s : Shared} {E : Value → Shared → Prop}
theorem Inv.wish (I : Inv X pins σ H s) (E : Value → Shared → Prop) : Inv (X.wish E) pins σ H s := ⟨I.ok.wish E, I.os, I.bare, I.base, I.loc, I.cell, I.free, I.freeC, I.pin, I.hok, I.len⟩
theorem Inv.unwish (I : Inv (X.wish E) pins σ H s) : Inv X pins σ H s := ⟨I.ok.unwish, I.os, I.bare, I.base, I.loc, I.cell, I.free, I.freeC, I.pin, I.hok, I.len⟩
theorem SP.unwish {D : Ends} {f : Flow} {s' : Shared} (h : SP (X.wish E) pins D f s') : SP X pins D f s' := by
  cases f with
  | next => obtain ⟨σ', H', I, q⟩ := h; exact ⟨σ', H', I.unwish, q⟩
  | brk => obtain ⟨σ', H', I, q⟩ := h; exact ⟨σ', H', I.unwish, q⟩
  | cont => obtain ⟨σ', H', I, q⟩ := h; exact ⟨σ', H', I.unwish, q⟩
  | ret u => obtain ⟨v, σ', H', I, r, q⟩ := h; exact ⟨v, σ', H', I.unwish, r, q⟩
theorem PSs.nox {st : List Stmt} {t : TS} (h : PSs X.nox st t) : PSs X st t := fun pins s σ H D I hw =>
  wpAny_mono (h pins s σ H D (I.wish _) hw) (fun _ _ q => q.unwish) fun _ _ z => False.elim z
end
section
variable {X : Cx} {st : Stmt} {rest : List Stmt} {t u : TS} {e : Expr} {te : TE} {pos : Pos}
def tNext : TS := fun D σ H => D.nx σ H
def tSeq (t u : TS) : TS := fun D σ H => t { D with nx := u D } σ H
theorem pss_nil : PSs X [] tNext := fun _ _ σ H _ I h => wpAny_execs_nil ⟨σ, H, I, h⟩
theorem pss_cons (h1 : PS X st t) (h2 : PSs X rest u) : PSs X (st :: rest) (tSeq t u) := by
  intro pins s σ H D I h
  refine wpAny_execs_cons (thn (h1 pins s σ H { D with nx := u D } I h) fun f s1 q => ?_)
  cases f with
  | next =>
    obtain ⟨σ', H', I', q⟩ := q
    exact h2 pins s1 σ' H' D I' q
  | ret v => exact q
  | brk => exact q
  | cont => exact q
theorem pss_one (h1 : PS X st t) : PSs X [st] t := by
  intro pins s σ H D I h
  refine wpAny_execs_cons (thn (h1 pins s σ H D I h) fun f s1 q => ?_)
  cases f with
  | next => exact wpAny_execs_nil q
  | ret v => exact q
  | brk => exact q
  | cont => exact q
theorem Inv.quiet {pins : List (Addr × Obj)} {σ : St} {H : Hp} {s : Shared} (I : Inv X pins σ H s) : interactive X.env = false := by simp [interactive, I.ok.kind]
def tDrop (te : TE) : TS := fun D σ H => te σ H fun _ H1 => D.nx σ H1
theorem ps_expr (he : PE X e te) (hs : swapsWith e none pos.line X.env = pure false := by rfl) : PS X (.Expr e pos) (tDrop te) := by
  intro pins s σ H D I h
  exact wpAny_Expr_any (thn (he pins s σ H _ I h) fun v s1 ⟨x, H1, I1, r1, q1⟩ => ⟨σ, H1, I1, q1⟩) I.quiet hs
def tRet (te : TE) : TS := fun D σ H => te σ H D.rt
theorem ps_ret (he : PE X e te) : PS X (.Return (some e) pos) (tRet te) := by
  intro pins s σ H D I h
  exact wpAny_Return_some (thn (he pins s σ H _ I h) fun v s1 ⟨x, H1, I1, r1, q1⟩ => ⟨x, σ, H1, I1, r1, q1⟩)
def tIfS (c : TT) (t u : TS) : TS := fun D σ H => c σ H fun b H1 => if b = true then t D σ H1 else u D σ H1
theorem ps_if {c : Expr} {a b : List Stmt} {tc : TT} (hc : PT X c tc) (ha : PSs X a t) (hb : PSs X b u) : PS X (.If c a b pos) (tIfS tc t u) := by
  intro pins s σ H D I h
  refine wpAny_If (thn (hc pins s σ H _ I h) fun d s1 ⟨H1, I1, q1⟩ => ?_)
  cases d with
  | true => exact ha pins s1 σ H1 D I1 q1
  | false => exact hb pins s1 σ H1 D I1 q1
end
abbrev TG := V → St → Hp → (St → Hp → Prop) → Prop
def PG (X : Cx) (target : Expr) (t : TG) : Prop :=
  ∀ (pins : List (Addr × Obj)) (s : Shared) (σ : St) (H : Hp) (v : V) (u : Value) (Q : St → Hp → Prop), Inv X pins σ H s → RelV v u → t v σ H Q →
    wpAny (model X.prog X.w) X.A (assign target X.env u) (fun _ s' => ∃ σ' H', Inv X pins σ' H' s' ∧ Q σ' H') X.xe s
abbrev TSet := V → V → V → Hp → (Hp → Prop) → Prop
def PSet (X : Cx) (t : TSet) : Prop :=
  ∀ (pins : List (Addr × Obj)) (s : Shared) (σ : St) (H : Hp) (o i v : V) (ov iv u : Value) (Q : Hp → Prop), Inv X pins σ H s → RelV o ov → RelV i iv → RelV v u → t o i v H Q →
    wpAny (model X.prog X.w) X.A (setItem ov iv u) (fun _ s' => ∃ H', Inv X pins σ H' s' ∧ Q H') X.xe s
section
variable {X : Cx} {pos : Pos}
def gName (i : Nat) : TG := fun v σ H Q => Q (σ.set i (some v)) H
theorem pg_name {i : Nat} {x : Str} (hN : X.N.Nodup) (hi : X.N[i]? = some x) (hx : Loc X.env.scope x) (hf : X.fn x = true ∨ X.env.scope.names.lookup x = some .local := by first | exact .inl rfl | exact .inr rfl | assumption) : PG X (.Name x pos) (gName i) := by
  intro pins s σ H v u Q I r h
  exact wpAny_assign_Name (store_ok I hN hi hx r (fun s' I' => ⟨_, H, I', h⟩) hf)
def gSub (to ti : TE) (t : TSet) : TG := fun v σ H Q => to σ H fun o H1 => ti σ H1 fun i H2 => t o i v H2 fun H3 => Q σ H3
theorem pg_sub {o i : Expr} {to ti : TE} {t : TSet} (ho : PE X o to) (hi : PE X i ti) (hs : PSet X t)
    (ha : ∀ v, assign (.Subscript o i pos) X.env v = (do
      let ov ← holding [v] (eval o X.env)
      let iv ← holding [v, ov] (eval i X.env)
      standAt pos
      holding [v, ov, iv] (setItem ov iv v)
      release [v, ov, iv] []) := by intro _; rfl) : PG X (.Subscript o i pos) (gSub to ti t) := by
  intro pins s σ H v u Q I r h
  rw [ha]
  refine wpAny_bind (wpAny_holding (thn (ho pins s σ H _ I h) fun ov s1 ⟨x, H1, I1, r1, q1⟩ => ?_))
  refine wpAny_bind (wpAny_holding (thn (hi pins s1 σ H1 _ I1 q1) fun iv s2 ⟨y, H2, I2, r2, q2⟩ => ?_))
  refine wpAny_bind (wpAny_standAt (wpAny_bind (wpAny_holding (thn (hs pins s2 σ H2 x y v ov iv u _ I2 r1 r2 r q2) fun _ s3 ⟨H3, I3, q3⟩ => ?_))))
  exact wpAny_release ⟨σ, H3, I3, q3⟩
def tAsg (te : TE) (g : TG) : TS := fun D σ H => te σ H fun x H1 => g x σ H1 D.nx
theorem ps_asg {tg e : Expr} {te : TE} {g : TG} (he : PE X e te) (hg : PG X tg g) (hs : swapsWithSole [tg] e pos.line X.env = pure false := by rfl) (hw : swappedStores [tg] e X.env = pure none := by rfl)
    (h1 : (assignEach [tg] X.env).map (·.2) = [assign tg X.env] := by rfl) : PS X (.Assign [tg] e pos) (tAsg te g) := by
  intro pins s σ H D I h
  refine wpAny_Assign_stores (thn (he pins s σ H _ I h) fun v s1 ⟨x, H1, I1, r1, q1⟩ => ?_) hs hw
  rw [h1]
  exact thn (hg pins s1 σ H1 x v _ I1 r1 q1) fun _ s2 q => q
theorem ps_set {i : Nat} {x : Str} {e : Expr} {te : TE} {pos' : Pos} (hN : X.N.Nodup) (hi : X.N[i]? = some x) (hx : Loc X.env.scope x) (he : PE X e te) (hs : swapsWith e (some (.Name x pos')) pos.line X.env = pure false := by rfl) (hf : X.fn x = true ∨ X.env.scope.names.lookup x = some .local := by first | exact .inl rfl | exact .inr rfl | assumption) :
    PS X (.Assign [.Name x pos'] e pos) (tAsg te (gName i)) := by
  intro pins s σ H D I h
  refine wpAny_Assign_Name (thn (he pins s σ H _ I h) fun v s1 ⟨y, H1, I1, r1, q1⟩ => ?_) hs
  exact store_ok I1 hN hi hx r1 (fun s2 I2 => ⟨_, H1, I2, q1⟩) hf
end
section
variable {X : Cx} {pos : Pos}
end
structure It where
  go : Nat → Hp → Prop
  yld : Nat → Hp → V → Hp → Prop
  stop : Nat → Hp → Prop
def FpOk (X : Cx) (pins : List (Addr × Obj)) (H : Hp) (b : Addr) : Prop :=
  H b = none ∧ b ≠ X.env.locals ∧ b ∉ X.fs ∧ (b ∈ X.ex ∨ X.s₀.heap.objs.size ≤ b) ∧ (∀ x c, X.env.cells.lookup x = some c → c ≠ b) ∧ ∀ p ∈ X.pn ++ pins, p.1 ≠ b
theorem Inv.fpOk {X : Cx} {pins : List (Addr × Obj)} {σ : St} {H H' : Hp} {s : Shared} {b : Addr} (I : Inv X pins σ H s) (hb : s.heap.objs.size ≤ b) (hn : H' b = none) : FpOk X pins H' b := by
  refine ⟨hn, Nat.ne_of_gt (Nat.lt_of_lt_of_le I.lt hb), I.nofs hb, .inr (Nat.le_trans I.sz hb), fun x c e z => ?_, fun p hp z => ?_⟩
  · obtain ⟨v, q⟩ := I.cell x c e
    exact absurd (Nat.lt_of_lt_of_le q.lt (by rw [z]; exact hb)) (Nat.lt_irrefl _)
  · exact absurd (Nat.lt_of_lt_of_le (Heap.lt_size (I.pin p hp).1) (by rw [z]; exact hb)) (Nat.lt_irrefl _)
structure Turn (P : Program) (w : World) (K : PySem.W.Frag) (tg : Expr) (J : It) (fp : List Addr) (it : Addr) (tn : Nat → Heap → Prop) : Prop where
  mem : it ∈ fp
  obj : ∀ i h, tn i h → ∀ b ∈ fp, ∃ o, h.get? b = some o ∧ ∀ v, o.data ≠ .cell v
  keep : ∀ i h h', tn i h → (∀ b ∈ fp, ∀ o, h.get? b = some o → h'.get? b = some o) → tn i h'
  item : ∀ (X : Cx), X.prog = P → X.w = w → X.K = K → X.calm = true → ∀ (i : Nat) (pins : List (Addr × Obj)) (s : Shared) (σ : St) (H : Hp) (E : Value → Shared → Prop), Inv X pins σ H s → (∀ b ∈ fp, FpOk X pins H b) → tn i s.heap → J.go i H →
    wpAny (model P w) X.A (pyNext (.ref it)) (fun r s1 => ∃ u, r = some u ∧
      wpAny (model P w) X.A (letOwnedTupleGo tg (.ref it) u) (fun _ s2 => ∃ x H', Inv X pins σ H' s2 ∧ RelV x u ∧ J.yld i H x H' ∧ tn (i + 1) s2.heap ∧ ∀ b ∈ fp, H' b = none) E s1) E s
  done : ∀ (X : Cx), X.prog = P → X.w = w → X.K = K → X.calm = true → ∀ (i : Nat) (pins : List (Addr × Obj)) (s : Shared) (σ : St) (H : Hp) (E : Value → Shared → Prop), Inv X pins σ H s → (∀ b ∈ fp, FpOk X pins H b) → tn i s.heap → J.stop i H →
    wpAny (model P w) X.A (pyNext (.ref it)) (fun r s1 => r = none ∧ Inv X pins σ H s1) E s
  self : ∀ (A : Around) (i : Nat) (s : Shared) (Q : Value → Shared → Prop) (E : Value → Shared → Prop), tn i s.heap → Q (.ref it) s → wpAny (model P w) A (pyIter (.ref it)) Q E s
abbrev TI := St → Hp → (It → Hp → Prop) → Prop
def PIE (X : Cx) (pins : List (Addr × Obj)) (σ : St) (tg : Expr) (R : It → Hp → Prop) (itv : Value) (s2 : Shared) : Prop :=
  ∃ (it : Addr) (fp : List Addr) (tn : Nat → Heap → Prop) (J : It) (H' : Hp), itv = .ref it ∧ Inv X pins σ H' s2 ∧ Turn X.prog X.w X.K tg J fp it tn ∧ tn 0 s2.heap ∧ (∀ b ∈ fp, FpOk X pins H' b) ∧ R J H'
def PI (X : Cx) (tg iter : Expr) (wi : TI) : Prop :=
  ∀ (pins : List (Addr × Obj)) (s : Shared) (σ : St) (H : Hp) (R : It → Hp → Prop), Inv X pins σ H s → wi σ H R →
    wpAny (model X.prog X.w) X.A (eval iter X.env) (fun v s1 => wpAny (model X.prog X.w) X.A (pyIter v) (PIE X pins σ tg R) X.xe s1) X.xe s
theorem go_of {M : Model} {A : Around} {E : Value → Shared → Prop} {s : Shared} {tg : Expr} {it : Addr} {u : Value} {o : Obj} {n : String} {vs : Array Value} {Q : Unit → Shared → Prop} (ho : s.heap.get? it = some o) (hc : o.cls = .type n) (hd : o.data = .fields vs)
    (hn : ["enumerate", "zip", "dict_itemiterator", "dict_reverseitemiterator", "odict_iterator", "itertools.zip_longest", "itertools.pairwise"].contains n = false) (hQ : Q () s) : wpAny M A (letOwnedTupleGo tg (.ref it) u) Q E s := by
  unfold letOwnedTupleGo
  cases tg <;> first
    | exact wpAny_pure hQ
    | (cases u <;> first
        | exact wpAny_pure hQ
        | (refine wpAny_bind (wpAny_load ho ?_)
           rw [hc, hd]
           show wpAny M A (if (["enumerate", "zip", "dict_itemiterator", "dict_reverseitemiterator", "odict_iterator", "itertools.zip_longest", "itertools.pairwise"].contains n && vs[0]? == some (rawInt _)) = true then _ else _) Q E s
           rw [if_neg (by intro h; rw [hn, Bool.false_and] at h; cases h)]
           exact wpAny_pure hQ))
def Itl (K : PySem.W.Frag) (a : Addr) : It :=
  ⟨fun i H => ∃ xs x, SqL K H a xs ∧ xs[i]? = some x, fun i H x H' => H' = H ∧ ∀ xs, SqL K H a xs → xs[i]? = some x, fun i H => ∃ xs, SqL K H a xs ∧ xs.length ≤ i⟩
def Itt (K : PySem.W.Frag) (a : Addr) : It :=
  ⟨fun i H => ∃ xs x, SqT K H a xs ∧ xs[i]? = some x, fun i H x H' => H' = H ∧ ∀ xs, SqT K H a xs → xs[i]? = some x, fun i H => ∃ xs, SqT K H a xs ∧ xs.length ≤ i⟩
def Itr (lo : Int) (n : Nat) : It := ⟨fun i _ => i < n, fun i H x H' => H' = H ∧ x = .int (lo + i), fun i _ => n ≤ i⟩
theorem turn_list {P : Program} {w : World} {K : PySem.W.Frag} {tg : Expr} (a it : Addr) : Turn P w K tg (Itl K a) [it] it (fun i h => h.IsListIter it a i) where
  mem := by simp
  obj := fun i h st b hb => by
    have e : b = it := by simpa using hb
    subst e
    obtain ⟨o, e, c, d⟩ := st
    exact ⟨o, e, fun v z => by rw [d] at z; cases z⟩
  keep := fun i h h' st k => st.at fun o e => k it (by simp) o e
  item := by
    intro X hP hw hK hc i pins s σ H E I hf st hg
    subst hP hw hK
    obtain ⟨xs, x, hq, hx⟩ := hg
    obtain ⟨its, rv, p, hz⟩ := I.list hq
    obtain ⟨u, hu, ru⟩ := rv.get hx
    obtain ⟨f0, f1, f2, f3, f4, f5⟩ := hf it (by simp)
    refine wpAny_pyNext_list_item st p.isList (x := u) (by simpa using hu) fun h' st' sb => ?_
    have I1 : Inv X pins σ H { s with heap := h' } := I.turned (t' := s.toks) (fun b o hb e => (sb.2 b hb).trans e) f0 f1 f3 f4 f5
    obtain ⟨o, e, c, d⟩ := id st'
    exact ⟨u, rfl, go_of (s := { s with heap := h' }) e c d (by decide) ⟨x, H, I1, ru, ⟨rfl, fun ys hy => by rw [I.list_inj hy hq]; exact hx⟩, st', fun b hb => (hf b hb).1⟩⟩
  done := by
    intro X hP hw hK hc i pins s σ H E I hf st hg
    subst hP hw hK
    obtain ⟨xs, hq, hx⟩ := hg
    obtain ⟨its, rv, p, hz⟩ := I.list hq
    obtain ⟨f0, f1, f2, f3, f4, f5⟩ := hf it (by simp)
    have hl := rv.length
    exact wpAny_pyNext_list_end (I.ok.hd hc) st p.isList (by simp; omega) fun h' eb => ⟨rfl, I.turned (t' := s.toks) (fun b o hb e => eb b o hb e) f0 f1 f3 f4 f5⟩
  self := fun _ _ _ _ _ st h => wpAny_pyIter_listiter st h
theorem turn_tuple {P : Program} {w : World} {K : PySem.W.Frag} {tg : Expr} (a it : Addr) : Turn P w K tg (Itt K a) [it] it (fun i h => h.IsTupleIter it a i) where
  mem := by simp
  obj := fun i h st b hb => by
    have e : b = it := by simpa using hb
    subst e
    obtain ⟨o, e, c, d⟩ := st
    exact ⟨o, e, fun v z => by rw [d] at z; cases z⟩
  keep := fun i h h' st k => st.at fun o e => k it (by simp) o e
  item := by
    intro X hP hw hK hc i pins s σ H E I hf st hg
    subst hP hw hK
    obtain ⟨xs, x, hq, hx⟩ := hg
    obtain ⟨its, rv, p, hz⟩ := I.tuple hq
    obtain ⟨u, hu, ru⟩ := rv.get hx
    obtain ⟨f0, f1, f2, f3, f4, f5⟩ := hf it (by simp)
    refine wpAny_pyNext_tuple_item st (show s.heap.IsTuple a its.toArray from p) (x := u) (by simpa using hu) fun h' st' sb => ?_
    have I1 : Inv X pins σ H { s with heap := h' } := I.turned (t' := s.toks) (fun b o hb e => (sb.2 b hb).trans e) f0 f1 f3 f4 f5
    obtain ⟨o, e, c, d⟩ := id st'
    exact ⟨u, rfl, go_of (s := { s with heap := h' }) e c d (by decide) ⟨x, H, I1, ru, ⟨rfl, fun ys hy => by rw [I.tuple_inj hy hq]; exact hx⟩, st', fun b hb => (hf b hb).1⟩⟩
  done := by
    intro X hP hw hK hc i pins s σ H E I hf st hg
    subst hP hw hK
    obtain ⟨xs, hq, hx⟩ := hg
    obtain ⟨its, rv, p, hz⟩ := I.tuple hq
    obtain ⟨f0, f1, f2, f3, f4, f5⟩ := hf it (by simp)
    have hl := rv.length
    exact wpAny_pyNext_tuple_end (I.ok.hd hc) st (show s.heap.IsTuple a its.toArray from p) (by simp; omega) fun h' eb => ⟨rfl, I.turned (t' := s.toks) (fun b o hb e => eb b o hb e) f0 f1 f3 f4 f5⟩
  self := fun _ _ _ _ _ st h => wpAny_pyIter_tupleiter st h
theorem turn_range {P : Program} {w : World} {K : PySem.W.Frag} {tg : Expr} (it : Addr) (lo : Int) (n : Nat) : Turn P w K tg (Itr lo n) [it] it (fun i h => IsRangeIter h it (lo + (i : Nat) * 1) ((n : Int) - (i : Nat)) 1) where
  mem := by simp
  obj := fun i h st b hb => by
    have e : b = it := by simpa using hb
    subst e
    exact ⟨_, st, fun v z => by
      have z' : Data.fields _ = Data.cell v := z
      cases z'⟩
  keep := fun i h h' st k => k it (by simp) _ st
  item := by
    intro X hP hw hK hc i pins s σ H E I hf st hg
    subst hP hw hK
    obtain ⟨f0, f1, f2, f3, f4, f5⟩ := hf it (by simp)
    have W := Walks.range (prog := X.prog) (w := X.w) (I.ok.hd hc) it lo 1 n
    refine W.item i s _ _ hg st fun v h' tk hv st' kk => ?_
    obtain ⟨t, rfl⟩ := hv
    have I1 : Inv X pins σ H { s with heap := h', toks := tk } := I.turned (fun b o hb e => kk b o (by simpa using hb) e) f0 f1 f3 f4 f5
    refine ⟨_, rfl, go_of (s := { s with heap := h', toks := tk }) (n := "range_iterator") st' rfl rfl (by decide) ⟨.int (lo + i), H, I1, ⟨t, ?_⟩, ⟨rfl, rfl⟩, st', fun b hb => (hf b hb).1⟩⟩
    rw [Int.mul_one]
  done := by
    intro X hP hw hK hc i pins s σ H E I hf st hg
    subst hP hw hK
    obtain ⟨f0, f1, f2, f3, f4, f5⟩ := hf it (by simp)
    exact wpAny_pyNext_range_end (I.ok.hd hc) st (by have : n ≤ i := hg; omega) fun h' eb => ⟨rfl, I.turned (t' := s.toks) (fun b o hb e => eb b o hb e) f0 f1 f3 f4 f5⟩
  self := fun _ _ _ _ _ st h => wpAny_pyIter_rangeiter st h
end L2
namespace L2
open PySem PySem.Spec PyProof.Rows
section
variable {X : Cx} {tg : Expr}
def iList (K : PySem.W.Frag) (tl : TE) : TI := fun σ H R => tl σ H fun x H1 => ∃ a, x = .ref a ∧ (∃ xs, SqL K H1 a xs) ∧ R (Itl K a) H1
def iTup (K : PySem.W.Frag) (tl : TE) : TI := fun σ H R => tl σ H fun x H1 => ∃ a, x = .ref a ∧ (∃ xs, SqT K H1 a xs) ∧ R (Itt K a) H1
theorem pi_list {l : Expr} {tl : TE} (hl : PE X l tl) : PI X tg l (iList X.K tl) := by
  intro pins s σ H R I h
  refine thn (hl pins s σ H _ I h) fun v s1 ⟨x, H1, I1, r1, q1⟩ => ?_
  obtain ⟨a, e, ⟨xs, hq⟩, q⟩ := q1
  subst e
  cases r1
  obtain ⟨its, rv, p, hz⟩ := I1.list hq
  refine wpAny_pyIter_list p.isList ?_
  refine ⟨s1.heap.objs.size, [s1.heap.objs.size], _, _, H1, rfl, I1.kept (t' := s1.toks) fun b o e => Heap.get?_push_of_some _ e, turn_list a _, ⟨_, Heap.get?_push_size _ rfl, rfl, rfl⟩, fun b hb => ?_, q⟩
  have e : b = s1.heap.objs.size := by simpa using hb
  subst e
  exact I1.fpOk (Nat.le_refl _) (I1.hok.fresh (Nat.le_refl _))
theorem pi_tup {l : Expr} {tl : TE} (hl : PE X l tl) : PI X tg l (iTup X.K tl) := by
  intro pins s σ H R I h
  refine thn (hl pins s σ H _ I h) fun v s1 ⟨x, H1, I1, r1, q1⟩ => ?_
  obtain ⟨a, e, ⟨xs, hq⟩, q⟩ := q1
  subst e
  cases r1
  obtain ⟨its, rv, p, hz⟩ := I1.tuple hq
  refine wpAny_pyIter_tuple (show s1.heap.IsTuple a its.toArray from p) ?_
  refine ⟨s1.heap.objs.size, [s1.heap.objs.size], _, _, H1, rfl, I1.kept (t' := s1.toks) fun b o e => Heap.get?_push_of_some _ e, turn_tuple a _, ⟨_, Heap.get?_push_size _ rfl, rfl, rfl⟩, fun b hb => ?_, q⟩
  have e : b = s1.heap.objs.size := by simpa using hb
  subst e
  exact I1.fpOk (Nat.le_refl _) (I1.hok.fresh (Nat.le_refl _))
theorem range_it {pins : List (Addr × Obj)} {σ : St} {H : Hp} {s : Shared} {R : It → Hp → Prop} {E : Value → Shared → Prop} {lo hi : Int} {t u v : Tok} {tk : Nat} (I : Inv X pins σ H s) (h1 : -(2 ^ 62) ≤ lo) (h2 : lo < 2 ^ 62) (h3 : -(2 ^ 62) ≤ hi) (h4 : hi < 2 ^ 62)
    (q : R (Itr lo (hi - lo).toNat) H) : wpAny (model X.prog X.w) X.A (pyIter (.ref s.heap.objs.size)) (PIE X pins σ tg R) E { s with heap := s.heap.push { cls := .type "range", data := .fields #[.int lo t, .int hi u, .int 1 v] }, toks := tk } := by
  refine wpAny_pyIter_range (IsRange.new ..) (small_one h1 h2 h3 h4) ?_
  have I1 : Inv X pins σ H { s with heap := s.heap.push { cls := .type "range", data := .fields #[.int lo t, .int hi u, .int 1 v] }, toks := tk } := I.kept fun b o e => Heap.get?_push_of_some _ e
  refine ⟨(s.heap.push { cls := .type "range", data := .fields #[.int lo t, .int hi u, .int 1 v] }).objs.size, [(s.heap.push { cls := .type "range", data := .fields #[.int lo t, .int hi u, .int 1 v] }).objs.size], _, _, H, rfl,
    I1.kept (t' := tk) fun b o e => Heap.get?_push_of_some _ e, turn_range _ lo (hi - lo).toNat, ?_, fun b hb => ?_, q⟩
  · have e1 : lo + ((0 : Nat) : Int) * 1 = lo := by simp
    have e2 : (((hi - lo).toNat : Nat) : Int) - ((0 : Nat) : Int) = Builtin.Range.rangeSize lo hi 1 := by rw [rangeSize_one]; split <;> omega
    show IsRangeIter _ _ (lo + ((0 : Nat) : Int) * 1) ((((hi - lo).toNat : Nat) : Int) - ((0 : Nat) : Int)) 1
    rw [e1, e2]
    exact Heap.get?_push_size _ rfl
  · have e : b = (s.heap.push { cls := .type "range", data := .fields #[.int lo t, .int hi u, .int 1 v] }).objs.size := by simpa using hb
    subst e
    exact I1.fpOk (Nat.le_refl _) (I1.hok.fresh (Nat.le_refl _))
def iRng1 (ta : TA) : TI := fun σ H R => ta σ H fun vs H1 => ∃ j : Int, vs = [.int j] ∧ -(2 ^ 62) ≤ j ∧ j < 2 ^ 62 ∧ R (Itr 0 j.toNat) H1
theorem pi_range1 {a : Expr} {ta : TA} {p pos : Pos} (hg : Gl X "range") (hm : X.mg "range" = none) (ha : PA X [a] ta) (hs : starEach [a] X.env = [(false, eval a X.env)] := by rfl) : PI X tg (.Call (.Name "range" p) [a] [] pos) (iRng1 ta) := by
  intro pins s σ H R I h
  refine Call_ (ld_blt I hg hm boot_range (PyProof.Rows.callWith_type1 (thn (ha pos pins s σ H _ I h) fun us s1 ⟨vs, H1, I1, r1, q1⟩ => ?_) hs rfl))
  obtain ⟨j, e, q1, q2, q⟩ := q1
  subst e
  cases r1 with
  | cons r rr =>
    cases rr
    obtain ⟨t, rfl⟩ := r
    exact call_range_1 (range_it I1 (by omega) (by omega) q1 q2 (by simpa using q))
def tFor (wi : TI) (g : TG) (tb : TS) : TS := fun D σ H => wi σ H fun J H1 => ∃ W : Nat → Nat → St → Hp → Prop, (∃ m, W 0 m σ H1) ∧ ∀ i m σ H, W i m σ H →
  (J.stop i H ∧ D.nx σ H) ∨ (J.go i H ∧ ∃ N : St → Hp → Prop, (∀ σ' H', N σ' H' → ∃ m', m' < m ∧ W (i + 1) m' σ' H') ∧ ∀ x H', J.yld i H x H' → g x σ H' fun σ2 H2 => tb { D with nx := N, ct := N, bk := D.nx } σ2 H2)
def pinsAt (fp : List Addr) (h : Heap) : List (Addr × Obj) := fp.filterMap fun b => (h.get? b).map fun o => (b, o)
theorem mem_pinsAt {fp : List Addr} {h : Heap} {b : Addr} {o : Obj} (hb : b ∈ fp) (e : h.get? b = some o) : (b, o) ∈ pinsAt fp h := List.mem_filterMap.mpr ⟨b, hb, by rw [e]; rfl⟩
theorem of_pinsAt {fp : List Addr} {h : Heap} {p : Addr × Obj} (hp : p ∈ pinsAt fp h) : p.1 ∈ fp ∧ h.get? p.1 = some p.2 := by
  obtain ⟨b, hb, e⟩ := List.mem_filterMap.mp hp
  cases q : h.get? b with
  | none => rw [q] at e; cases e
  | some o =>
    rw [q] at e
    have e' : (b, o) = p := Option.some.inj e
    subst e'
    exact ⟨hb, q⟩
theorem Inv.pinned {pins : List (Addr × Obj)} {σ : St} {H : Hp} {s : Shared} {fp : List Addr} (I : Inv X pins σ H s) (hf : ∀ b ∈ fp, FpOk X pins H b) (ho : ∀ b ∈ fp, ∃ o, s.heap.get? b = some o ∧ ∀ v, o.data ≠ .cell v) : Inv X (pins ++ pinsAt fp s.heap) σ H s :=
  I.pins_of fun p hp => (List.mem_append.mp hp).elim (fun z => I.pin p (List.mem_append_right _ z)) fun z => by
    obtain ⟨hb, e⟩ := of_pinsAt z
    obtain ⟨f0, f1, f2, _⟩ := hf p.1 hb
    obtain ⟨o, e', d⟩ := ho p.1 hb
    rw [e] at e'; cases e'
    exact ⟨e, f0, f1, f2, d⟩
theorem Inv.unpinned {pins pl : List (Addr × Obj)} {σ : St} {H : Hp} {s : Shared} (I : Inv X (pins ++ pl) σ H s) : Inv X pins σ H s := I.pins_of fun p hp => I.pin p (List.mem_append_right _ (List.mem_append_left _ hp))
theorem ps_for {iter : Expr} {body : List Stmt} {wi : TI} {g : TG} {tb : TS} {pos : Pos} (hp : PassesOwn (model X.prog X.w) X.A X.env X.xe) (hc : X.calm = true) (hi : PI X tg iter wi) (hg : PG X tg g) (hb : PSs X body tb)
    (hs : ∀ x, foldedSetIterable iter X.env x = pure x := by intro _; rfl) : PS X (.For tg iter body [] pos) (tFor wi g tb) := by
  intro pins s σ H D I h
  refine wpAny_For (thn (hi pins s σ H _ I h) fun v s1 h1 => thn h1 fun itv s2 h2 => ?_) hs
  obtain ⟨it, fp, tn, J, H2, e, I2, T, st2, f2, W, ⟨m0, w0⟩, turn⟩ := h2
  subst e
  -- what stays true of the iterator's objects through the loop
  have stat : ∀ {H' : Hp}, (∀ b ∈ fp, H' b = none) → ∀ b ∈ fp, FpOk X pins H' b := fun hn b hb => ⟨hn b hb, (f2 b hb).2⟩
  refine codeAny_forLoop_any (fun n s' => ∃ i σ' H', Inv X pins σ' H' s' ∧ tn i s'.heap ∧ (∀ b ∈ fp, H' b = none) ∧ W i n σ' H') ?_ m0 ⟨0, σ, H2, I2, st2, fun b hb => (f2 b hb).1, w0⟩
  rintro n s3 ⟨i, σ3, H3, I3, st3, fr3, w3⟩
  rcases turn i n σ3 H3 w3 with ⟨stop, qn⟩ | ⟨go, N, hN, step⟩
  · refine wpAny_passesOwn hp (thn (T.done X rfl rfl rfl hc i pins s3 σ3 H3 X.xe I3 (stat fr3) st3 stop) fun r s4 ⟨hr, I4⟩ => ?_)
    subst hr
    exact wpAny_execs_nil ⟨σ3, H3, I4, qn⟩
  · refine wpAny_passesOwn hp (thn (T.item X rfl rfl rfl hc i pins s3 σ3 H3 X.xe I3 (stat fr3) st3 go) fun r s4 ⟨u, hr, h4⟩ => ?_)
    subst hr
    refine wpAny_passesOwn hp (thn h4 fun _ s5 ⟨x, H5, I5, r5, y5, st5, fr5⟩ => ?_)
    have I5' := I5.pinned (stat fr5) (T.obj _ _ st5)
    refine wpAny_passesOwn hp (thn (hg _ s5 σ3 H5 x u _ I5' r5 (step x H5 y5)) fun _ s6 ⟨σ6, H6, I6, q6⟩ => ?_)
    refine wpAny_passesOwn hp (thn (hb _ s6 σ6 H6 _ I6 q6) fun f s7 q7 => ?_)
    have again : ∀ {σ7 : St} {H7 : Hp}, Inv X (pins ++ pinsAt fp s5.heap) σ7 H7 s7 → N σ7 H7 → ∃ m, m < n ∧ ∃ i σ' H', Inv X pins σ' H' s7 ∧ tn i s7.heap ∧ (∀ b ∈ fp, H' b = none) ∧ W i m σ' H' := fun {σ7 H7} I7 n7 => by
      obtain ⟨m', hm, w7⟩ := hN σ7 H7 n7
      refine ⟨m', hm, i + 1, σ7, H7, I7.unpinned, T.keep _ _ _ st5 fun b hb o e => (I7.pin (b, o) (List.mem_append_right _ (List.mem_append_right _ (mem_pinsAt hb e)))).1, fun b hb => ?_, w7⟩
      obtain ⟨o, e, d⟩ := T.obj _ _ st5 b hb
      exact (I7.pin (b, o) (List.mem_append_right _ (List.mem_append_right _ (mem_pinsAt hb e)))).2.1
    cases f with
    | next => obtain ⟨σ7, H7, I7, n7⟩ := q7; exact again I7 n7
    | cont => obtain ⟨σ7, H7, I7, n7⟩ := q7; exact again I7 n7
    | brk => obtain ⟨σ7, H7, I7, q7⟩ := q7; exact ⟨σ7, H7, I7.unpinned, q7⟩
    | ret v => obtain ⟨x7, σ7, H7, I7, r7, q7⟩ := q7; exact ⟨x7, σ7, H7, I7.unpinned, r7, q7⟩
end
theorem for_list {K : PySem.W.Frag} {a : Addr} {xs : List V} {g : TG} {tb : TS} {D : Ends} {σ : St} {H : Hp} (Pv : Nat → St → Hp → Prop) (h0 : Pv 0 σ H) (hl : ∀ i σ H, i ≤ xs.length → Pv i σ H → SqL K H a xs)
    (hs : ∀ i x σ H, xs[i]? = some x → Pv i σ H → g x σ H fun σ2 H2 => tb { D with nx := Pv (i + 1), ct := Pv (i + 1), bk := D.nx } σ2 H2) (hd : ∀ σ H, Pv xs.length σ H → D.nx σ H) :
    ∃ W : Nat → Nat → St → Hp → Prop, (∃ m, W 0 m σ H) ∧ ∀ i m σ H, W i m σ H →
      ((Itl K a).stop i H ∧ D.nx σ H) ∨ ((Itl K a).go i H ∧ ∃ N : St → Hp → Prop, (∀ σ' H', N σ' H' → ∃ m', m' < m ∧ W (i + 1) m' σ' H') ∧ ∀ x H', (Itl K a).yld i H x H' → g x σ H' fun σ2 H2 => tb { D with nx := N, ct := N, bk := D.nx } σ2 H2) := by
  refine ⟨fun i m σ H => m = xs.length - i ∧ i ≤ xs.length ∧ Pv i σ H, ⟨xs.length, by simp, Nat.zero_le _, h0⟩, ?_⟩
  rintro i m σ H ⟨rfl, hi, p⟩
  have q := hl i σ H hi p
  by_cases hlt : i < xs.length
  · refine .inr ⟨⟨xs, xs[i], q, by simp [hlt]⟩, Pv (i + 1), fun σ' H' p' => ⟨xs.length - (i + 1), by omega, rfl, hlt, p'⟩, fun x H' y => ?_⟩
    obtain ⟨e, y⟩ := y
    subst e
    exact hs i x σ _ (y xs q) p
  · have e : i = xs.length := by omega
    subst e
    exact .inl ⟨⟨xs, q, Nat.le_refl _⟩, hd σ H p⟩
theorem for_tup {K : PySem.W.Frag} {a : Addr} {xs : List V} {g : TG} {tb : TS} {D : Ends} {σ : St} {H : Hp} (Pv : Nat → St → Hp → Prop) (h0 : Pv 0 σ H) (hl : ∀ i σ H, i ≤ xs.length → Pv i σ H → SqT K H a xs)
    (hs : ∀ i x σ H, xs[i]? = some x → Pv i σ H → g x σ H fun σ2 H2 => tb { D with nx := Pv (i + 1), ct := Pv (i + 1), bk := D.nx } σ2 H2) (hd : ∀ σ H, Pv xs.length σ H → D.nx σ H) :
    ∃ W : Nat → Nat → St → Hp → Prop, (∃ m, W 0 m σ H) ∧ ∀ i m σ H, W i m σ H →
      ((Itt K a).stop i H ∧ D.nx σ H) ∨ ((Itt K a).go i H ∧ ∃ N : St → Hp → Prop, (∀ σ' H', N σ' H' → ∃ m', m' < m ∧ W (i + 1) m' σ' H') ∧ ∀ x H', (Itt K a).yld i H x H' → g x σ H' fun σ2 H2 => tb { D with nx := N, ct := N, bk := D.nx } σ2 H2) := by
  refine ⟨fun i m σ H => m = xs.length - i ∧ i ≤ xs.length ∧ Pv i σ H, ⟨xs.length, by simp, Nat.zero_le _, h0⟩, ?_⟩
  rintro i m σ H ⟨rfl, hi, p⟩
  have q := hl i σ H hi p
  by_cases hlt : i < xs.length
  · refine .inr ⟨⟨xs, xs[i], q, by simp [hlt]⟩, Pv (i + 1), fun σ' H' p' => ⟨xs.length - (i + 1), by omega, rfl, hlt, p'⟩, fun x H' y => ?_⟩
    obtain ⟨e, y⟩ := y
    subst e
    exact hs i x σ _ (y xs q) p
  · have e : i = xs.length := by omega
    subst e
    exact .inl ⟨⟨xs, q, Nat.le_refl _⟩, hd σ H p⟩
theorem for_range {lo : Int} {n : Nat} {g : TG} {tb : TS} {D : Ends} {σ : St} {H : Hp} (Pv : Nat → St → Hp → Prop) (h0 : Pv 0 σ H)
    (hs : ∀ i σ H, i < n → Pv i σ H → g (.int (lo + i)) σ H fun σ2 H2 => tb { D with nx := Pv (i + 1), ct := Pv (i + 1), bk := D.nx } σ2 H2) (hd : ∀ σ H, Pv n σ H → D.nx σ H) :
    ∃ W : Nat → Nat → St → Hp → Prop, (∃ m, W 0 m σ H) ∧ ∀ i m σ H, W i m σ H →
      ((Itr lo n).stop i H ∧ D.nx σ H) ∨ ((Itr lo n).go i H ∧ ∃ N : St → Hp → Prop, (∀ σ' H', N σ' H' → ∃ m', m' < m ∧ W (i + 1) m' σ' H') ∧ ∀ x H', (Itr lo n).yld i H x H' → g x σ H' fun σ2 H2 => tb { D with nx := N, ct := N, bk := D.nx } σ2 H2) := by
  refine ⟨fun i m σ H => m = n - i ∧ i ≤ n ∧ Pv i σ H, ⟨n, by simp, Nat.zero_le _, h0⟩, ?_⟩
  rintro i m σ H ⟨rfl, hi, p⟩
  by_cases hlt : i < n
  · refine .inr ⟨hlt, Pv (i + 1), fun σ' H' p' => ⟨n - (i + 1), by omega, rfl, hlt, p'⟩, fun x H' y => ?_⟩
    obtain ⟨e, y⟩ := y
    subst e y
    exact hs i σ _ hlt p
  · have e : i = n := by omega
    subst e
    exact .inl ⟨Nat.le_refl _, hd σ H p⟩
end L2
namespace L2
open PySem PySem.Spec PyProof.Rows
abbrev R2 := V → V → Hp → VK → Prop
def OpR (X : Cx) (f : Value → Value → Sem Value) (r : R2) : Prop :=
  ∀ (pins : List (Addr × Obj)) (s : Shared) (σ : St) (H : Hp) (x y : V) (v u : Value) (Q : VK), Inv X pins σ H s → RelV x v → RelV y u → r x y H Q →
    wpAny (model X.prog X.w) X.A (f v u) (EP X pins σ Q) X.xe s
def CallR (X : Cx) (f : Value) (r : List V → Hp → VK → Prop) : Prop :=
  ∀ (pins : List (Addr × Obj)) (s : Shared) (σ : St) (H : Hp) (xs : List V) (us : List Value) (Q : VK), Inv X pins σ H s → Vals xs us → r xs H Q →
    wpAny (model X.prog X.w) X.A (call f us) (EP X pins σ Q) X.xe s
def tOp (r : R2) (ta tb : TE) : TE := fun σ H Q => ta σ H fun x H1 => tb σ H1 fun y H2 => r x y H2 Q
def rI (C : Int → Int → Prop) (g : Int → Int → V) : R2 := fun x y H Q => ∃ i j, x = .int i ∧ y = .int j ∧ C i j ∧ Q (g i j) H
def rI0 (g : Int → Int → V) : R2 := fun x y H Q => ∃ i j, x = .int i ∧ y = .int j ∧ Q (g i j) H
section
variable {X : Cx} {a b c : Expr} {ta tb tc : TE} {pos : Pos}
theorem binT (ha : PE X a ta) (hb : PE X b tb) {pins : List (Addr × Obj)} {s : Shared} {σ : St} {H : Hp} {R : V → V → Hp → Prop} (I : Inv X pins σ H s)
    (h : ta σ H fun x H1 => tb σ H1 fun y H2 => R x y H2) {Q : Value → Shared → Prop} {f : Value → Value → Sem Value}
    (hf : ∀ v u s2 x y H2, Inv X pins σ H2 s2 → RelV x v → RelV y u → R x y H2 → wpAny (model X.prog X.w) X.A (f v u) Q X.xe s2) :
    wpAny (model X.prog X.w) X.A (eval a X.env) (fun v s₁ => wpAny (model X.prog X.w) X.A (eval b X.env) (fun u s₂ => wpAny (model X.prog X.w) X.A (f v u) Q X.xe s₂) X.xe s₁) X.xe s := by
  refine thn (ha pins s σ H _ I h) fun v s1 ⟨x, H1, I1, r1, q1⟩ => ?_
  refine thn (hb pins s1 σ H1 _ I1 q1) fun u s2 ⟨y, H2, I2, r2, q2⟩ => ?_
  exact hf v u s2 x y H2 I2 r1 r2 q2
theorem pe_op {op : Operator} {r : R2} (ho : OpR X (binaryOp op) r) (ha : PE X a ta) (hb : PE X b tb) : PE X (.BinOp a op b pos) (tOp r ta tb) := by
  intro pins s σ H Q I h
  exact wpAny_BinOp (binT ha hb I h fun v u s2 x y H2 I2 rx ry q => ho pins s2 σ H2 x y v u Q I2 rx ry q)
theorem opI {f : Value → Value → Sem Value} {C : Int → Int → Prop} {g : Int → Int → Int}
    (rule : ∀ (i j : Int) (t u : Tok) (s : Shared) (Q : Value → Shared → Prop) (E : Value → Shared → Prop), C i j → Q (.int (g i j) s.toks) { s with toks := s.toks + 1 } → wpAny (model X.prog X.w) X.A (f (.int i t) (.int j u)) Q E s) :
    OpR X f (rI C fun i j => .int (g i j)) := by
  intro pins s σ H x y v u Q I rx ry h
  obtain ⟨i, j, rfl, rfl, hc, q⟩ := h
  obtain ⟨t, rfl⟩ := rx
  obtain ⟨t', rfl⟩ := ry
  exact rule i j t t' s _ _ hc ⟨.int (g i j), H, I.tok _, ⟨_, rfl⟩, q⟩
theorem opI0 {f : Value → Value → Sem Value} {g : Int → Int → Int}
    (rule : ∀ (i j : Int) (t u : Tok) (s : Shared) (Q : Value → Shared → Prop) (E : Value → Shared → Prop), Q (.int (g i j) s.toks) { s with toks := s.toks + 1 } → wpAny (model X.prog X.w) X.A (f (.int i t) (.int j u)) Q E s) :
    OpR X f (rI0 fun i j => .int (g i j)) := by
  intro pins s σ H x y v u Q I rx ry h
  obtain ⟨i, j, rfl, rfl, q⟩ := h
  obtain ⟨t, rfl⟩ := rx
  obtain ⟨t', rfl⟩ := ry
  exact rule i j t t' s _ _ ⟨.int (g i j), H, I.tok _, ⟨_, rfl⟩, q⟩
theorem opB0 {f : Value → Value → Sem Value} {g : Int → Int → Bool}
    (rule : ∀ (i j : Int) (t u : Tok) (s : Shared) (Q : Value → Shared → Prop) (E : Value → Shared → Prop), Q (.bool (g i j)) s → wpAny (model X.prog X.w) X.A (f (.int i t) (.int j u)) Q E s) :
    OpR X f (rI0 fun i j => .bl (g i j)) := by
  intro pins s σ H x y v u Q I rx ry h
  obtain ⟨i, j, rfl, rfl, q⟩ := h
  obtain ⟨t, rfl⟩ := rx
  obtain ⟨t', rfl⟩ := ry
  exact rule i j t t' s _ _ ⟨.bl (g i j), H, I, rfl, q⟩
def CDiv (i j : Int) : Prop := 0 < j ∧ j < 1073741824
def CMul (i j : Int) : Prop := (-(2 ^ 64) < i ∧ i < 2 ^ 64) ∨ (-(2 ^ 64) < j ∧ j < 2 ^ 64)
theorem CMul.ok {i j : Int} (h : CMul i j) : IntMulOk i j := by
  rcases h with ⟨h1, h2⟩ | ⟨h1, h2⟩
  · exact .of_left (intBits_le_64 h1 h2)
  · exact .of_right (intBits_le_64 h1 h2)
theorem op_add : OpR X (binaryOp .Add) (rI0 fun i j => .int (i + j)) := opI0 fun _ _ _ _ _ _ _ q => add_int q
theorem op_sub : OpR X (binaryOp .Sub) (rI0 fun i j => .int (i - j)) := opI0 fun _ _ _ _ _ _ _ q => sub_int q
theorem op_mul : OpR X (binaryOp .Mult) (rI CMul fun i j => .int (i * j)) := opI fun _ _ _ _ _ _ _ hc q => mul_int q hc.ok
theorem op_fdiv : OpR X (binaryOp .FloorDiv) (rI CDiv fun i j => .int (i / j)) := opI fun i j _ _ _ _ _ hc q => by
  have h1 : (0 : Int) < j := hc.1
  have h2 : j < 1073741824 := hc.2
  exact floordiv_int (by omega) (by rw [Int.fdiv_eq_ediv_of_nonneg i (by omega)]; exact q) (.inl (PyProof.noPylong_small (by omega)))
theorem op_mod : OpR X (binaryOp .Mod) (rI (fun _ j => 0 < j) fun i j => .int (i % j)) := opI fun i j _ _ _ _ _ hc q => by
  have h1 : (0 : Int) < j := hc
  exact mod_int' (by omega) (by rw [Int.fmod_eq_emod_of_nonneg i (by omega)]; exact q)
end
def scal : V → V → Bool
  | .non, .non => true | .non, .int _ => true | .int _, .non => true | .non, .bl _ => true | .bl _, .non => true | .non, .str _ => true | .str _, .non => true
  | .int _, .int _ => true | .bl _, .bl _ => true | .str _, .str _ => true | .byt _, .byt _ => true
  | .int _, .str _ => true | .str _, .int _ => true | .bl _, .str _ => true | .str _, .bl _ => true
  | _, _ => false
def rEq : R2 := fun x y H Q => scal x y = true ∧ Q (.bl (decide (x = y))) H
def rNe : R2 := fun x y H Q => scal x y = true ∧ Q (.bl (!decide (x = y))) H
theorem dec_int {i j : Int} : decide (V.int i = V.int j) = (i == j) := by
  rw [Bool.eq_iff_iff]
  simp
theorem dec_bl {i j : Bool} : decide (V.bl i = V.bl j) = (i == j) := by
  rw [Bool.eq_iff_iff]
  simp
theorem dec_str {i j : Str} : decide (V.str i = V.str j) = (i == j) := by
  rw [Bool.eq_iff_iff]
  simp
theorem dec_byt {i j : Array UInt8} : decide (V.byt i = V.byt j) = (i.toList == j.toList) := by
  rw [Bool.eq_iff_iff]
  cases i
  cases j
  simp
section
variable {X : Cx} {a b c : Expr} {ta tb tc : TE} {pos : Pos}
theorem fin_bl {pins : List (Addr × Obj)} {σ : St} {H : Hp} {s : Shared} {Q : VK} {k k' : Bool} (I : Inv X pins σ H s) (q : Q (.bl k) H) (e : k = k') : EP X pins σ Q (.bool k') s := by
  subst e
  exact ⟨.bl k, H, I, rfl, q⟩
theorem op_eq : OpR X (compareOp .Eq) rEq := by
  intro pins s σ H x y v u Q I rx ry h
  obtain ⟨hs, q⟩ := h
  cases x with
  | non =>
    cases rx
    cases y with
    | non => cases ry; exact PySem.EqNone.eq_none_none (fin_bl I q (by simp))
    | bl j => cases ry; exact PySem.EqNone.eq_none_bool (fin_bl I q (by simp))
    | int j => obtain ⟨t', rfl⟩ := ry; exact PySem.EqNone.eq_none_int (fin_bl I q (by simp))
    | str j => obtain ⟨t', rfl⟩ := ry; exact PySem.EqNone.eq_none_str (fin_bl I q (by simp))
    | _ => exact absurd (show false = true from hs) Bool.false_ne_true
  | bl i =>
    cases rx
    cases y with
    | non => cases ry; exact PySem.EqNone.eq_bool_none (fin_bl I q (by simp))
    | bl j => cases ry; exact eq_bool (fin_bl I q dec_bl)
    | str j => obtain ⟨t', rfl⟩ := ry; exact PySem.EqMixed.eq_bool_str (fin_bl I q (by simp))
    | _ => exact absurd (show false = true from hs) Bool.false_ne_true
  | int i =>
    obtain ⟨t, rfl⟩ := rx
    cases y with
    | non => cases ry; exact PySem.EqNone.eq_int_none (fin_bl I q (by simp))
    | int j => obtain ⟨t', rfl⟩ := ry; exact eq_int (fin_bl I q dec_int)
    | str j => obtain ⟨t', rfl⟩ := ry; exact PySem.EqMixed.eq_int_str (fin_bl I q (by simp))
    | _ => exact absurd (show false = true from hs) Bool.false_ne_true
  | str i =>
    obtain ⟨t, rfl⟩ := rx
    cases y with
    | non => cases ry; exact PySem.EqNone.eq_str_none (fin_bl I q (by simp))
    | bl j => cases ry; exact PySem.EqMixed.eq_str_bool (fin_bl I q (by simp))
    | int j => obtain ⟨t', rfl⟩ := ry; exact PySem.EqMixed.eq_str_int (fin_bl I q (by simp))
    | str j => obtain ⟨t', rfl⟩ := ry; exact eq_str (fin_bl I q dec_str)
    | _ => exact absurd (show false = true from hs) Bool.false_ne_true
  | byt i =>
    obtain ⟨t, rfl⟩ := rx
    cases y with
    | byt j => obtain ⟨t', rfl⟩ := ry; exact PySem.W.eq_bytes (fin_bl I q dec_byt)
    | _ => exact absurd (show false = true from hs) Bool.false_ne_true
  | _ => cases y <;> exact absurd (show false = true from hs) Bool.false_ne_true
theorem op_ne : OpR X (compareOp .NotEq) rNe := by
  intro pins s σ H x y v u Q I rx ry h
  obtain ⟨hs, q⟩ := h
  cases x with
  | non =>
    cases rx
    cases y with
    | non => cases ry; exact PySem.EqNone.ne_none_none (fin_bl I q (by simp))
    | bl j => cases ry; exact PySem.EqNone.ne_none_bool (fin_bl I q (by simp))
    | int j => obtain ⟨t', rfl⟩ := ry; exact PySem.EqNone.ne_none_int (fin_bl I q (by simp))
    | str j => obtain ⟨t', rfl⟩ := ry; exact PySem.EqNone.ne_none_str (fin_bl I q (by simp))
    | _ => exact absurd (show false = true from hs) Bool.false_ne_true
  | bl i =>
    cases rx
    cases y with
    | non => cases ry; exact PySem.EqNone.ne_bool_none (fin_bl I q (by simp))
    | bl j => cases ry; exact ne_bool (fin_bl I q (congrArg not dec_bl))
    | str j => obtain ⟨t', rfl⟩ := ry; exact PySem.EqMixed.ne_bool_str (fin_bl I q (by simp))
    | _ => exact absurd (show false = true from hs) Bool.false_ne_true
  | int i =>
    obtain ⟨t, rfl⟩ := rx
    cases y with
    | non => cases ry; exact PySem.EqNone.ne_int_none (fin_bl I q (by simp))
    | int j => obtain ⟨t', rfl⟩ := ry; exact ne_int (fin_bl I q (congrArg not dec_int))
    | str j => obtain ⟨t', rfl⟩ := ry; exact PySem.EqMixed.ne_int_str (fin_bl I q (by simp))
    | _ => exact absurd (show false = true from hs) Bool.false_ne_true
  | str i =>
    obtain ⟨t, rfl⟩ := rx
    cases y with
    | non => cases ry; exact PySem.EqNone.ne_str_none (fin_bl I q (by simp))
    | bl j => cases ry; exact PySem.EqMixed.ne_str_bool (fin_bl I q (by simp))
    | int j => obtain ⟨t', rfl⟩ := ry; exact PySem.EqMixed.ne_str_int (fin_bl I q (by simp))
    | str j => obtain ⟨t', rfl⟩ := ry; exact ne_str (fin_bl I q (congrArg not dec_str))
    | _ => exact absurd (show false = true from hs) Bool.false_ne_true
  | byt i =>
    obtain ⟨t, rfl⟩ := rx
    cases y with
    | byt j => obtain ⟨t', rfl⟩ := ry; exact PySem.W.ne_bytes (fin_bl I q (congrArg not dec_byt))
    | _ => exact absurd (show false = true from hs) Bool.false_ne_true
  | _ => cases y <;> exact absurd (show false = true from hs) Bool.false_ne_true
theorem op_lt : OpR X (compareOp .Lt) (rI0 fun i j => .bl (decide (i < j))) := opB0 fun _ _ _ _ _ _ _ q => lt_int q
theorem op_le : OpR X (compareOp .LtE) (rI0 fun i j => .bl (decide (i ≤ j))) := opB0 fun _ _ _ _ _ _ _ q => le_int q
theorem op_gt : OpR X (compareOp .Gt) (rI0 fun i j => .bl (decide (j < i))) := opB0 fun _ _ _ _ _ _ _ q => gt_int q
theorem nomark (b : Expr) {op : CmpOp} (h : op ≠ .In := by decide) (h2 : op ≠ .NotIn := by decide) : behindInMarks op b = false := by
  have e1 : (op == CmpOp.In) = false := by cases op <;> first | rfl | exact absurd rfl h
  have e2 : (op == CmpOp.NotIn) = false := by cases op <;> first | rfl | exact absurd rfl h2
  cases b <;> simp [behindInMarks, e1, e2]
theorem pe_cmpR {op : CmpOp} {r : R2} (ho : OpR X (compareOp op) r) (ha : PE X a ta) (hb : PE X b tb) (hm : behindInMarks op b = false) : PE X (.Compare a [op] [b] pos) (tOp r ta tb) := by
  intro pins s σ H Q I h
  exact wpAny_Compare1 (binT ha hb I h fun v u s2 x y H2 I2 rx ry q => ho pins s2 σ H2 x y v u Q I2 rx ry q) hm
def tTest (t : TE) : TT := fun σ H Q => t σ H fun x H' => ∃ k, x = .bl k ∧ Q k H'
theorem pt_cmpR {op : CmpOp} {r : R2} (ho : OpR X (compareOp op) r) (ha : PE X a ta) (hb : PE X b tb) (hm : behindInMarks op b = false) : PT X (.Compare a [op] [b] pos) (tTest (tOp r ta tb)) := by
  intro pins s σ H Q I h
  refine wpAny_isTrue_Compare1 (thn (ha pins s σ H _ I h) fun v s1 ⟨x, H1, I1, r1, q1⟩ => thn (hb pins s1 σ H1 _ I1 q1) fun u s2 ⟨y, H2, I2, r2, q2⟩ =>
    thn (ho pins s2 σ H2 x y v u _ I2 r1 r2 q2) fun c s3 ⟨z, H3, I3, r3, k, e, q3⟩ => ?_) hm
  subst e
  cases r3
  exact wpAny_truthy_bool ⟨H3, I3, q3⟩
theorem line63 : (sizeLine : Nat) < 2 ^ 63 := by rw [sizeLine_eq]; decide
theorem op_add_str : OpR X (binaryOp .Add) (fun x y H Q => ∃ i j, x = .str i ∧ y = .str j ∧ i.length + j.length ≤ sizeLine ∧ Q (.str (i ++ j)) H) := by
  intro pins s σ H x y v u Q I rx ry h
  obtain ⟨i, j, rfl, rfl, hz, q⟩ := h
  obtain ⟨t, rfl⟩ := rx
  obtain ⟨t', rfl⟩ := ry
  exact add_str (fun t' tk => ⟨.str (i ++ j), H, I.tok _, ⟨_, rfl⟩, q⟩) hz
theorem vals1 {x : V} {us : List Value} (r : Vals [x] us) : ∃ u, us = [u] ∧ RelV x u := by
  cases r with
  | cons r1 r2 => cases r2; exact ⟨_, rfl, r1⟩
theorem vals2 {x y : V} {us : List Value} (r : Vals [x, y] us) : ∃ u w', us = [u, w'] ∧ RelV x u ∧ RelV y w' := by
  cases r with
  | cons r1 r2 =>
    cases r2 with
    | cons r3 r4 => cases r4; exact ⟨_, _, rfl, r1, r3⟩
theorem call_max2 (hc : X.calm = true) : CallR X (.builtin "max") (fun xs H Q => ∃ i j, xs = [.int i, .int j] ∧ Q (.int (if j > i then j else i)) H) := by
  intro pins s σ H xs us Q I r h
  obtain ⟨i, j, rfl, q⟩ := h
  obtain ⟨u, w', rfl, ⟨t, rfl⟩, ⟨t', rfl⟩⟩ := vals2 r
  refine max_two_ints (I.ok.hd hc) fun h' tk k => ⟨_, H, I.kept k, ?_, q⟩
  by_cases hj : j > i
  · rw [if_pos hj, if_pos hj]; exact ⟨_, rfl⟩
  · rw [if_neg hj, if_neg hj]; exact ⟨_, rfl⟩
theorem call_str_int : CallR X (.type "str") (fun xs H Q => ∃ i, xs = [.int i] ∧ i.natAbs.log2 < 1920 ∧ Q (.str (toString i)) H) := by
  intro pins s σ H xs us Q I r h
  obtain ⟨i, rfl, hz, q⟩ := h
  obtain ⟨u, rfl, t, rfl⟩ := vals1 r
  exact PySem.P.str_of_int hz ⟨.str _, H, I.tok _, ⟨_, rfl⟩, q⟩
end
end L2
namespace L2
open PySem PySem.Spec PyProof.Rows
section
variable {prog : Program} {w : World} {A : Around} {E : Value → Shared → Prop} {s : Shared} {K : PySem.W.Frag} {x dx C f : Addr} {mA : Str → Option Value} {name : Str} {v : Value}
end
section
variable {P : Program} {w : World} {H H' : Hp} {h h' : Heap} {a C dx : Addr} {fs fs' : List (Str × V)}
end
section
variable {X : Cx} {pins : List (Addr × Obj)} {σ : St} {H : Hp} {s : Shared} {a C dx : Addr} {fs : List (Str × V)} {f : Str} {v : V} {A : Around} {E : Value → Shared → Prop}
end
section
variable {X : Cx} {o e value : Expr} {f : Str} {pos pos' tpos : Pos} {ta tv : TE}
end
section
variable {X : Cx} {pins : List (Addr × Obj)} {σ : St} {H : Hp} {s : Shared} {A : Around} {E : Value → Shared → Prop} {Q : Value → Shared → Prop} {c : Value} {b : Bool}
end
end L2
namespace L2
open PySem PySem.Spec PyProof.Rows
structure Room (k : Nat) (A : Around) : Prop where
  hd : A.handled = none
  dp : A.depth + 3 * k + 5 < recursionLimit
  un : A.units + 16 * k + 200 < cLine
theorem Room.mono {j k : Nat} {A : Around} (r : Room k A) (h : j ≤ k) : Room j A := ⟨r.hd, by have := r.dp; omega, by have := r.un; omega⟩
theorem Room.deeper {k : Nat} {A : Around} (r : Room (k + 1) A) (env : Env) : Room k (A.deeper env) :=
  ⟨r.hd, by have := r.dp; show A.depth + 1 + 3 * k + 5 < _; omega, by have := r.un; show A.units + 3 + 16 * k + 200 < _; omega⟩
theorem Room.depth {k : Nat} {A : Around} (r : Room k A) : A.depth < recursionLimit := by have := r.dp; omega
def tNil : TA := fun _ H Q => Q [] H
def tCons (ta : TE) (tr : TA) : TA := fun σ H Q => ta σ H fun x H1 => tr σ H1 fun xs H2 => Q (x :: xs) H2
section
variable {X : Cx} {e : Expr} {es : List Expr} {te : TE} {t : TA} {pos : Pos}
theorem pa_nil : PA X [] tNil := fun _ _ _ _ H Q I h => Calls.spliced_nil ⟨[], H, I, .nil, h⟩
theorem pa_cons (ha : PE X e te) (hr : PA X es t) (hs : starEach (e :: es) X.env = (false, eval e X.env) :: starEach es X.env := by rfl) : PA X (e :: es) (tCons te t) := by
  intro pos pins s σ H Q I h
  rw [hs]
  show wpAny _ _ (spliced ((false, eval e X.env) :: backTo pos (starEach es X.env))) _ _ s
  refine Calls.spliced_cons (thn (ha pins s σ H _ I h) fun u s1 ⟨x, H1, I1, r1, q1⟩ => ?_)
  exact thn (hr pos pins s1 σ H1 _ I1 q1) fun us s2 ⟨xs, H2, I2, r2, q2⟩ => ⟨x :: xs, H2, I2, .cons r1 r2, q2⟩
def tTup (t : TA) : TE := fun σ H Q => t σ H fun xs H1 => xs.length ≤ sizeLine ∧ ∀ p, H1 p = none → Q (.ref p) (upd H1 p (.tup xs))
def tLst (t : TA) : TE := fun σ H Q => t σ H fun xs H1 => xs.length ≤ sizeLine ∧ ∀ p, H1 p = none → Q (.ref p) (upd H1 p (.lst xs))
theorem pe_tup {x1} (h : PA X es t) : PE X (.Tuple es x1 pos) (tTup t) := by
  intro pins s σ H Q I hq
  refine wpAny_Tuple_spliced (thn (h pos pins s σ H _ I hq) fun us s1 ⟨xs, H1, I1, r, z, q⟩ => ⟨by rw [← r.length]; exact z, ?_⟩)
  have hf : H1 s1.heap.objs.size = none := I1.hok.fresh (Nat.le_refl _)
  refine ⟨.ref s1.heap.objs.size, upd H1 s1.heap.objs.size (.tup xs), I1.laid (t' := s1.toks) (fun b u e => Heap.get?_push_of_some _ e) (Nat.le_refl _) ?_, rfl, q _ hf⟩
  exact ⟨z, us, r, ⟨_, Heap.get?_push_size _ rfl, rfl, _, rfl⟩⟩
theorem pe_lst (h : PA X es t) : PE X (.List es pos) (tLst t) := by
  intro pins s σ H Q I hq
  refine wpAny_List_spliced (thn (h pos pins s σ H _ I hq) fun us s1 ⟨xs, H1, I1, r, z, q⟩ => ⟨by rw [← r.length]; exact z, ?_⟩)
  have hf : H1 s1.heap.objs.size = none := I1.hok.fresh (Nat.le_refl _)
  refine ⟨.ref s1.heap.objs.size, upd H1 s1.heap.objs.size (.lst xs), I1.laid (t' := s1.toks) (fun b u e => Heap.get?_push_of_some _ e) (Nat.le_refl _) ?_, rfl, q _ hf⟩
  exact ⟨z, us, 0, r, Heap.get?_push_size _ rfl⟩
end
abbrev Sp := List V → Hp → VK → XK → Prop
abbrev CXT := List Env → Hp → Shared → XK → Value → Shared → Prop
structure Env0 (P : Program) (w : World) (K : PySem.W.Frag) (mg : Str → Option Value) (base : Heap) (A : Around) (outer : List Env) (s : Shared) (H : Hp) : Prop where
  frames : A.frames = some outer
  mod : Mod K mg base
  bs : ∀ b o, base.get? b = some o → s.heap.get? b = some o ∧ H b = none
  bsz : base.objs.size ≤ s.heap.objs.size
  funs : s.heap.FunFrames base outer
  frf : ∀ b ∈ frs outer, H b = none
  hok : HOk P w H s.heap
  bare : AllBare s.gens
def CE (outer : List Env) (P : Program) (w : World) (H : Hp) (s : Shared) (Q : VK) (u : Value) (s' : Shared) : Prop :=
  ∃ v H', s'.os = s.os ∧ AllBare s'.gens ∧ Un (frs outer) [] H H' s.heap s'.heap ∧ HOk P w H' s'.heap ∧ RelV v u ∧ Q v H'
def CR (CX : CXT) (outer : List Env) (P : Program) (w : World) (H : Hp) (s : Shared) (Q : VK) (E : XK) (r : Result) (s' : Shared) : Prop :=
  match r with
  | .ok (.ret u) => CE outer P w H s Q u s'
  | .ok _ => False
  | .error e => CX outer H s E e s'
structure FnOk (P : Program) (w : World) (K : PySem.W.Frag) (mg : Str → Option Value) (base : Heap) (CX : CXT) (k : Nat) (f : Addr) (fd : FuncData) (ps : List Str) (sp : Sp) : Prop where
  len : ∀ vs H Q E, sp vs H Q E → vs.length = ps.length
  run : ∀ (A : Around) (outer : List Env) (s : Shared) (H : Hp) (args : Args) (us : List Value) (vs : List V) (Q : VK) (E : XK), Room k A → Env0 P w K mg base A outer s H → BindsTo s fd args (ps.zip us) → Vals vs us → sp vs H Q E →
    codeAny (model P w) A (.call (.ref f) args) (CR CX outer P w H s Q E) s
section
variable {X : Cx} {pins : List (Addr × Obj)} {σ : St} {H : Hp} {s s' : Shared}
theorem Inv.env0 (I : Inv X pins σ H s) : Env0 X.prog X.w X.K X.mg X.base X.A X.stack s H :=
  ⟨I.ok.frames, I.ok.mod, I.bs, Nat.le_trans I.ok.bsz I.sz, I.stack, I.stkFree, I.hok, I.bare⟩
theorem Inv.after {Q : VK} {u : Value} (I : Inv X pins σ H s) (h : CE X.stack X.prog X.w H s Q u s') : EP X pins σ Q u s' := by
  obtain ⟨v, H', os, bare, un, hok, r, q⟩ := h
  obtain ⟨hh, g, d, t, os'⟩ := s'
  obtain rfl : os' = s.os := os
  exact ⟨v, H', I.call (h' := hh) (g' := g) (d' := d) (t' := t) (ch := []) un hok bare (fun b z => absurd z (by simp)), r, q⟩
end
def tCall (sp : Sp) (dvs : List V) (E : XK) (t : TA) : TE := fun σ H Q => t σ H fun vs H1 => sp (vs ++ dvs) H1 Q E
def Binds (K : PySem.W.Frag) (fd : FuncData) (ps : List Str) (ds : List Value) : Prop :=
  ∀ (s : Shared) (us : List Value), K.In s.heap → (us ++ ds).length = ps.length → BindsTo s fd ⟨us, []⟩ (ps.zip (us ++ ds))
theorem Binds.all {K : PySem.W.Frag} {fd : FuncData} {ps : List Str} (h : ∀ us : List Value, us.length = ps.length → bindArgs fd ⟨us, []⟩ = pure (ps.zip us)) : Binds K fd ps [] := fun s us _ hl => by
  rw [List.append_nil] at hl ⊢
  exact .of_eq (h us hl)
def Passes (CX : CXT) (X : Cx) (E : XK) : Prop := ∀ (pins : List (Addr × Obj)) (σ : St) (H : Hp) (s : Shared) (e : Value) (s' : Shared), Inv X pins σ H s → CX X.stack H s E e s' → X.xe e s'
section
variable {X : Cx} {CX : CXT} {k : Nat} {f C : Addr} {fd : FuncData} {ps : List Str} {sp : Sp} {dvs : List V} {ds : List Value} {E : XK} {x m : Str} {p pos apos : Pos} {e o : Expr} {es : List Expr} {ta : TE} {t : TA}
theorem run_fn {pins : List (Addr × Obj)} {σ : St} {H : Hp} {s : Shared} {Q : VK} {us : List Value} {vs : List V} (F : FnOk X.prog X.w X.K X.mg X.base CX k f fd ps sp) (hr : Room k X.A) (hb : Binds X.K fd ps ds) (hd : Vals dvs ds) (hx : Passes CX X E)
    (I : Inv X pins σ H s) (r : Vals vs us) (h : sp (vs ++ dvs) H Q E) : wpAny (model X.prog X.w) X.A (call (.ref f) us) (EP X pins σ Q) X.xe s := by
  have r2 : Vals (vs ++ dvs) (us ++ ds) := r.append hd
  have hl : (us ++ ds).length = ps.length := by rw [← r2.length]; exact F.len _ _ _ _ h
  refine wpAny_call (codeAny_mono (F.run X.A X.stack s H ⟨us, []⟩ (us ++ ds) (vs ++ dvs) Q E hr I.env0 (hb s us I.kIn hl) r2 h) fun r s' hq => ?_)
  cases r with
  | error e => exact hx pins σ H s e s' I hq
  | ok fl =>
    cases fl with
    | ret u => exact I.after hq
    | next => exact False.elim hq
    | brk => exact False.elim hq
    | cont => exact False.elim hq
theorem pe_call (F : FnOk X.prog X.w X.K X.mg X.base CX k f fd ps sp) (hr : Room k X.A) (hg : Gl X x) (hm : X.mg x = some (.ref f)) (hk : PySem.W.keepIn X.K (.ref f) = true) (hb : Binds X.K fd ps ds) (hd : Vals dvs ds) (hx : Passes CX X E)
    (ha : PA X (e :: es) t) (hdb : (x == ("__debug__" : Str)) = false := by decide) (he : starEach (e :: es) X.env = (false, eval e X.env) :: starEach es X.env := by rfl) (hpl : (backTo pos (starEach es X.env)).any (·.1) = false := by rfl) :
    PE X (.Call (.Name x p) (e :: es) [] pos) (tCall sp dvs E t) := by
  intro pins s σ H Q I h
  refine wpAny_Call_Name_kw (ld_glob I hg hm ?_ hdb)
  refine PySem.W.callWith_K (h₀ := X.base) I.ok.mod.kin hk (thn (ha pos pins s σ H _ I h) fun us s1 ⟨vs, H1, I1, r, q⟩ => ⟨I1.kIn, ?_⟩) he hpl
  exact run_fn F hr hb hd hx I1 r q
end
section
variable {X : Cx} {CX : CXT} {k : Nat} {f C : Addr} {fd : FuncData} {ps ks : List Str} {sp : Sp} {E : XK} {x m : Str} {p pos apos kpos : Pos} {e o : Expr} {es : List Expr} {kws : List Keyword} {te ta : TE} {t tk : TA} {nm : Option Str}
variable {g : List Value → List Value → List Value} {gV : List V → List V → List V}
end
structure FnScope (N P : List Str) (sc : Scope) : Prop where
  kind : sc.kind = .function
  co : sc.isCoroutine = false
  gen : sc.isGenerator = false
  nd : N.Nodup
  pre : N.take P.length = P
  par : ∀ x ∈ P, sc.names.lookup x = some .local ∨ sc.names.lookup x = some .cell
  nofree : ∀ y ∈ sc.names, y.2 ≠ .free
theorem bindL_out {kindOf : Str → Option NameKind} {x : Str} : ∀ {binds : List (Str × Value)} {m : Str → Option Value}, (∀ v, (x, v) ∉ binds) → bindL kindOf binds m x = m x
  | [], _, _ => rfl
  | (n, v) :: r, m, h => by
    unfold bindL
    rw [bindL_out fun w hw => h w (List.mem_cons_of_mem _ hw)]
    split
    · have : x ≠ n := by rintro rfl; exact h v List.mem_cons_self
      simp [this]
    · rfl
theorem bindC_out {kindOf : Str → Option NameKind} {x : Str} : ∀ {binds : List (Str × Value)} {m : Str → Option Value}, (∀ v, (x, v) ∉ binds) → bindC kindOf binds m x = m x
  | [], _, _ => rfl
  | (n, v) :: r, m, h => by
    unfold bindC
    rw [bindC_out fun w hw => h w (List.mem_cons_of_mem _ hw)]
    split
    · rfl
    · have : x ≠ n := by rintro rfl; exact h v List.mem_cons_self
      simp [this]
theorem bindL_get {kindOf : Str → Option NameKind} {x : Str} {v : Value} : ∀ {P : List Str} {vs : List Value} {i : Nat} {m : Str → Option Value}, P.Nodup → P[i]? = some x → vs[i]? = some v → kindOf x = some .local →
    bindL kindOf (P.zip vs) m x = some v
  | [], _, _, _, _, h, _, _ => by simp at h
  | _ :: _, [], _, _, _, _, h, _ => by simp at h
  | p :: P, w :: vs, 0, m, nd, h1, h2, hk => by
    simp at h1 h2; subst h1; subst h2
    show bindL kindOf ((p, w) :: P.zip vs) m p = _
    unfold bindL
    rw [bindL_out fun v hv => (List.nodup_cons.mp nd).1 (List.of_mem_zip hv).1, if_pos hk]
    simp
  | p :: P, w :: vs, i + 1, m, nd, h1, h2, hk => by
    show bindL kindOf ((p, w) :: P.zip vs) m x = _
    unfold bindL
    exact bindL_get (i := i) (List.nodup_cons.mp nd).2 (by simpa using h1) (by simpa using h2) hk
theorem bindC_get {kindOf : Str → Option NameKind} {x : Str} {v : Value} : ∀ {P : List Str} {vs : List Value} {i : Nat} {m : Str → Option Value}, P.Nodup → P[i]? = some x → vs[i]? = some v → kindOf x ≠ some .local →
    bindC kindOf (P.zip vs) m x = some v
  | [], _, _, _, _, h, _, _ => by simp at h
  | _ :: _, [], _, _, _, _, h, _ => by simp at h
  | p :: P, w :: vs, 0, m, nd, h1, h2, hk => by
    simp at h1 h2; subst h1; subst h2
    show bindC kindOf ((p, w) :: P.zip vs) m p = _
    unfold bindC
    rw [bindC_out fun v hv => (List.nodup_cons.mp nd).1 (List.of_mem_zip hv).1, if_neg hk]
    simp
  | p :: P, w :: vs, i + 1, m, nd, h1, h2, hk => by
    show bindC kindOf ((p, w) :: P.zip vs) m x = _
    unfold bindC
    exact bindC_get (i := i) (List.nodup_cons.mp nd).2 (by simpa using h1) (by simpa using h2) hk
def start (N : List Str) (vs : List V) : St := vs.map some ++ List.replicate (N.length - vs.length) none
def cxOf (CX : CXT) (P : Program) (w : World) (K : PySem.W.Frag) (mg : Str → Option Value) (base : Heap) (N : List Str) (qual : Str) (scope : Scope) (f : Addr) (cd : Value) (A : Around) (outer : List Env) (s : Shared) (H : Hp) (E : XK) : Cx where
  prog := P
  w := w
  K := K
  mg := mg
  base := base
  A := A.deeper (envOfC qual scope s.heap.objs.size f cd)
  N := N
  s₀ := s
  H₀ := H
  env := envOfC qual scope s.heap.objs.size f cd
  outer := outer
  stack := envOfC qual scope s.heap.objs.size f cd :: outer
  ex := []
  calm := true
  fn := fun _ => true
  pn := []
  xe := fun e s' => wpAny (model P w) (A.deeper (envOfC qual scope s.heap.objs.size f cd)) (leaving (envOfC qual scope s.heap.objs.size f cd) e) (fun _ s'' => CX outer H s E e s'') (fun e' s'' => CX outer H s E e' s'') s'
theorem cell_has {sc : Scope} {n : Nat} {x : Str} (h : sc.names.lookup x = some .cell) : ∃ c, (cellsFrom n sc.names []).lookup x = some c := by
  have q := PySem.W.cellsFrom_some sc.names n [] (.inl h)
  exact Option.isSome_iff_exists.mp q
theorem inv_start {CX : CXT} {P : Program} {w : World} {K : PySem.W.Frag} {mg : Str → Option Value} {base : Heap} {N ps : List Str} {qual : Str} {scope : Scope} {f : Addr} {cd : Value} {A : Around} {outer : List Env} {s s1 : Shared} {H : Hp} {E : XK} {us : List Value} {vs : List V}
    (S : FnScope N ps scope) (hd : A.handled = none) (e0 : Env0 P w K mg base A outer s H) (hl : vs.length = ps.length) (r : Vals vs us)
    (x : InCallC s s.heap.objs.size (bindL (envOfC qual scope s.heap.objs.size f cd).kindOf (ps.zip us) fun _ => none) (cellsFrom (s.heap.objs.size + 1) scope.names []) (bindC (envOfC qual scope s.heap.objs.size f cd).kindOf (ps.zip us) fun _ => none) s1) :
    Inv (cxOf CX P w K mg base N qual scope f cd A outer s H E) [] (start N vs) H s1 := by
  have hpl : ps.length ≤ N.length := by have := congrArg List.length S.pre; rw [List.length_take] at this; omega
  obtain ⟨h1, tk, rfl, hk⟩ := x.done
  have noA : ∀ b : Addr, b ∉ (cxOf CX P w K mg base N qual scope f cd A outer s H E).ex := fun b z => absurd (show b ∈ ([] : List Addr) from z) (by simp)
  refine ⟨⟨e0.mod, S.kind, rfl, rfl, Nat.le_refl _, fun y z c h1 h2 => ?_, fun y hy => ?_, fun y c _ h => ?_, fun _ => hd, Around.frames_deeper e0.frames, .inr ⟨rfl, rfl⟩, fun b z => absurd z (noA b), e0.bs, e0.bsz, fun b _ _ => noA b, fun b z => absurd z (noA b), e0.funs, e0.frf⟩,
    rfl, e0.bare, Un.kept hk, ⟨_, x.toInCall.ns, fun i y v h1 h2 h3 => ?_⟩, fun y c h => ⟨_, x.cell y c h⟩, e0.hok.fresh (Nat.le_refl _), fun y c h => ?_, fun p hp => absurd (show p ∈ ([] : List (Addr × Obj)) from hp) (by simp), e0.hok.kept hk, ?_⟩
  · exact name_of_addr x.apart (PySem.mem_of_lookup h1) (PySem.mem_of_lookup h2)
  · have hy : scope.names.lookup y = some .cell ∨ scope.names.lookup y = some .free := hy
    rcases hy with hy | hy
    · exact cell_has hy
    · exact absurd rfl (S.nofree _ (PySem.mem_of_lookup hy))
  · exact Nat.le_of_lt (x.above y c (PySem.mem_of_lookup h))
  · have hi : i < vs.length := by
      unfold start at h2
      by_cases hi : i < vs.length
      · exact hi
      · rw [List.getElem?_append_right (by simpa using hi)] at h2
        rw [List.getElem?_replicate] at h2
        split at h2 <;> cases h2
    have ha : vs[i]? = some v := by
      unfold start at h2
      rw [List.getElem?_append_left (by simpa using hi), List.getElem?_map] at h2
      cases e : vs[i]? with
      | none => rw [e] at h2; cases h2
      | some a => rw [e] at h2; cases h2; rfl
    obtain ⟨u, hu, rv⟩ := r.get ha
    have hp : ps[i]? = some y := by
      rw [← S.pre, List.getElem?_take_of_lt (by omega)]; exact h1
    have ndP : ps.Nodup := by rw [← S.pre]; exact S.nd.sublist (List.take_sublist _ _)
    refine ⟨u, rv, ?_⟩
    rcases S.par y (List.mem_of_getElem? hp) with k | k
    · exact .inl ⟨k, bindL_get ndP hp hu k⟩
    · obtain ⟨c, e⟩ := cell_has (n := s.heap.objs.size + 1) k
      refine .inr ⟨.inl k, c, e, ?_⟩
      have q := x.cell y c e
      rw [bindC_get ndP hp hu (by show scope.names.lookup y ≠ _; rw [k]; decide)] at q
      exact q
  · exact e0.hok.fresh (Nat.le_of_lt (x.above y c (PySem.mem_of_lookup h)))
  · unfold start
    show _ = N.length
    rw [List.length_append, List.length_map, List.length_replicate]
    omega
theorem fn_of {CX : CXT} {P : Program} {w : World} {K : PySem.W.Frag} {mg : Str → Option Value} {base : Heap} {k : Nat} {f : Addr} {name qual : Str} {params : Arguments} {body : List Stmt} {scope : Scope} {dV kV doc pm cdv ct oc : Value} {an od : Option Addr}
    {osl : Array (Option Value)} {N ps : List Str} {sp : Sp} (lk : K.lookup f = some ⟨oc, od, .func (PySem.W.fnOf name qual params body scope dV kV doc pm an cdv ct), osl⟩) (hcd : PySem.W.codeIn K cdv qual = true) (S : FnScope N ps scope)
    (len : ∀ vs H Q E, sp vs H Q E → vs.length = ps.length)
    (hbody : ∀ (A : Around) (outer : List Env) (s : Shared) (H : Hp) (vs : List V) (Q : VK) (E : XK), Room k (A.deeper (envOfC qual scope s.heap.objs.size f cdv)) → sp vs H Q E →
      ∃ t, PSs (cxOf CX P w K mg base N qual scope f cdv A outer s H E) body t ∧ t { nx := fun _ H' => Q .non H', rt := Q } (start N vs) H) :
    FnOk P w K mg base CX (k + 1) f (PySem.W.fnOf name qual params body scope dV kV doc pm an cdv ct) ps sp := by
  refine ⟨len, fun A outer s H args us vs Q E hr e0 hb r hsp => ?_⟩
  have hl := len _ _ _ _ hsp
  have KX : K.In s.heap := e0.mod.kin.keeps fun b o e => (e0.bs b o e).1
  have lim : s.heap.NoLimit := e0.mod.nolimit.keeps fun b o e => (e0.bs b o e).1
  have hkind : ∀ y ∈ ps.zip us, scope.names.lookup y.1 = some .local ∨ (scope.names.lookup y.1 = some .cell ∧ ((cellsFrom (s.heap.objs.size + 1) scope.names []).lookup y.1).isSome = true) := fun ⟨n, v⟩ hy => by
    rcases S.par n (List.of_mem_zip hy).1 with q | q
    · exact .inl q
    · exact .inr ⟨q, PySem.W.cellsFrom_some _ _ _ (.inl q)⟩
  refine codeAny_call_function hr.depth (KX _ _ lk) rfl S.co S.gen rfl (PySem.W.codeRec_of KX hcd) (hb _ _ _ _ ?_)
  refine wpAny_newFunctionEnv_cells S.kind hkind fun env he s1 x => ?_
  subst he
  refine ⟨lim.keeps x.toInCall.keep, codeAny_func ?_⟩
  obtain ⟨t, ht, hq⟩ := hbody A outer s H vs Q E (hr.deeper _) hsp
  have I : Inv (cxOf CX P w K mg base N qual scope f cdv A outer s H E) [] (start N vs) H s1 := inv_start S hr.hd e0 hl r x
  refine wpAny_mono (ht [] s1 (start N vs) H _ I hq) (fun fl s' hs => ?_) fun e s' hs => hs
  have fin : ∀ {σ' : St} {H' : Hp} {v : V} {u : Value}, Inv (cxOf CX P w K mg base N qual scope f cdv A outer s H E) [] σ' H' s' → RelV v u → Q v H' → CE outer P w H s Q u s' :=
    fun {σ' H' v u} J rv q => ⟨v, H', J.os, J.bare, J.base, J.hok, rv, q⟩
  cases fl with
  | ret u =>
    obtain ⟨v, σ', H', J, rv, q⟩ := hs
    exact fin J rv q
  | next =>
    obtain ⟨σ', H', J, q⟩ := hs
    exact fin (v := V.non) (u := Value.none) J rfl q
  | brk =>
    obtain ⟨_, _, _, q⟩ := hs
    exact False.elim q
  | cont =>
    obtain ⟨_, _, _, q⟩ := hs
    exact False.elim q
end L2
namespace L2
open PySem PySem.Spec PyProof.Rows
section
variable {X : Cx} {x : Str} {p pos : Pos} {e : Expr} {es : List Expr} {t : TA} {id T : String} {r : List V → Hp → VK → Prop}
def tCB (r : List V → Hp → VK → Prop) (t : TA) : TE := fun σ H Q => t σ H fun vs H1 => r vs H1 Q
theorem pe_callB (hc : CallR X (.builtin id) r) (hg : Gl X x) (hm : X.mg x = none) (hv : bootBuiltins x = some (.builtin id)) (ha : PA X (e :: es) t) (hn : x ≠ "__name__" := by decide) (hdb : (x == ("__debug__" : Str)) = false := by decide)
    (he : starEach (e :: es) X.env = (false, eval e X.env) :: starEach es X.env := by rfl) (hpl : (backTo pos (starEach es X.env)).any (·.1) = false := by rfl) : PE X (.Call (.Name x p) (e :: es) [] pos) (tCB r t) := by
  intro pins s σ H Q I h
  refine wpAny_Call_Name_kw (ld_blt I hg hm hv ?_ hn hdb)
  exact PyProof.Rows.callWith_builtin1 (thn (ha pos pins s σ H _ I h) fun us s1 ⟨vs, H1, I1, r1, q1⟩ => hc pins s1 σ H1 vs us Q I1 r1 q1) he hpl
theorem pe_callTy (hc : CallR X (.type T) r) (hg : Gl X x) (hm : X.mg x = none) (hv : bootBuiltins x = some (.type T)) (ha : PA X (e :: es) t) (hn : x ≠ "__name__" := by decide) (hdb : (x == ("__debug__" : Str)) = false := by decide)
    (he : starEach (e :: es) X.env = (false, eval e X.env) :: starEach es X.env := by rfl) (hpl : (backTo pos (starEach es X.env)).any (·.1) = false := by rfl) : PE X (.Call (.Name x p) (e :: es) [] pos) (tCB r t) := by
  intro pins s σ H Q I h
  refine wpAny_Call_Name_kw (ld_blt I hg hm hv ?_ hn hdb)
  exact PyProof.Rows.callWith_type1 (thn (ha pos pins s σ H _ I h) fun us s1 ⟨vs, H1, I1, r1, q1⟩ => hc pins s1 σ H1 vs us Q I1 r1 q1) he hpl
end
end L2
namespace HT
open PySem PyProof.Rows
section
open PySem.SeqAt
open PySem.AutoSeq1 (wpAny_loadPart')
open PySem.MeetsSeq PySem.MeetsSeq2 PySem.MeetsSeq3
end
section
variable {prog : Program} {w : World} {A : Around} {E : Value → Shared → Prop} {s : Shared}
def sIx (n d : Nat) : Option Int → Nat
  | none => d
  | some v => if v < 0 then (v + (n : Int)).toNat else min v.toNat n
end
end HT
namespace L2
open PySem PySem.Spec PyProof.Rows
abbrev TO := St → Hp → (Option Int → Hp → Prop) → Prop
def PO (X : Cx) (e : Option Expr) (t : TO) : Prop :=
  ∀ (pins : List (Addr × Obj)) (s : Shared) (σ : St) (H : Hp) (Q : Option Int → Hp → Prop), Inv X pins σ H s → t σ H Q →
    wpAny (model X.prog X.w) X.A (evalPart e X.env) (fun u s' => ∃ o H', Inv X pins σ H' s' ∧ IsPart u o ∧ Q o H') X.xe s
def tNoPart : TO := fun _ H Q => Q none H
def tPart (t : TE) : TO := fun σ H Q => t σ H fun x H1 => ∃ i, x = .int i ∧ Q (some i) H1
section
variable {X : Cx} {e : Expr} {te : TE} {lo hi : Option Expr} {tl th : TO} {pos p2 : Pos}
theorem po_none : PO X none tNoPart := by
  intro pins s σ H Q I h
  rw [evalPart_none]
  exact wpAny_pure ⟨none, H, I, .none, h⟩
theorem po_some (h : PE X e te) : PO X (some e) (tPart te) := by
  intro pins s σ H Q I hw
  rw [evalPart_some]
  refine thn (h pins s σ H _ I hw) fun u s1 ⟨x, H1, I1, r1, q1⟩ => ?_
  obtain ⟨i, rfl, q⟩ := q1
  obtain ⟨t, rfl⟩ := r1
  exact ⟨some i, H1, I1, .int i t, q⟩
def SlR (X : Cx) (r : V → Option Int → Option Int → Hp → VK → Prop) : Prop :=
  ∀ (pins : List (Addr × Obj)) (s : Shared) (σ : St) (H : Hp) (x : V) (v vl vu : Value) (lo hi : Option Int) (sl : Addr) (Q : VK), Inv X pins σ H s → RelV x v → s.heap.IsSliceOf sl vl vu .none → IsPart vl lo → IsPart vu hi → r x lo hi H Q →
    ∃ T id, typeLookup (.type T) "__getitem__" = pure (some (.builtin id)) ∧ s.TypeIs v T ∧ wpAny (model X.prog X.w) X.A (getItem v (.ref sl)) (EP X pins σ Q) X.xe s
def tSl (r : V → Option Int → Option Int → Hp → VK → Prop) (te : TE) (tl th : TO) : TE := fun σ H Q => te σ H fun x H1 => tl σ H1 fun l H2 => th σ H2 fun u H3 => r x l u H3 Q
theorem pe_slice {r : V → Option Int → Option Int → Hp → VK → Prop} (hr : SlR X r) (he : PE X e te) (hl : PO X lo tl) (hu : PO X hi th) : PE X (.Subscript e (.Slice lo hi none p2) pos) (tSl r te tl th) := by
  intro pins s σ H Q I h
  refine Subscript_ (thn (he pins s σ H _ I h) fun v s1 ⟨x, H1, I1, r1, q1⟩ => ?_)
  refine wpAny_Slice (thn (hl pins s1 σ H1 _ I1 q1) fun vl s2 ⟨l, H2, I2, pl, q2⟩ => thn (hu pins s2 σ H2 _ I2 q2) fun vu s3 ⟨u, H3, I3, pu, q3⟩ => ?_)
  rw [evalPart_none]
  refine wpAny_pure ?_
  have I4 : Inv X pins σ H3 { s3 with heap := s3.heap.push { cls := .type "slice", data := .fields #[vl, vu, .none] } } := I3.kept (t' := s3.toks) fun b ob q => Heap.get?_push_of_some _ q
  obtain ⟨T, id, hT, ht, hg⟩ := hr pins { s3 with heap := s3.heap.push { cls := .type "slice", data := .fields #[vl, vu, .none] } } σ H3 x v vl vu l u s3.heap.objs.size Q I4 r1 (Heap.IsSliceOf.new ..) pl pu q3
  show wpAny (model X.prog X.w) X.A (subscriptTail e (.Slice lo hi none p2) v (.ref s3.heap.objs.size)) (EP X pins σ Q) X.xe { s3 with heap := s3.heap.push { cls := .type "slice", data := .fields #[vl, vu, .none] } }
  exact tail_any (ops := [.ref s3.heap.objs.size, v]) ht hT hg (by with_unfolding_all rfl)
def cutV (xs : List V) (lo hi : Option Int) : List V := (xs.drop (HT.sIx xs.length 0 lo)).take (HT.sIx xs.length xs.length hi - HT.sIx xs.length 0 lo)
theorem cutV_length (xs : List V) (lo hi : Option Int) : (cutV xs lo hi).length ≤ xs.length := by
  unfold cutV
  rw [List.length_take, List.length_drop]
  omega
end
end L2
namespace L2
open PySem PySem.Spec PyProof.Rows
def ixN (n : Nat) (i : Int) : Option Nat := if 0 ≤ i then (if i < n then some i.toNat else none) else if -(n : Int) ≤ i then some (i + n).toNat else none
def atI {α : Type} (xs : List α) (i : Int) : Option α := (ixN xs.length i).bind fun j => xs[j]?
theorem ixN_seq {n : Nat} {i : Int} {j : Nat} (h : ixN n i = some j) : seqIndex? i n = some j ∧ j < n ∧ -(n : Int) ≤ i ∧ i < n := by
  unfold ixN at h
  by_cases h0 : 0 ≤ i
  · rw [if_pos h0] at h
    by_cases h1 : i < n
    · rw [if_pos h1] at h
      have e : i.toNat = j := Option.some.inj h
      exact ⟨by rw [seqIndex_of h0 h1, e], by omega, by omega, h1⟩
    · rw [if_neg h1] at h; cases h
  · rw [if_neg h0] at h
    by_cases h1 : -(n : Int) ≤ i
    · rw [if_pos h1] at h
      have e : (i + n).toNat = j := Option.some.inj h
      exact ⟨by rw [seqIndex_neg (by omega) h1, e], by omega, h1, by omega⟩
    · rw [if_neg h1] at h; cases h
theorem atI_get {α : Type} {xs : List α} {i : Int} {v : α} (h : atI xs i = some v) : ∃ j, seqIndex? i xs.length = some j ∧ xs[j]? = some v ∧ j < xs.length ∧ -(xs.length : Int) ≤ i ∧ i < xs.length := by
  unfold atI at h
  cases e : ixN xs.length i with
  | none => rw [e] at h; cases h
  | some j =>
    rw [e] at h
    obtain ⟨h1, h2, h3, h4⟩ := ixN_seq e
    exact ⟨j, h1, h, h2, h3, h4⟩
theorem atI_nat {α : Type} {xs : List α} {j : Nat} {v : α} (h : xs[j]? = some v) : atI xs (j : Int) = some v := by
  have hj : j < xs.length := (List.getElem?_eq_some_iff.mp h).1
  have e : ixN xs.length (j : Int) = some j := by
    unfold ixN
    rw [if_pos (by omega), if_pos (by omega)]; simp
  unfold atI; rw [e]; exact h
def PlainIx (b : Expr) : Prop := ∀ o i, subscripted b false o i = operate [o, i] (getItem o i)
def IxR (X : Cx) (r : R2) : Prop :=
  ∀ (value slice : Expr) (pins : List (Addr × Obj)) (s : Shared) (σ : St) (H : Hp) (x y : V) (v u : Value) (Q : VK), Inv X pins σ H s → RelV x v → RelV y u → r x y H Q →
    subscripted slice false v u = operate [v, u] (getItem v u) → wpAny (model X.prog X.w) X.A (subscriptTail value slice v u) (EP X pins σ Q) X.xe s
def MtR (X : Cx) (id : String) (r : V → List V → Hp → VK → Prop) : Prop :=
  ∀ (pins : List (Addr × Obj)) (s : Shared) (σ : St) (H : Hp) (x : V) (xs : List V) (v : Value) (us : List Value) (Q : VK), Inv X pins σ H s → RelV x v → Vals xs us → r x xs H Q →
    wpAny (model X.prog X.w) X.A (call (.builtin id) (v :: us)) (EP X pins σ Q) X.xe s
section
variable {X : Cx} {a b : Expr} {ta tb : TE} {pos : Pos}
theorem pe_ix {r : R2} (hr : IxR X r) (ha : PE X a ta) (hb : PE X b tb) (hs : PlainIx b) : PE X (.Subscript a b pos) (tOp r ta tb) := by
  intro pins s σ H Q I h
  exact Subscript_ (binT ha hb I h fun v u s2 x y H2 I2 rx ry q => hr a b pins s2 σ H2 x y v u Q I2 rx ry q (hs _ _))
def rIxL (K : PySem.W.Frag) : R2 := fun x y H Q => ∃ p xs i v, x = .ref p ∧ y = .int i ∧ SqL K H p xs ∧ atI xs i = some v ∧ Q v H
theorem ix_list : IxR X (rIxL X.K) := by
  intro value slice pins s σ H x y v u Q I rx ry h hs
  obtain ⟨p, xs, i, z, rfl, rfl, hq, he, q⟩ := h
  cases rx
  obtain ⟨t, rfl⟩ := ry
  obtain ⟨its, r, pl, hz⟩ := I.list hq
  obtain ⟨j, h1, h2, h3, h4, h5⟩ := atI_get he
  obtain ⟨w, ew, rw'⟩ := r.get h2
  have hl := r.length
  have hn := line63
  have fin : EP X pins σ Q w s := ⟨z, H, I, rw', q⟩
  by_cases h0 : 0 ≤ i
  · have hj : i.toNat = j := by
      rw [seqIndex_of h0 h5] at h1
      exact Option.some.inj h1
    exact item_listR pl.isList h0 (by omega) (by rw [hj]; simpa using ew) fin hs
  · have hj : (i + (its.toArray.size : Int)).toNat = j := by
      rw [seqIndex_neg (by omega) h4] at h1
      rw [List.size_toArray, ← hl]
      exact Option.some.inj h1
    exact subscriptTail_builtinR (x := w) pl.isList.typeIs slot_list_getitem.lookup
      (wpAny_getItem_list_neg (Q := fun r s' => r = w ∧ EP X pins σ Q r s') pl.isList (by omega) (by rw [List.size_toArray] <;> omega) (by omega) (by rw [hj]; simpa using ew) ⟨rfl, fin⟩) hs
theorem mapSeq_set (its : List Value) (n j : Nat) (u : Value) : Obj.mapSeq (·.setIfInBounds j u) { cls := .type "list", data := .seq its.toArray n } = { cls := .type "list", data := .seq (its.set j u).toArray n } := by
  simp [Obj.mapSeq]
theorem Inv.lst {pins : List (Addr × Obj)} {σ : St} {H : Hp} {s : Shared} {p : Addr} {xs : List V} (I : Inv X pins σ H s) (h : H p = some (.lst xs)) :
    ∃ (its : List Value) (n : Nat), Vals xs its ∧ s.heap.get? p = some { cls := .type "list", data := .seq its.toArray n } ∧ xs.length ≤ sizeLine := by
  obtain ⟨z, its, n, r, e⟩ := I.hok p _ h
  exact ⟨its, n, r, e, z⟩
theorem Inv.lstUpd {pins : List (Addr × Obj)} {σ : St} {H : Hp} {s : Shared} {p : Addr} {xs ys : List V} {its its' : List Value} {n n' : Nat} {f : Obj → Obj} (I : Inv X pins σ H s) (h : H p = some (.lst xs))
    (ho : s.heap.get? p = some { cls := .type "list", data := .seq its.toArray n }) (hf : f { cls := .type "list", data := .seq its.toArray n } = { cls := .type "list", data := .seq its'.toArray n' }) (r : Vals ys its') (hz : ys.length ≤ sizeLine) (t : Nat) :
    Inv X pins σ (upd H p (.lst ys)) { s with heap := s.heap.update p f, toks := t } := by
  have e : (s.heap.update p f).get? p = some { cls := .type "list", data := .seq its'.toArray n' } := by
    rw [Heap.get?_update_self f ho (by rw [hf] <;> rfl), hf]
  refine I.write (x := p) (e := p) (by rw [h]; trivial) (.inl rfl) (fun b u hb q => (Heap.get?_update_other _ _ (Ne.symm hb)).trans q) ⟨_, e⟩ ?_
  exact ⟨hz, its', n', r, e⟩
def rSetL : V → V → V → Hp → (Hp → Prop) → Prop := fun o i v H Q => ∃ p xs k j, o = .ref p ∧ i = .int k ∧ H p = some (.lst xs) ∧ ixN xs.length k = some j ∧ Q (upd H p (.lst (xs.set j v)))
theorem set_list : PSet X rSetL := by
  intro pins s σ H o i v ov iv u Q I ro ri rv h
  obtain ⟨p, xs, k, j, rfl, rfl, hp, hj, q⟩ := h
  cases ro
  obtain ⟨t, rfl⟩ := ri
  obtain ⟨its, n, r, ho, hz⟩ := I.lst hp
  obtain ⟨h1, h2, h3, h4⟩ := ixN_seq hj
  have hl := r.length
  have hn := line63
  have I' : Inv X pins σ (upd H p (.lst (xs.set j v))) { s with heap := s.heap.update p (Obj.mapSeq (·.setIfInBounds j u)) } :=
    I.lstUpd hp ho (mapSeq_set its n j u) (r.set rv j) (by rw [List.length_set]; exact hz) s.toks
  by_cases h0 : 0 ≤ k
  · have hk : k.toNat = j := by
      rw [seqIndex_of h0 h4] at h1
      exact Option.some.inj h1
    exact PySem.W.ki_setAt ho h0 (by omega) (by rw [List.size_toArray, ← hl]; exact h4) (by rw [hk]; exact ⟨_, I', q⟩)
  · have hk : (k + (its.toArray.size : Int)).toNat = j := by
      rw [seqIndex_neg (by omega) h3] at h1
      rw [List.size_toArray, ← hl]
      exact Option.some.inj h1
    exact PySem.W.ki_setBack ho (by omega) (by rw [List.size_toArray, ← hl]; exact h3) (by omega) (by rw [hk]; exact ⟨_, I', q⟩)
theorem slice_bounds (lo hi : Option Int) (n : Nat) : (sliceBounds lo hi none n).1 = ((HT.sIx n 0 lo : Nat) : Int) ∧ (sliceBounds lo hi none n).2.1 = ((HT.sIx n n hi : Nat) : Int) ∧ (sliceBounds lo hi none n).2.2 = 1 := by
  refine ⟨?_, ?_, rfl⟩
  · cases lo with
    | none => simp [sliceBounds, HT.sIx]
    | some i =>
      simp only [sliceBounds, HT.sIx, Option.getD_none, show (1 : Int) > 0 by decide, if_true]
      by_cases h : i < 0
      · simp only [h, if_true] <;> omega
      · simp only [h, if_false] <;> omega
  · cases hi with
    | none => simp [sliceBounds, HT.sIx]
    | some i =>
      simp only [sliceBounds, HT.sIx, Option.getD_none, show (1 : Int) > 0 by decide, if_true]
      by_cases h : i < 0
      · simp only [h, if_true] <;> omega
      · simp only [h, if_false] <;> omega
theorem slicePick_cut (its : List Value) (lo hi : Option Int) : slicePick its.toArray lo hi none = ((its.drop (HT.sIx its.length 0 lo)).take (HT.sIx its.length its.length hi - HT.sIx its.length 0 lo)).toArray := by
  obtain ⟨h1, h2, h3⟩ := slice_bounds lo hi its.toArray.size
  unfold slicePick
  rw [h1, h2, h3]
  simp only [sliceRange_one, pick_run, List.size_toArray] <;> rfl
def rSlL (K : PySem.W.Frag) : V → Option Int → Option Int → Hp → VK → Prop := fun x lo hi H Q => ∃ a xs, x = .ref a ∧ SqL K H a xs ∧ ∀ p, H p = none → Q (.ref p) (upd H p (.lst (cutV xs lo hi)))
theorem sl_list : SlR X (rSlL X.K) := by
  intro pins s σ H x v vl vu lo hi sl Q I rx hs pl pu h
  obtain ⟨a, xs, rfl, hx, q⟩ := h
  cases rx
  obtain ⟨its, r, ht, hz⟩ := I.list hx
  have hlen := r.length
  refine ⟨"list", _, slot_list_getitem.lookup, ht.isList.typeIs, ?_⟩
  refine wpAny_getItem_list_slice ht.isList hs pl pu .none (by simp) ?_ (by rw [List.size_toArray] <;> omega)
  rw [slicePick_cut, ← hlen]
  refine ⟨.ref s.heap.objs.size, _, I.laid (t' := s.toks) (o := .lst (cutV xs lo hi)) (fun b ob q => Heap.get?_push_of_some _ q) (Nat.le_refl _) ?_, rfl, q _ (I.hok.fresh (Nat.le_refl _))⟩
  exact ⟨Nat.le_trans (cutV_length xs lo hi) hz, _, 0, (r.drop (HT.sIx xs.length 0 lo)).take (HT.sIx xs.length xs.length hi - HT.sIx xs.length 0 lo), Heap.get?_push_size _ rfl⟩
def flatV : V → Bool
  | .non => true
  | .bl _ => true
  | .int _ => true
  | .str _ => true
  | _ => false
def eqV : V → V → Bool
  | .non, .non => true
  | .bl a, .bl b => a == b
  | .bl a, .int b => (if a then 1 else 0) == b
  | .int a, .bl b => a == (if b then 1 else 0)
  | .int a, .int b => a == b
  | .str a, .str b => a == b
  | _, _ => false
theorem eqAt_V {A : Around} {s : Shared} {y x : V} {u v : Value} (ry : RelV y u) (rx : RelV x v) (fy : flatV y = true) (fx : flatV x = true) : SeqAt.EqAt A s u v (eqV y x) := by
  cases y with
  | non =>
    cases ry
    cases x with
    | non => cases rx; exact SeqAt.EqAt.same _
    | bl b => cases rx; exact SeqAt.EqAt.none_bool b
    | int b => obtain ⟨t, rfl⟩ := rx; exact SeqAt.EqAt.none_int b t
    | str b => obtain ⟨t, rfl⟩ := rx; exact SeqAt.EqAt.none_str b t
    | _ => exact absurd (show false = true from fx) Bool.false_ne_true
  | bl a =>
    cases ry
    cases x with
    | non => cases rx; exact SeqAt.EqAt.bool_none a
    | bl b => cases rx; exact SeqAt.EqAt.bool_bool a b
    | int b => obtain ⟨t, rfl⟩ := rx; exact SeqAt.EqAt.bool_int a b t
    | str b => obtain ⟨t, rfl⟩ := rx; exact SeqAt.EqAt.bool_str a b t
    | _ => exact absurd (show false = true from fx) Bool.false_ne_true
  | int a =>
    obtain ⟨t', rfl⟩ := ry
    cases x with
    | non => cases rx; exact SeqAt.EqAt.int_none a t'
    | bl b => cases rx; exact SeqAt.EqAt.int_bool a t' b
    | int b => obtain ⟨t, rfl⟩ := rx; exact SeqAt.EqAt.int_int a t' b t
    | str b => obtain ⟨t, rfl⟩ := rx; exact SeqAt.EqAt.int_str a t' b t
    | _ => exact absurd (show false = true from fx) Bool.false_ne_true
  | str a =>
    obtain ⟨t', rfl⟩ := ry
    cases x with
    | non => cases rx; exact SeqAt.EqAt.str_none a t'
    | bl b => cases rx; exact SeqAt.EqAt.str_bool a t' b
    | int b => obtain ⟨t, rfl⟩ := rx; exact SeqAt.EqAt.str_int a t' b t
    | str b => obtain ⟨t, rfl⟩ := rx; exact SeqAt.EqAt.str_str a t' b t
    | _ => exact absurd (show false = true from fx) Bool.false_ne_true
  | _ => exact absurd (show false = true from fy) Bool.false_ne_true
def eqU (x : V) (u : Value) : Bool := match u with
  | .none => eqV .non x
  | .bool b => eqV (.bl b) x
  | .int i _ => eqV (.int i) x
  | .str z _ => eqV (.str z) x
  | _ => false
theorem eqU_of {x y : V} {u : Value} (r : RelV y u) (f : flatV y = true) : eqU x u = eqV y x := by
  cases y with
  | non => cases r; rfl
  | bl b => cases r; rfl
  | int i => obtain ⟨t, rfl⟩ := r; rfl
  | str z => obtain ⟨t, rfl⟩ := r; rfl
  | _ => exact absurd (show false = true from f) Bool.false_ne_true
theorem mem_eqAt {A : Around} {s : Shared} {x : V} {v : Value} (rx : RelV x v) (fx : flatV x = true) : ∀ {xs : List V} {us : List Value}, Vals xs us → xs.all flatV = true → ∀ u ∈ us, SeqAt.EqAt A s u v (eqU x u)
  | _, _, .nil, _ => fun u hu => by cases hu
  | y :: xs, u :: us, .cons r t, f => fun u' hu => by
    rw [List.all_cons, Bool.and_eq_true] at f
    rcases List.mem_cons.mp hu with rfl | hu
    · rw [eqU_of r f.1]; exact eqAt_V r rx f.1 fx
    · exact mem_eqAt rx fx t f.2 u' hu
theorem call_len_seq : CallR X (.builtin "len") (fun xs H Q => ∃ p ys, xs = [.ref p] ∧ (SqL X.K H p ys ∨ SqT X.K H p ys) ∧ Q (.int ys.length) H) := by
  intro pins s σ H xs us Q I r h
  obtain ⟨p, ys, rfl, hq, q⟩ := h
  obtain ⟨u, rfl, rx⟩ := vals1 r
  cases rx
  have hn := line63
  rcases hq with hq | hq
  · obtain ⟨its, r', pl, hz⟩ := I.list hq
    have hlen := r'.length
    exact Calls.call_len_list pl.isList (by simp only [List.size_toArray] <;> omega) ⟨.int ys.length, H, I.tok _, ⟨s.toks + 1, by rw [List.size_toArray, hlen]⟩, q⟩
  · obtain ⟨its, r', pl, hz⟩ := I.tuple hq
    have hlen := r'.length
    exact len_tuple pl (by simp only [List.size_toArray] <;> omega) ⟨.int ys.length, H, I.tok _, ⟨s.toks + 1, by rw [List.size_toArray, hlen]⟩, q⟩
theorem call_list_of : CallR X (.type "list") (fun xs H Q => ∃ p ys, xs = [.ref p] ∧ (SqL X.K H p ys ∨ SqT X.K H p ys) ∧ ∀ l, H l = none → Q (.ref l) (upd H l (.lst ys))) := by
  intro pins s σ H xs us Q I r h
  obtain ⟨p, ys, rfl, hq, q⟩ := h
  obtain ⟨u, rfl, rx⟩ := vals1 r
  cases rx
  have fin : ∀ (its : List Value), Vals ys its → ys.length ≤ sizeLine → ∀ (h' : Heap) (c' : Nat), (∀ b o', s.heap.get? b = some o' → h'.get? b = some o') →
      h'.get? s.heap.objs.size = some { cls := .type "list", dict := none, data := .seq its.toArray c', slots := #[] } → EP X pins σ Q (.ref s.heap.objs.size) { s with heap := h' } := fun its r' hz h' c' kp e =>
    ⟨.ref s.heap.objs.size, _, I.laid (t' := s.toks) kp (Nat.le_refl _) (show ObjOk X.prog X.w _ h' _ (.lst ys) from ⟨hz, its, c', r', e⟩), rfl, q _ (I.hok.fresh (Nat.le_refl _))⟩
  rcases hq with hq | hq
  · obtain ⟨its, r', pl, hz⟩ := I.list hq
    have hlen := r'.length
    obtain ⟨o, ho, hc, n, hd⟩ := pl.isList
    exact call_list_seq p (.inl rfl) ho hc hd (fun h' c' kp e => fin its r' hz h' c' kp e) (by simp only [List.size_toArray] <;> omega)
  · obtain ⟨its, r', pl, hz⟩ := I.tuple hq
    have hlen := r'.length
    obtain ⟨o, ho, hc, n, hd⟩ := pl
    exact call_list_seq p (.inr rfl) ho hc hd (fun h' c' kp e => fin its r' hz h' c' kp e) (by simp only [List.size_toArray] <;> omega)
def tyV (K : PySem.W.Frag) (T : String) (x : V) (H : Hp) : Prop := match x with
  | .str _ => T = "str"
  | .int _ => T = "int"
  | .ref p => (T = "list" ∧ ∃ xs, SqL K H p xs) ∨ (T = "tuple" ∧ ∃ o, K.lookup p = some o ∧ o.cls = .type "tuple" ∧ o.dict = none) ∨
      (T = "dict" ∧ ((∃ kvs, H p = some (.dK kvs)) ∨ ∃ kvs, H p = some (.dT kvs))) ∨ (T = "set" ∧ ∃ S n, H p = some (.set S n))
  | _ => False
theorem tyV_is {pins : List (Addr × Obj)} {σ : St} {H : Hp} {s : Shared} {T : String} {x : V} {v : Value} (I : Inv X pins σ H s) (r : RelV x v) (ty : tyV X.K T x H) :
    s.TypeIs v T ∧ ∀ a, v = .ref a → ∃ ob, s.heap.get? a = some ob ∧ ob.dict = none := by
  cases x with
  | str z =>
    obtain ⟨t, rfl⟩ := r
    cases (show T = "str" from ty)
    exact ⟨typeIs_str s z t, fun _ e => nomatch e⟩
  | int i =>
    obtain ⟨t, rfl⟩ := r
    cases (show T = "int" from ty)
    exact ⟨typeIs_int s i t, fun _ e => nomatch e⟩
  | ref p =>
    cases r
    rcases ty with ⟨rfl, xs, hq⟩ | ⟨rfl, o, hk, hc, hd⟩ | ⟨rfl, hk⟩ | ⟨rfl, S, n, hk⟩
    · obtain ⟨its, _, pl, _⟩ := I.list hq
      refine ⟨pl.isList.typeIs, fun a e => ?_⟩
      cases e
      obtain ⟨o, n, e, c, hd, _⟩ := pl
      exact ⟨o, e, hd⟩
    · refine ⟨⟨o, I.kIn p o hk, hc⟩, fun a e => ?_⟩
      cases e
      exact ⟨o, I.kIn _ o hk, hd⟩
    · have z : ∃ o, s.heap.get? p = some o ∧ o.ExactDict := by
        rcases hk with ⟨kvs, hk⟩ | ⟨kvs, hk⟩
        · obtain ⟨_, _, _, _, o, _, _, e, ex, _⟩ := I.hok p _ hk
          exact ⟨o, e, ex⟩
        · obtain ⟨_, _, _, _, o, _, _, e, ex, _⟩ := I.hok p _ hk
          exact ⟨o, e, ex⟩
      obtain ⟨o, e, ex⟩ := z
      refine ⟨⟨o, e, ex.1⟩, fun a e2 => ?_⟩
      cases e2
      exact ⟨o, e, ex.2.1⟩
    · obtain ⟨o, _, _, _, e, ex, _⟩ := I.hok p _ hk
      refine ⟨⟨o, e, ex.1⟩, fun a e2 => ?_⟩
      cases e2
      exact ⟨o, e, ex.2.1⟩
  | _ => exact False.elim ty
def tBM (K : PySem.W.Frag) (T : String) (r : V → List V → Hp → VK → Prop) (to : TE) (t : TA) : TE := fun σ H Q => to σ H fun x H1 => tyV K T x H1 ∧ t σ H1 fun xs H2 => r x xs H2 Q
variable {o e : Expr} {es : List Expr} {to : TE} {t : TA} {name : Str} {apos cpos : Pos} {T id : String} {r : V → List V → Hp → VK → Prop}
theorem pe_bm (pa : PlainAttrs T) (slot : Slot T name id) (hty : typeOf (.builtin id) = pure (.type "method_descriptor")) (hm : MtR X id r) (ho : PE X o to) (ha : PA X (e :: es) t)
    (hbase : attributeBase o name X.env (eval o X.env) = eval o X.env := by rfl)
    (hfew : ((backTo cpos (starEach (e :: es) X.env)).all (fun x => !x.1) && (backToKw cpos (keywordEach [] X.env)).all (fun x => x.1.isSome)
      && decide ((e :: es).length + ([] : List Keyword).length + (if ([] : List Keyword).isEmpty then 0 else 1) < 30)) = true := by rfl)
    (hline : (apos.endLine == cpos.line) = true := by rfl) (hs : starEach (e :: es) X.env = (false, eval e X.env) :: starEach es X.env := by rfl) (hplain : (backTo cpos (starEach es X.env)).any (·.1) = false := by rfl) :
    PE X (.Call (.Attribute o name apos) (e :: es) [] cpos) (tBM X.K T r to t) := by
  intro pins s σ H Q I h
  refine wpAny_Call_method_late hbase hfew hline rfl (thn (ho pins s σ H _ I h) fun v s1 ⟨x, H1, I1, r1, ty, q1⟩ => ?_)
  obtain ⟨h1, h2⟩ := tyV_is I1 r1 ty
  refine ⟨T, id, pa, slot, hty, h1, h2, ?_⟩
  have hA := ha cpos pins s1 σ H1 _ I1 q1
  rw [hs] at hA ⊢
  refine Calls.callWith_builtin (by show (false || (backTo cpos (starEach es X.env)).any (·.1)) = false; rw [hplain] <;> rfl) (Calls.evalArgs_plain ?_)
  exact thn hA fun us s2 ⟨vs, H2, I2, r2, q2⟩ => hm pins s2 σ H2 x vs v us Q I2 r1 r2 q2
end
end L2
namespace L2
open PySem PySem.Spec PyProof.Rows
def MtM (X : Cx) (id : String) (r : V → List V → Hp → VK → Prop) : Prop :=
  ∀ (pins : List (Addr × Obj)) (s : Shared) (σ : St) (H : Hp) (x : V) (xs : List V) (v : Value) (us : List Value) (Q : VK), Inv X pins σ H s → RelV x v → Vals xs us → r x xs H Q →
    wpAny (model X.prog X.w) X.A (call (.builtin id) (v :: us)) (EP X pins σ Q) X.xe s
theorem Vals.one : ∀ {x : V} {us : List Value}, Vals [x] us → ∃ u, us = [u] ∧ RelV x u
  | _, _, .cons r .nil => ⟨_, rfl, r⟩
section
variable {X : Cx} {pins : List (Addr × Obj)} {σ : St} {H : Hp} {s : Shared} {l b : Addr} {xs ys zs : List V}
theorem Inv.lset {its its' : List Value} {n : Nat} {f : Array Value → Array Value} {t' : Nat} (I : Inv X pins σ H s) (hH : H l = some (.lst xs))
    (e : s.heap.get? l = some { cls := .type "list", data := .seq its.toArray n }) (hf : f its.toArray = its'.toArray) (hv : Vals ys its') (hz : ys.length ≤ sizeLine) :
    Inv X pins σ (upd H l (.lst ys)) { s with heap := s.heap.update l (Obj.mapSeq f), toks := t' } := by
  have q := PySem.IsL.update e f
  rw [hf] at q
  refine I.write (x := l) (e := l) (by rw [hH]; exact trivial) (.inl rfl) (fun b' u hb hu => (Heap.get?_update_other s.heap (Obj.mapSeq f) (Ne.symm hb)).trans hu) ⟨_, q⟩ ?_
  exact ⟨hz, its', _, hv, q⟩
theorem Inv.lnew {its : List Value} {t' : Nat} (I : Inv X pins σ H s) (hv : Vals ys its) (hz : ys.length ≤ sizeLine) :
    Inv X pins σ (upd H s.heap.objs.size (.lst ys)) { s with heap := s.heap.push { cls := .type "list", data := .seq its.toArray }, toks := t' } :=
  I.laid (fun _ _ q => Heap.get?_push_of_some _ q) (Nat.le_refl _) ⟨hz, its, 0, hv, Heap.get?_push_size _ rfl⟩
theorem Inv.fresh (I : Inv X pins σ H s) : H s.heap.objs.size = none := I.hok.fresh (Nat.le_refl _)
theorem Inv.lstM (I : Inv X pins σ H s) (hH : H l = some (.lst xs)) : xs.length ≤ sizeLine ∧ ∃ (its : List Value) (n : Nat), Vals xs its ∧ xs.length = its.length ∧ s.heap.get? l = some { cls := .type "list", data := .seq its.toArray n } := by
  obtain ⟨z, its, n, r, e⟩ := I.hok l _ hH
  exact ⟨z, its, n, r, r.length, e⟩
end
section
variable {X : Cx}
def rAppend : V → List V → Hp → VK → Prop := fun x vs H Q => ∃ l xs y, x = .ref l ∧ vs = [y] ∧ H l = some (.lst xs) ∧ xs.length < sizeLine ∧ Q .non (upd H l (.lst (xs ++ [y])))
theorem mt_append : MtM X "list.append" rAppend := by
  intro pins s σ H x vs v us Q I rx rv h
  obtain ⟨l, xs, y, rfl, rfl, hH, hz, q⟩ := h
  cases rx
  obtain ⟨u, rfl, ru⟩ := rv.one
  obtain ⟨z, its, n, r, hl, e⟩ := I.lstM hH
  refine call_meets F.slot_list_append ⟨_, e, rfl⟩ F.entry_list_append (F.args_list_append_2 _ _) (PySem.list_append l its.toArray n u (by rw [List.size_toArray]; omega)) ⟨e, ?_⟩
  refine ⟨.non, _, I.lset (its' := its ++ [u]) hH e (by simp) (r.append (.cons ru .nil)) ?_, rfl, q⟩
  rw [List.length_append, List.length_singleton]
  omega
def rCat : R2 := fun x y H Q => ∃ l b xs zs, x = .ref l ∧ y = .ref b ∧ H l = some (.lst xs) ∧ H b = some (.lst zs) ∧ xs.length + zs.length ≤ sizeLine ∧ ∀ p, H p = none → Q (.ref p) (upd H p (.lst (xs ++ zs)))
theorem op_cat : OpR X (binaryOp .Add) rCat := by
  intro pins s σ H x y v u Q I rx ry h
  obtain ⟨l, b, xs, zs, rfl, rfl, hH, hB, hz, q⟩ := h
  cases rx
  cases ry
  obtain ⟨z, its, n, r, hl, e⟩ := I.lstM hH
  obtain ⟨z2, its2, n2, r2, hl2, e2⟩ := I.lstM hB
  refine PySem.P.add_list e e2 ?_ (by rw [List.size_toArray, List.size_toArray]; omega)
  have ea : its.toArray ++ its2.toArray = (its ++ its2).toArray := by simp
  rw [ea]
  exact ⟨.ref _, _, I.lnew (t' := s.toks) (r.append r2) (by rw [List.length_append]; omega), rfl, q _ I.fresh⟩
end
section
variable {prog : Program} {w : World} {A : Around} {E : Value → Shared → Prop} {s : Shared}
end
section
variable {X : Cx}
end
end L2
namespace Att
open PySem PySem.W PySem.Calls PyProof.Rows
theorem ints_of_wellAll {P : Params} {h : Heap} : ∀ (ns : List Int) (vs : List Value), WellAll P h vs (ns.map WData.int) → IntsAre vs ns := by
  intro ns
  induction ns with
  | nil =>
    intro vs w
    rw [List.map_nil] at w
    cases w
    exact .nil
  | cons n ns ih =>
    intro vs w
    rw [List.map_cons] at w
    cases w with
    | cons a b =>
      cases a
      exact .cons _ _ (ih _ b)
theorem script_of {l : OpenLaw} {n : Nat} (hn : l.most = some n) {P : Params} {h : Heap} {args : List WData} {vals : List Value}
    (hpre : l.row.toRowW.claim.pre args = true) (hwl : WellAll P h vals args) :
    ∃ a vs ns, vals = [Value.ref a] ∧ args = [WData.list (ns.map WData.int)] ∧ h.get? a = some { cls := .type "list", data := .seq vs.toArray } ∧ IntsAre vs ns ∧ ns.length ≤ n := by
  have hsh : WShape.hasAll [] args [.list .int] = true := (pre_splitW hpre).1
  have hc : l.pre.holds [] { args := args } = true := (pre_splitW hpre).2
  obtain ⟨d, r, rfl, h1, h2⟩ := hasAllW_cons hsh
  obtain rfl := hasAllW_nil h2
  obtain ⟨xs, rfl, h3⟩ := hasW_list h1
  obtain ⟨ns, rfl⟩ := items_int h3
  have hlen : ns.length ≤ n := by
    unfold OpenLaw.pre at hc
    have h4 : (WTm.not (.lt (.lit (.int (n : Int))) (.len (.arg 0)))).holds [] { args := [.list (ns.map .int)] } = true := by
      have h4 := (holds_andW hc).1
      rw [hn] at h4
      exact h4
    have h5 := condW_of h4 (w_not (w_lt w_lit (w_len_list (w_arg rfl))))
    rw [List.length_map] at h5
    refine Nat.le_of_not_lt fun q => ?_
    have q' : (n : Int) < ((ns.length : Nat) : Int) := by omega
    first
      | (rw [decide_eq_true q'] at h5; exact absurd h5 (by decide))
      | (simp at h5; omega)
  cases hwl with
  | cons w1 w2 =>
    cases w2
    cases w1 with
    | list ho hall => exact ⟨_, _, ns, rfl, rfl, ho, ints_of_wellAll ns _ hall, hlen⟩
theorem post_true (l : OpenLaw) (args : List WData) : l.row.toRowW.claim.post args (.bool true) args = true :=
  postW_of (r := l.row.toRowW) (X := (true == true))
    (show WShape.has [] (.bool true) .bool = true by first | rfl | decide | simp [WShape.has, WShape.arms, WShape.armsAll])
    (show (WTm.eq .res (.lit (.bool true))).value [] { args := args, res := some (.bool true), after := args } = some (.bool (true == true)) from w_eq_bool (w_res rfl) w_lit) rfl
theorem attach_call {l : OpenLaw} {n : Nat} {q : Program} {loose : List Str} {XP : (Str → Option Value) → Heap → Prop} {YP : World → Heap → Prop} {d : DefRec}
    (hn : l.most = some n) (hdf : d.params.defaults = [])
    (call : ∀ (w : World) (s₀ s₁ : Shared) (mg mb : Str → Option Value) (fa : Addr) (o : Obj) (pm cd doc : Value) (a : Addr) (vs : List Value) (ns : List Int),
      Ground q loose [] XP w s₀ mg mb s₁.heap → YP w s₁.heap →
      s₁.heap.get? fa = some o → o.data = .func (docDef d.name d.params d.body d.scope pm cd doc) → s₁.heap.CodeRec cd d.name → mg d.name = some (.ref fa) →
      s₁.heap.get? a = some { cls := .type "list", data := .seq vs.toArray } → IntsAre vs ns → ns.length ≤ n → s₁.gens = #[] →
      codeAny (model l.prog w) callerA (.call (.ref fa) ⟨[.ref a], []⟩) (fun r s' => r = .ok (.ret (.bool true)) ∧ OldK s₁.heap s'.heap ∧ s'.os = s₁.os ∧ AllBare s'.gens) s₁) :
    WalkO q loose XP YP l.row.toRowW d [] (fun f vs => PySem.call f vs) := by
  intro w s₀ s₁ mg mb G Y fa o pm cd doc dV kV ho hd hcd hD hmg hg args vals as hpre hlay hrd hwl hlo
  obtain rfl : dV = .none := Dflts.none hD hdf
  obtain rfl : kV = .none := Dflts.noKw hD
  obtain ⟨a, vs, ns, rfl, rfl, hobj, hints, hlen⟩ := script_of hn hpre hwl
  refine enter_call (codeAny_mono (call w s₀ s₁ mg mb fa o pm cd doc a vs ns G Y ho (fd_plain hd) hcd hmg hobj hints hlen hg) fun r s' hq => ?_)
  obtain ⟨rfl, h2, h3, h4⟩ := hq
  exact ⟨.inl ⟨.bool true, .bool true, [], rfl, fun _ => rfl, .bool true, post_true l _, fun _ => ⟨List.Pairwise.nil, fun _ hm => (nomatch hm)⟩⟩, h2, h3, h4⟩
section
variable {prog : Program} {w : World} {A : Around} {E : Value → Shared → Prop} {s : Shared} {K : Frag}
end
end Att
namespace L2
open PySem PySem.Spec PyProof.Rows
theorem vals_ints : ∀ {vs : List Value} {ns : List Int}, IntsAre vs ns → Vals (ns.map V.int) vs
  | _, _, .nil => .nil
  | _, _, .cons n t h => .cons ⟨t, rfl⟩ (vals_ints h)
def Only (H : Hp) : Prop := ∀ b, H b = none ∨ ∃ o xs, H b = some (.frz o (.lst xs))
theorem law_call {P : Program} {w : World} {K : PySem.W.Frag} {mg mb : Str → Option Value} {CX : CXT} {k : Nat} {fa a : Addr} {fd : FuncData} {x : Str} {sp : Sp} {s₁ : Shared} {vs : List Value} {ns : List Int}
    (KX : K.In s₁.heap) (hns : s₁.heap.Ns mainGlobals mg) (hb : s₁.heap.Ns builtinsNs mb) (hbb : ∀ x : Str, x ≠ "__name__" → mb x = bootBuiltins x) (hlim : s₁.heap.NoLimit) (hg : s₁.gens = #[])
    (ha : s₁.heap.get? a = some { cls := .type "list", data := .seq vs.toArray }) (hi : IntsAre vs ns) (hl : ns.length ≤ sizeLine) (hr : Room k callerA)
    (F : ∀ base : Heap, K.In base → base.Ns mainGlobals mg → FnOk P w K mg base CX k fa fd [x] sp) (hbind : ∀ (s : Shared) (u : Value), BindsTo s fd ⟨[u], []⟩ [(x, u)])
    (hsp : ∀ H : Hp, Only H → SqL K H a (ns.map V.int) → sp [.ref a] H (fun v _ => v = .bl true) fun _ _ _ => False)
    (hCX : ∀ H e s', CX [] H s₁ (fun _ _ _ => False) e s' → False) :
    codeAny (model P w) callerA (.call (.ref fa) ⟨[.ref a], []⟩) (fun r s' => r = .ok (.ret (.bool true)) ∧ OldK s₁.heap s'.heap ∧ s'.os = s₁.os ∧ AllBare s'.gens) s₁ := by
  have rv := vals_ints hi
  have lenV := hi.length
  -- from an abstract heap in which nothing but the script may be tracked
  have core : ∀ H : Hp, Only H → SqL K H a (ns.map V.int) → HOk P w H s₁.heap → (∀ b, H b ≠ none → b = a) → (H a ≠ none → K.lookup a = none) →
      codeAny (model P w) callerA (.call (.ref fa) ⟨[.ref a], []⟩) (fun r s' => r = .ok (.ret (.bool true)) ∧ OldK s₁.heap s'.heap ∧ s'.os = s₁.os ∧ AllBare s'.gens) s₁ := by
    intro H hO hS hok hA hK
    have base_of : ∀ {b : Addr} {o : Obj}, s₁.heap.get? b = some o → H b = none → (hidT s₁.heap H).get? b = some o := fun e n => hidT_get e n
    have noA : ∀ {b : Addr} {o : Obj} {es : Array DictEntry} {ep : Nat}, s₁.heap.get? b = some o → o.data = .dict es ep → H b = none := fun {b o es ep} e d => by
      cases q : H b with
      | none => rfl
      | some u =>
        have e' : b = a := hA b (by rw [q]; simp)
        subst e'
        rw [ha] at e; cases e
        have d' : Data.seq vs.toArray _ = Data.dict es ep := d
        cases d'
    have nsK : ∀ {b : Addr} {m : Str → Option Value}, s₁.heap.Ns b m → (hidT s₁.heap H).Ns b m := fun {b m} ⟨o, es, ep, e, d, r⟩ => ⟨o, es, ep, base_of e (noA e d), d, r⟩
    have hKb : K.In (hidT s₁.heap H) := fun b o e => base_of (KX b o e) (by
      cases q : H b with
      | none => rfl
      | some u =>
        have e' : b = a := hA b (by rw [q]; simp)
        subst e'
        rw [hK (by rw [q]; simp)] at e; cases e)
    have hM : Mod K mg (hidT s₁.heap H) := ⟨hKb, nsK hns, ⟨mb, nsK hb, hbb⟩, let ⟨mc, h1, h2⟩ := hlim; ⟨mc, nsK h1, h2⟩⟩
    have e0 : Env0 P w K mg (hidT s₁.heap H) callerA [] s₁ H := ⟨rfl, hM, fun b o e => of_hidT e, Nat.le_of_eq (hidT_size _ _), trivial, fun b hb => absurd (show b ∈ ([] : List Addr) from hb) (by simp), hok, .of_eq hg⟩
    refine codeAny_mono ((F _ hKb (nsK hns)).run callerA [] s₁ H ⟨[.ref a], []⟩ [.ref a] [.ref a] _ _ hr e0 (hbind s₁ (.ref a)) (.cons rfl .nil) (hsp H hO hS)) fun r s' h => ?_
    cases r with
    | error e => exact (hCX H e s' h).elim
    | ok fl =>
      cases fl with
      | next => exact False.elim h
      | brk => exact False.elim h
      | cont => exact False.elim h
      | ret u =>
        obtain ⟨v, H', os, bare, un, hok', r', q⟩ := h
        have q' : v = .bl true := q
        subst q'
        obtain rfl : u = Value.bool true := r'
        refine ⟨rfl, OldK.of_keep fun b o e => ?_, os, bare⟩
        cases q : H b with
        | none => exact un.keep b o e q (by intro z; exact absurd (show b ∈ ([] : List Addr) from z) (by simp)) (by simp)
        | some u =>
          rcases hO b with z | ⟨ob, xs, z⟩
          · rw [q] at z; cases z
          · have z2 := un.frzs b ob _ z
            obtain ⟨e1, _⟩ := hok b _ z
            obtain ⟨e2, _⟩ := hok' b _ z2
            rw [e] at e1; cases e1
            exact e2
  cases hk : K.lookup a with
  | some o =>
    -- the script is one of the module's own objects
    have e := KX a o hk
    rw [ha] at e
    cases e
    refine core (fun _ => none) (fun _ => .inl rfl) (.inr ⟨_, vs.toArray, _, hk, rfl, rfl, rfl, by rw [List.size_toArray, lenV]; exact hl, by simpa using rv⟩) (fun b u z => by have z' : (none : Option HO) = some u := z; cases z') (fun b z => absurd rfl z) fun z => absurd rfl z
  | none =>
    refine core (fun b => if b = a then some (.frz { cls := .type "list", data := .seq vs.toArray } (.lst (ns.map V.int))) else none) (fun b => ?_) (.inl (.inr ⟨{ cls := .type "list", data := .seq vs.toArray }, if_pos rfl⟩)) (fun b u z => ?_) (fun b z => ?_) fun _ => hk
    · by_cases hb : b = a
      · exact .inr ⟨_, _, if_pos hb⟩
      · exact .inl (if_neg hb)
    · by_cases hb : b = a
      · have z' := (if_pos hb).symm.trans z
        cases z'
        subst hb
        exact ⟨ha, by rw [List.length_map]; exact hl, vs, _, rv, ha⟩
      · have z' := (if_neg hb).symm.trans z
        cases z'
    · by_cases hb : b = a
      · exact hb
      · exact absurd (if_neg hb) z
end L2
namespace L2
open PySem PySem.Spec PyProof.Rows
theorem walk_of {l : PySem.W.OpenLaw} {n k : Nat} {q : Program} {loose : List Str} {XP : (Str → Option Value) → Heap → Prop} {YP : World → Heap → Prop} {d : DefRec} {K : Params → PySem.W.Frag} {CX : World → CXT} {sp : World → Sp} {x : Str}
    (hn : l.most = some n) (hn2 : n ≤ sizeLine) (hdf : d.params.defaults = []) (hr : Room k callerA)
    (hY : ∀ (w : World) (h : Heap), YP w h → (K w.params).In h)
    (F : ∀ (w : World) (mg : Str → Option Value) (fa : Addr) (h : Heap), (K w.params).In h → h.Ns mainGlobals mg → mg d.name = some (.ref fa) →
      ∃ fd : FuncData, (∀ (s : Shared) (u : Value), BindsTo s fd ⟨[u], []⟩ [(x, u)]) ∧
        ∀ base : Heap, (K w.params).In base → base.Ns mainGlobals mg → FnOk l.prog w (K w.params) mg base (CX w) k fa fd [x] (sp w))
    (hsp : ∀ (w : World) (H : Hp) (a : Addr) (ns : List Int), ns.length ≤ n → Only H → SqL (K w.params) H a (ns.map V.int) → sp w [.ref a] H (fun v _ => v = .bl true) fun _ _ _ => False)
    (hCX : ∀ (w : World) (H : Hp) (s : Shared) (e : Value) (s' : Shared), CX w [] H s (fun _ _ _ => False) e s' → False) :
    PySem.W.WalkO q loose XP YP l.row.toRowW d [] (fun f vs => PySem.call f vs) := by
  refine Att.attach_call hn hdf fun w s₀ s₁ mg mb fa o pm cd doc a vs ns G Y ho hd hcd hmg hobj hints hlen hg => ?_
  have KX := hY w _ Y
  obtain ⟨fd, hb, hF⟩ := F w mg fa _ KX G.T.g hmg
  exact law_call KX G.T.g G.T.b G.T.builtins G.T.nolimit hg hobj hints (Nat.le_trans hlen hn2) hr hF hb (fun H hO hS => hsp w H a ns hlen hO hS) fun H e s' => hCX w H s₁ e s'
end L2
namespace L2
open PySem PySem.Spec PyProof.Rows
def defArgs (s : Stmt) : Arguments := match s with
  | .FunctionDef _ a _ _ _ _ _ _ _ _ => a
  | _ => { posonlyargs := [], args := [], vararg := none, kwonlyargs := [], kw_defaults := [], kwarg := none, defaults := [] }
def defBody (s : Stmt) : List Stmt := match s with
  | .FunctionDef _ _ b _ _ _ _ _ _ _ => b
  | _ => []
def defScope (s : Stmt) : Scope := match s with
  | .FunctionDef _ _ _ _ _ _ sc _ _ _ => sc
  | _ => { kind := .function, names := [], isGenerator := false, isCoroutine := false }
abbrev CX0 : CXT := fun _ _ _ _ _ _ => False
abbrev E0 : XK := fun _ _ _ => False
theorem pass0 {X : Cx} : Passes CX0 X E0 := fun _ _ _ _ _ _ _ h => h.elim
structure Fun (K : PySem.W.Frag) (x qual : Str) (st : Stmt) (f : Addr) (fd : FuncData) : Prop where
  ex : ∃ (oc : Value) (od : Option Addr) (kV doc pm : Value) (an : Option Addr) (cdv ct : Value) (osl : Array (Option Value)),
    fd = PySem.W.fnOf x qual (defArgs st) (defBody st) (defScope st) .none kV doc pm an cdv ct ∧ K.lookup f = some ⟨oc, od, .func fd, osl⟩ ∧ PySem.W.codeIn K cdv qual = true
  kp : PySem.W.keepIn K (.ref f) = true
section
variable {P : Program} {w : World} {K : PySem.W.Frag} {mg : Str → Option Value} {base : Heap}
theorem Fun.ok {x qual : Str} {st : Stmt} {f : Addr} {fd : FuncData} {N ps : List Str} {k : Nat} {sp : Sp} (F : Fun K x qual st f fd) (S : FnScope N ps (defScope st)) (len : ∀ vs H Q E, sp vs H Q E → vs.length = ps.length)
    (hbody : ∀ (cdv : Value) (A : Around) (outer : List Env) (s : Shared) (H : Hp) (vs : List V) (Q : VK) (E : XK), Room k (A.deeper (envOfC qual (defScope st) s.heap.objs.size f cdv)) → sp vs H Q E →
      ∃ t, PSs (cxOf CX0 P w K mg base N qual (defScope st) f cdv A outer s H E).nox (defBody st) t ∧ t { nx := fun _ H' => Q .non H', rt := Q } (start N vs) H) : FnOk P w K mg base CX0 (k + 1) f fd ps sp := by
  obtain ⟨oc, od, kV, doc, pm, an, cdv, ct, osl, rfl, lk, hcd⟩ := F.ex
  refine fn_of lk hcd S len fun A outer s H vs Q E hr hsp => ?_
  obtain ⟨t, h, q⟩ := hbody cdv A outer s H vs Q E hr hsp
  exact ⟨t, h.nox, q⟩
theorem Fun.binds {x qual : Str} {st : Stmt} {f : Addr} {fd : FuncData} {ps : List Str} (F : Fun K x qual st f fd)
    (h : ∀ (kV doc pm : Value) (an : Option Addr) (cdv ct : Value) (us : List Value), us.length = ps.length → bindArgs (PySem.W.fnOf x qual (defArgs st) (defBody st) (defScope st) .none kV doc pm an cdv ct) ⟨us, []⟩ = pure (ps.zip us)) : Binds K fd ps [] := by
  obtain ⟨oc, od, kV, doc, pm, an, cdv, ct, osl, rfl, lk, hcd⟩ := F.ex
  exact .all (h kV doc pm an cdv ct)
theorem fun_mk {x qual : Str} {st : Stmt} {f : Addr} {oc : Value} {od an : Option Addr} {osl : Array (Option Value)} {kV doc pm cdv ct : Value} (l : K.lookup f = some ⟨oc, od, .func (PySem.W.fnOf x qual (defArgs st) (defBody st) (defScope st) .none kV doc pm an cdv ct), osl⟩)
    (c : PySem.W.codeIn K cdv qual = true) (k : PySem.W.keepIn K (.ref f) = true) : Fun K x qual st f (PySem.W.fnOf x qual (defArgs st) (defBody st) (defScope st) .none kV doc pm an cdv ct) := ⟨⟨oc, od, kV, doc, pm, an, cdv, ct, osl, rfl, l, c⟩, k⟩
end
theorem small1000 {n : Nat} (h : n ≤ 1000) : n < sizeLine := Nat.lt_of_le_of_lt h (by decide)
section
variable {X : Cx}
theorem pv (i : Nat) {x : Str} {pos : Pos} (hN : X.N[i]? = some x := by rfl) (hv : Vis X.env.scope x := by first | exact Or.inl rfl | exact Or.inr (Or.inl rfl) | exact Or.inr (Or.inr rfl)) (hd : (x == ("__debug__" : Str)) = false := by decide)
    (hcd : (x == ("__classdict__" : Str)) = false := by decide) : PE X (.Name x pos) (tVar i) := pe_var hN hv hd hcd
end
theorem iteF {A B : Prop} (h : B) : if false = true then A else B := by
  rw [if_neg Bool.false_ne_true]
  exact h
theorem ite2 {c A B : Prop} [Decidable c] (h1 : c → A) (h2 : ¬ c → B) : if c then A else B := by
  by_cases h : c
  · rw [if_pos h]
    exact h1 h
  · rw [if_neg h]
    exact h2 h
theorem iteNS {c A B : Prop} [Decidable c] (hc : c) (h : B) : if (!decide c) = true then A else B := by
  rw [decide_eq_true hc]
  exact iteF h
def Same (H H' : Hp) : Prop := ∀ b o, H b = some o → H' b = some o
theorem Same.refl (H : Hp) : Same H H := fun _ _ h => h
theorem Same.trans {H H1 H2 : Hp} (a : Same H H1) (b : Same H1 H2) : Same H H2 := fun c o h => b c o (a c o h)
theorem Same.free {H H' : Hp} (e : Same H H') {l : Addr} (h : H' l = Option.none) : H l = Option.none := by
  cases q : H l with
  | none => rfl
  | some o =>
    rw [e l o q] at h
    cases h
theorem Same.seq {K : PySem.W.Frag} {H H' : Hp} {a : Addr} {xs : List V} (e : Same H H') (h : SqL K H a xs) : SqL K H' a xs := by
  rcases h with (h | ⟨o, h⟩) | h
  · exact .inl (.inl (e _ _ h))
  · exact .inl (.inr ⟨o, e _ _ h⟩)
  · exact .inr h
end L2
namespace L2
open PySem PySem.Spec PyProof.Rows
theorem Inv.track {X : Cx} {pins : List (Addr × Obj)} {σ : St} {H : Hp} {s : Shared} {a : Addr} {o : HO} (I : Inv X pins σ H s) (hn : H a = none) (new : ObjOk X.prog X.w (upd H a o) s.heap a o)
    (h1 : X.s₀.heap.objs.size ≤ a) (hL : a ≠ X.env.locals) (h2 : ∀ x c, X.env.cells.lookup x = some c → c ≠ a) (h3 : ∀ p ∈ X.pn ++ pins, p.1 ≠ a) : Inv X pins σ (upd H a o) s := by
  have ne : ∀ b u, H b = some u → b ≠ a := fun b u e => ne_of_none e hn
  have J := I.step (h' := s.heap) (g' := s.gens) (d' := s.drawn) (t' := s.toks) (H' := upd H a o) (ch := [a])
    (fun b hb => by
      have e : b = a := by simpa using hb
      subst e
      exact ⟨.inr h1, hL, h2, h3⟩)
    (fun _ _ _ _ _ e _ => e) (fun b ob _ _ _ e _ => ⟨ob.slots, e⟩)
    (fun b ob hb _ n => by rw [upd_ne (fun z => hb (by simp [z]))]; exact n)
    (fun b ob _ e => ⟨ob, e⟩)
    (fun b xs e => by rw [upd_ne (ne b _ e)]; exact e) (fun b ob u e => by rw [upd_ne (ne b _ e)]; exact e)
    (fun b ps e => ⟨#[], by rw [upd_ne (ne b _ e), e]; simp⟩)
    (fun _ h => h)
    (fun b u e => by
      by_cases hb : b = a
      · subst hb; rw [upd_same] at e; cases e; exact new
      · rw [upd_ne hb] at e
        exact (I.hok b u e).stay (fun _ _ _ q => q) (fun c q => by rw [upd_ne (ne c _ q)]; exact q) (fun c xs q => by rw [upd_ne (ne c _ q)]; exact q))
    I.bare
  exact J
def cxComp (X : Cx) (M : List Str) (pins : List (Addr × Obj)) (xs : List Str) (scope : Scope) (cl : List (Str × Addr)) (C : Addr) (fp : List Addr) (s : Shared) (H : Hp) : Cx where
  prog := X.prog
  w := X.w
  K := X.K
  mg := X.mg
  base := X.base
  A := X.A
  N := xs ++ M
  s₀ := s
  H₀ := H
  env := compEnvC scope cl C X.env
  outer := X.stack
  stack := X.stack
  ex := fp
  fn := fun _ => false
  calm := X.calm
  pn := X.pn ++ pins
  xe := fun _ _ => False
theorem closure_go {env : Env} : ∀ (names : List (Str × NameKind)) (acc : List (Str × Addr)), (∀ x ∈ names, x.2 = .free → ∃ c, env.cells.lookup x.1 = some c) → (∀ y c, acc.lookup y = some c → env.cells.lookup y = some c) →
    ∃ cl, (forIn names acc fun (x : Str × NameKind) (cs : List (Str × Addr)) => (match x with
      | (name, kind) => if (kind == NameKind.free) = true then do let a ← cellOf env name; pure (ForInStep.yield ((name, a) :: cs)) else pure (ForInStep.yield cs) : Sem (ForInStep (List (Str × Addr))))) = pure cl ∧
      (∀ y c, cl.lookup y = some c → env.cells.lookup y = some c) ∧ (∀ x ∈ names, x.2 = .free → ∃ c, cl.lookup x.1 = some c) ∧ (∀ y c, acc.lookup y = some c → ∃ c', cl.lookup y = some c')
  | [], acc, _, h2 => ⟨acc, rfl, h2, fun x hx => (nomatch hx), fun y c e => ⟨c, e⟩⟩
  | (name, kind) :: r, acc, h1, h2 => by
    rw [List.forIn_cons]
    by_cases hk : (kind == NameKind.free) = true
    · obtain ⟨c, hc⟩ := h1 (name, kind) List.mem_cons_self (by simpa using hk)
      have h2' : ∀ y c', List.lookup y ((name, c) :: acc) = some c' → env.cells.lookup y = some c' := fun y c' e => by
        rw [List.lookup_cons] at e
        split at e
        · rename_i hy
          have hy' : y = name := by simpa using hy
          subst hy'
          cases e
          exact hc
        · exact h2 y c' e
      obtain ⟨cl, e1, e2, e3, e4⟩ := closure_go r ((name, c) :: acc) (fun x hx => h1 x (List.mem_cons_of_mem _ hx)) h2'
      refine ⟨cl, ?_, e2, fun x hx hf => ?_, fun y c' e => ?_⟩
      · dsimp only
        rw [if_pos hk]
        have hce : cellOf env name = pure c := by unfold cellOf; rw [hc]
        rw [hce, pure_bind, pure_bind]
        exact e1
      · rcases List.mem_cons.mp hx with rfl | hx
        · exact e4 name c (by simp [List.lookup_cons])
        · exact e3 x hx hf
      · by_cases hy : y = name
        · subst hy; exact e4 y c (by simp [List.lookup_cons])
        · exact e4 y c' (by
            rw [List.lookup_cons]
            have hb : (y == name) = false := by simpa using hy
            rw [hb]
            exact e)
    · obtain ⟨cl, e1, e2, e3, e4⟩ := closure_go r acc (fun x hx => h1 x (List.mem_cons_of_mem _ hx)) h2
      refine ⟨cl, ?_, e2, fun x hx hf => ?_, e4⟩
      · dsimp only
        rw [if_neg hk, pure_bind]
        exact e1
      · rcases List.mem_cons.mp hx with rfl | hx
        · exact absurd (by simpa using hf) hk
        · exact e3 x hx hf
theorem closure_ok {env : Env} {scope : Scope} (h : ∀ x ∈ scope.names, x.2 = .free → ∃ c, env.cells.lookup x.1 = some c) :
    ∃ cl, closureFor scope env = pure cl ∧ (∀ y c, cl.lookup y = some c → env.cells.lookup y = some c) ∧ (∀ x ∈ scope.names, x.2 = .free → ∃ c, cl.lookup x.1 = some c) := by
  obtain ⟨cl, e1, e2, e3, _⟩ := closure_go (env := env) scope.names [] h (fun y c e => by simp at e)
  refine ⟨cl, ?_, e2, e3⟩
  have hu : closureFor scope env = ((forIn scope.names [] fun (x : Str × NameKind) (cs : List (Str × Addr)) => (match x with
      | (name, kind) => if (kind == NameKind.free) = true then do let a ← cellOf env name; pure (ForInStep.yield ((name, a) :: cs)) else pure (ForInStep.yield cs) : Sem (ForInStep (List (Str × Addr))))) >>= fun cs => pure cs) := rfl
  rw [hu, e1, pure_bind]
theorem relabel_free {env : Env} : ∀ {names : List (Str × NameKind)} {x : Str}, (∀ y ∈ names, y.2 ≠ .cell) →
    ((names.map fun (n, k) => if (k == NameKind.free && env.scope.kind == .function && env.kindOf n == some .cell) then (n, NameKind.cell) else (n, k)).lookup x = some .cell ∨
     (names.map fun (n, k) => if (k == NameKind.free && env.scope.kind == .function && env.kindOf n == some .cell) then (n, NameKind.cell) else (n, k)).lookup x = some .free) → (x, NameKind.free) ∈ names
  | [], _, _, h => by simp at h
  | (n, k) :: r, x, hc, h => by
    have ih := @relabel_free env r x (fun y hy => hc y (List.mem_cons_of_mem _ hy))
    have hk : k ≠ .cell := hc (n, k) List.mem_cons_self
    rw [List.map_cons] at h
    by_cases hx : x = n
    · subst hx
      by_cases hcnd : (k == NameKind.free && env.scope.kind == .function && env.kindOf x == some .cell) = true
      · have hf : k = .free := by
          have := (Bool.and_eq_true_iff.mp (Bool.and_eq_true_iff.mp hcnd).1).1
          simpa using this
        subst hf
        exact List.mem_cons_self
      · have hcf : (k == NameKind.free && env.scope.kind == .function && env.kindOf x == some .cell) = false := Bool.eq_false_iff.mpr hcnd
        dsimp only at h
        rw [hcf] at h
        rw [if_neg Bool.false_ne_true, List.lookup_cons, beq_self_eq_true] at h
        dsimp only at h
        rcases h with h | h
        · exact absurd (Option.some.inj h) hk
        · have e : k = .free := Option.some.inj h
          rw [e]
          exact List.mem_cons_self
    · refine List.mem_cons_of_mem _ (ih ?_)
      have hb : (x == n) = false := by simpa using hx
      by_cases hcnd : (k == NameKind.free && env.scope.kind == .function && env.kindOf n == some .cell) = true
      · simpa only [hcnd, if_true, List.lookup_cons, hb] using h
      · simpa only [hcnd, if_false, List.lookup_cons, hb, Bool.false_eq_true] using h
structure CompScope (X : Cx) (M : List Str) (xs : List Str) (scope : Scope) : Prop where
  kind : scope.kind = .function
  nocell : ∀ y ∈ scope.names, y.2 ≠ .cell
  loc : ∀ y ∈ scope.names, y.2 = .local → scope.names.lookup y.1 = some .local
  free : ∀ y ∈ scope.names, y.2 = .free → X.env.kindOf y.1 = some .cell ∨ X.env.kindOf y.1 = some .free
  apart : ∀ y ∈ M, (relabel scope X.env).names.lookup y ≠ some .local
  same : ∀ (i : Nat) (y : Str), M[i]? = some y → ((relabel scope X.env).names.lookup y = some .cell ∨ (relabel scope X.env).names.lookup y = some .free) → X.N[i]? = some y
  len : M.length = X.N.length
theorem comp_inv {X : Cx} {M : List Str} {pins : List (Addr × Obj)} {σ : St} {H : Hp} {s : Shared} {xs : List Str} {scope : Scope} {cl : List (Str × Addr)} {fp : List Addr} {h₁ : Heap} {C : Addr} {m : Str → Option Value} {tk : Nat}
    (I : Inv X pins σ H s) (S : CompScope X M xs scope) (lk : ∀ y c, cl.lookup y = some c → X.env.cells.lookup y = some c) (has : ∀ x ∈ scope.names, x.2 = .free → ∃ c, cl.lookup x.1 = some c)
    (hf : ∀ b ∈ fp, FpOk X pins H b) (hfo : ∀ b ∈ fp, ∃ o, s.heap.get? b = some o ∧ ∀ v, o.data ≠ .cell v) (hC : s.heap.objs.size ≤ C) (hN : h₁.Ns C m) (hk : ∀ b o, s.heap.get? b = some o → h₁.get? b = some o) :
    Inv (cxComp X M pins xs scope cl C fp s H) [] (List.replicate xs.length none ++ σ) H { s with heap := h₁, toks := tk } := by
  have ltC : ∀ b o, s.heap.get? b = some o → b ≠ C := fun b o e => Nat.ne_of_lt (Nat.lt_of_lt_of_le (Heap.lt_size e) hC)
  have isFree : ∀ y, ((relabel scope X.env).names.lookup y = some .cell ∨ (relabel scope X.env).names.lookup y = some .free) → (y, NameKind.free) ∈ scope.names := fun y h => relabel_free S.nocell h
  have stk : ∀ b, b ≠ X.env.locals → b ∉ X.fs → b ∉ frs X.stack := fun b h1 h2 hb => (List.mem_cons.mp (I.stkSub b hb)).elim h1 h2
  refine ⟨⟨I.ok.mod, S.kind, I.ok.glob, I.ok.blt, hC, fun x y c e1 e2 => I.ok.inj x y c (lk x c e1) (lk y c e2), fun y hy => has _ (isFree y hy) rfl, fun _ _ e _ => absurd (show false = true from e) Bool.false_ne_true, I.ok.hd, I.ok.frames, .inl rfl,
      fun b hb => ?_, I.bs, Nat.le_trans I.ok.bsz I.sz, fun b o e hb => ?_, fun b hb => ?_, I.stack, I.stkFree⟩,
    rfl, I.bare, Un.kept hk, ⟨m, hN, fun i y v e1 e2 e3 => ?_⟩, fun y c e => ?_, I.hok.fresh hC, fun y c e => I.freeC y c (lk y c e), fun p hp => ?_, I.hok.kept hk, ?_⟩
  · obtain ⟨o, e, _⟩ := hfo b hb
    exact ⟨ltC b o e, fun x c ec => (hf b hb).2.2.2.2.1 x c (lk x c ec)⟩
  · have hb' : b ∈ fp := hb
    rcases (hf b hb').2.2.2.1 with z | z
    · exact I.ok.noex b o e z
    · exact absurd (Nat.lt_of_lt_of_le (Heap.lt_size (I.ok.bs b o e).1) z) (Nat.lt_irrefl _)
  · exact stk b (hf b hb).2.1 (hf b hb).2.2.1
  · have e1' : (xs ++ M)[i]? = some y := e1
    by_cases hi : i < xs.length
    · rw [List.getElem?_append_left (by simpa using hi), List.getElem?_replicate, if_pos hi] at e2
      cases e2
    · rw [List.getElem?_append_right (by simpa using hi), List.length_replicate] at e2
      rw [List.getElem?_append_right (by simpa using hi)] at e1'
      have hy : y ∈ M := List.mem_of_getElem? e1'
      have hfr : (relabel scope X.env).names.lookup y = some .cell ∨ (relabel scope X.env).names.lookup y = some .free := by
        rcases e3 with z | z
        · exact absurd z (S.apart y hy)
        · exact z
      have hmem := isFree y hfr
      obtain ⟨mo, hmo, hlo⟩ := I.loc
      have hkd := S.free _ hmem rfl
      obtain ⟨u, r, l⟩ := hlo (i - xs.length) y v (S.same _ y e1' hfr) e2 (by
        rcases hkd with z | z
        · exact .inr (.inl z)
        · exact .inr (.inr z))
      refine ⟨u, r, .inr ⟨hfr, ?_⟩⟩
      obtain ⟨c, hc⟩ := has _ hmem rfl
      rcases l with ⟨z, _⟩ | ⟨_, c', hc', z⟩
      · rcases hkd with q | q <;> · have z' : X.env.kindOf y = some .local := z
                                    rw [show X.env.kindOf y = _ from q] at z'
                                    cases z'
      · have ec := lk _ _ hc
        have ecc : c = c' := by
          have := ec.symm.trans hc'
          exact Option.some.inj this
        subst ecc
        obtain ⟨ob, hob, hdt⟩ := z
        exact ⟨c, hc, ob, hk _ _ hob, hdt⟩
  · obtain ⟨v, ob, hob, hdt⟩ := I.cell y c (lk y c e)
    exact ⟨v, ob, hk _ _ hob, hdt⟩
  · have hp' : p ∈ X.pn ++ pins := by
      rcases List.mem_append.mp hp with z | z
      · exact z
      · exact absurd z (by simp)
    obtain ⟨a1, a2, a3, a4, a5⟩ := I.pin p hp'
    exact ⟨hk _ _ a1, a2, ltC _ _ a1, stk _ a3 a4, a5⟩
  · show _ = (xs ++ M).length
    rw [List.length_append, List.length_append, List.length_replicate, I.len, S.len]
def tEl (tc : Option TT) (te : TE) (σ : St) (H : Hp) (yes : V → Hp → Prop) (no : Hp → Prop) : Prop :=
  match tc with
  | none => te σ H yes
  | some t => t σ H fun b H1 => if b = true then te σ H1 yes else no H1
def tCompG (k : Nat) (wi : TI) (g : TG) (tc : Option TT) (te : TE) (σ : St) (H : Hp) (F : List V → Hp → Prop) : Prop := wi σ H fun J H1 => ∃ W : Nat → Nat → List V → Hp → Prop, (∃ m, W 0 m [] H1) ∧ ∀ i m ys H, W i m ys H →
  (J.stop i H ∧ F ys H) ∨
  (J.go i H ∧ ys.length < sizeLine ∧ ∃ N : List V → Hp → Prop, (∀ zs H', N zs H' → ∃ m', m' < m ∧ W (i + 1) m' zs H') ∧ ∀ x H', J.yld i H x H' → g x (List.replicate k none ++ σ) H' fun σ2 H2 => σ2.drop k = σ ∧
    tEl tc te σ2 H2 (fun y H3 => N (ys ++ [y]) H3) (fun H3 => N ys H3))
def tComp (k : Nat) (wi : TI) (g : TG) (tc : Option TT) (te : TE) : TE := fun σ H Q => tCompG k wi g tc te σ H fun ys H' => ∀ a, H' a = none → Q (.ref a) (upd H' a (.lst ys))
def tSetComp (i k : Nat) (wi : TI) (g : TG) (tc : Option TT) (te : TE) : TS := fun D σ H => tCompG k wi g tc te σ H fun ys H' => ∀ a, H' a = none → D.nx (σ.set i (some (.ref a))) (upd H' a (.lst ys))
inductive PIf (X : Cx) : List Expr → Option TT → Prop where
  | no : PIf X [] none
  | one {c : Expr} {t : TT} (h : PT X c t) : PIf X [c] (some t)
theorem comp_loop {prog : Program} {w : World} {A : Around} {R : Result → Shared → Prop} {s : Shared} {elt target iter : Expr} {ifs : List Expr} {scope : Scope} {pos : Pos} {it acc : Value} {env : Env} (I : Nat → Shared → Prop)
    (turn : ∀ n s, I n s → wpAny (model prog w) A (pyNext it) (fun r s₁ => match r with
      | none => R (.ok .next) s₁
      | some v => wpAny (model prog w) A (letOwnedTupleGo target it v) (fun _ s₁' => wpAny (model prog w) A (assign target env v) (fun _ s₂ =>
          wpAny (model prog w) A (forIn ifs true fun c r => if r = true then do let ok ← isTrue c env (eval c env); pure (ForInStep.yield ok) else pure (ForInStep.yield r)) (fun ok s₃ =>
            if ok = true then wpAny (model prog w) A (eval elt env) (fun x s₄ =>
              wpAny (model prog w) A (call (.builtin "list.append") [acc, x]) (fun _ s₅ => ∃ m, m < n ∧ I m s₅) (fun _ _ => False) s₄) (fun _ _ => False) s₃
            else ∃ m, m < n ∧ I m s₃) (fun _ _ => False) s₂) (fun _ _ => False) s₁') (fun _ _ => False) s₁) (fun _ _ => False) s)
    (n : Nat) (h : I n s) :
    codeAny (model prog w) A (.compLoop (.ListComp elt [⟨target, iter, ifs, 0⟩] scope pos) 0 it acc env) R s := by
  refine codeAny_loop rfl I (fun n s hI => ?_) n h
  show wpAny _ A ((compTurn (.ListComp elt [⟨target, iter, ifs, 0⟩] scope pos) 0 it acc env).onRaise (fun x => do noteFrame x env; theTreesLotGoes x)) _ _ s
  refine wpAny_noted ?_
  rw [compTurn_list]
  refine wpAny_bind (wpAny_standAt (wpAny_bind (wpAny_mono (turn n s hI) (fun r s₁ h₁ => ?_) fun _ _ h' => False.elim h')))
  cases r with
  | none => exact wpAny_pure h₁
  | some v =>
    refine wpAny_bind (wpAny_mono h₁ (fun _ s₁' h₁' => ?_) fun _ _ h' => False.elim h')
    refine wpAny_bind (wpAny_mono h₁' (fun _ s₂ h₂ => wpAny_bind (wpAny_mono h₂ (fun ok s₃ h₃ => ?_) fun _ _ h' => False.elim h')) fun _ _ h' => False.elim h')
    cases ok with
    | false => exact wpAny_pure ⟨rfl, h₃⟩
    | true =>
      exact wpAny_bind (wpAny_bind (wpAny_mono h₃ (fun x s₄ h₄ => wpAny_bind (wpAny_mono h₄ (fun _ s₅ h₅ => wpAny_pure (wpAny_pure ⟨rfl, h₅⟩)) fun _ _ h' => False.elim h')) fun _ _ h' => False.elim h'))
theorem comp_el {X : Cx} {ifs : List Expr} {tc : Option TT} {elt : Expr} {te : TE} {pins : List (Addr × Obj)} {s : Shared} {σ : St} {H : Hp} {yes : V → Hp → Prop} {no : Hp → Prop} {acc : Value} {R : Shared → Prop}
    (hc : PIf X ifs tc) (he : PE X elt te) (hx : X.xe = fun _ _ => False) (I : Inv X pins σ H s) (h : tEl tc te σ H yes no)
    (hy : ∀ v u H' s', Inv X pins σ H' s' → RelV v u → yes v H' → wpAny (model X.prog X.w) X.A (call (.builtin "list.append") [acc, u]) (fun _ s₅ => R s₅) (fun _ _ => False) s')
    (hn : ∀ H' s', Inv X pins σ H' s' → no H' → R s') :
    wpAny (model X.prog X.w) X.A (forIn ifs true fun c r => if r = true then do let ok ← isTrue c X.env (eval c X.env); pure (ForInStep.yield ok) else pure (ForInStep.yield r)) (fun ok s₃ =>
            if ok = true then wpAny (model X.prog X.w) X.A (eval elt X.env) (fun x s₄ =>
              wpAny (model X.prog X.w) X.A (call (.builtin "list.append") [acc, x]) (fun _ s₅ => R s₅) (fun _ _ => False) s₄) (fun _ _ => False) s₃
            else R s₃) (fun _ _ => False) s := by
  cases hc with
  | no =>
    refine wpAny_tests_nil ?_
    rw [if_pos rfl]
    have q := he pins s σ H _ I h
    rw [hx] at q
    exact thn q fun u s' ⟨v, H', I', r, z⟩ => hy v u H' s' I' r z
  | @one c t hc =>
    refine wpAny_tests_one ?_
    have q := hc pins s σ H _ I h
    rw [hx] at q
    refine thn q fun b s1 ⟨H1, I1, z⟩ => ?_
    cases b with
    | false =>
      rw [if_neg Bool.false_ne_true] at z ⊢
      exact hn H1 s1 I1 z
    | true =>
      rw [if_pos rfl] at z ⊢
      have q2 := he pins s1 σ H1 _ I1 z
      rw [hx] at q2
      exact thn q2 fun u s' ⟨v, H', I', r, z⟩ => hy v u H' s' I' r z
structure CompOut (X : Cx) (pins : List (Addr × Obj)) (σ : St) (F : List V → Hp → Prop) (D C : Addr) (s : Shared) : Prop where
  ex : ∃ H ys, Inv X pins σ (upd H D (.lst ys)) s ∧ H D = none ∧ F ys H ∧ upd H D (.lst ys) C = none
  ns : ∃ m, s.heap.Ns C m
  ne : C ≠ X.env.locals
  ab : X.s₀.heap.objs.size ≤ C
  ce : ∀ x c, X.env.cells.lookup x = some c → c ≠ C
  pn : ∀ p ∈ X.pn ++ pins, p.1 ≠ C
theorem comp_core {X : Cx} {M : List Str} {elt tg iter : Expr} {ifs : List Expr} {scope : Scope} {pos : Pos} {xs : List Str} {g : TG} {tc : Option TT} {te : TE} {cl : List (Str × Addr)} {pins : List (Addr × Obj)} {σ : St} {F : List V → Hp → Prop} {itv : Value} {s2 : Shared} {RR : Value → Addr → Result → Shared → Prop} {E : Value → Shared → Prop}
    (hcalm : X.calm = true) (S : CompScope X M xs scope) (lk : ∀ y c, cl.lookup y = some c → X.env.cells.lookup y = some c) (has : ∀ x ∈ scope.names, x.2 = .free → ∃ c, cl.lookup x.1 = some c)
    (hg : ∀ pins cl C fp s H, PG (cxComp X M pins xs scope cl C fp s H) tg g) (hc : ∀ pins cl C fp s H, PIf (cxComp X M pins xs scope cl C fp s H) ifs tc) (he : ∀ pins cl C fp s H, PE (cxComp X M pins xs scope cl C fp s H) elt te)
    (h2 : PIE X pins σ tg (fun J H1 => ∃ W : Nat → Nat → List V → Hp → Prop, (∃ m, W 0 m [] H1) ∧ ∀ i m ys H, W i m ys H → (J.stop i H ∧ F ys H) ∨
      (J.go i H ∧ ys.length < sizeLine ∧ ∃ N : List V → Hp → Prop, (∀ zs H', N zs H' → ∃ m', m' < m ∧ W (i + 1) m' zs H') ∧ ∀ x H', J.yld i H x H' → g x (List.replicate xs.length none ++ σ) H' fun σ2 H2 => σ2.drop xs.length = σ ∧
        tEl tc te σ2 H2 (fun y H3 => N (ys ++ [y]) H3) (fun H3 => N ys H3))) itv s2)
    (hRR : ∀ D C s', CompOut X pins σ F D C s' → RR (.ref D) C (.ok .next) s') :
    wpAny (model X.prog X.w) X.A (newList []) (fun acc s₃ => wpAny (model X.prog X.w) X.A (newFunctionEnv scope X.env.globals cl [] X.env.qual none .none (some X.env)) (fun cenv s₄ =>
      codeAny (model X.prog X.w) X.A (.compStart (.ListComp elt [⟨tg, iter, ifs, 0⟩] scope pos) 0 itv acc { cenv with scope := relabel scope X.env }) (RR acc cenv.locals) s₄) E s₃) E s2 := by
  obtain ⟨it, fp, tn, J, H2, e, I2, T, st2, f2, W, ⟨m0, w0⟩, turn⟩ := h2
  subst e
  refine wpAny_newObj_type (wpAny_newFunctionEnv S.nocell (by intro y hy; simp at hy) (fun h₁ hns₁ hsb₁ => ?_) S.kind)
  dsimp only at hns₁ hsb₁ ⊢
  generalize hH2 : s2.heap.push { cls := .type "list", dict := none, data := .seq ([] : List Value).toArray } = Hp2 at hns₁ hsb₁ ⊢
  have hCs : Hp2.objs.size = s2.heap.objs.size + 1 := by rw [← hH2, Heap.size_push]
  generalize hCe : Hp2.objs.size = C at hns₁ hsb₁ hCs ⊢
  generalize hDe : s2.heap.objs.size = D at hCs ⊢
  have hDC : D ≠ C := by rw [hCs]; exact Nat.ne_of_lt (Nat.lt_succ_self _)
  have DleC : D ≤ C := by rw [hCs]; exact Nat.le_succ _
  have ltD' : ∀ b o, s2.heap.get? b = some o → b < D := fun b o e => hDe ▸ Heap.lt_size e
  have neD : ∀ b o, s2.heap.get? b = some o → b ≠ D := fun b o e => Nat.ne_of_lt (ltD' b o e)
  have neC : ∀ b o, s2.heap.get? b = some o → b ≠ C := fun b o e => Nat.ne_of_lt (Nat.lt_of_lt_of_le (ltD' b o e) DleC)
  have s2D : s2.heap.objs.size ≤ D := Nat.le_of_eq hDe
  have s2C : s2.heap.objs.size ≤ C := Nat.le_trans s2D DleC
  have old : ∀ b o, s2.heap.get? b = some o → h₁.get? b = some o := fun b o eb =>
    hsb₁.extBut b o (neC b o eb) (Heap.get?_push_of_some _ (hH2 ▸ Heap.get?_push_of_some _ eb))
  have hacc : h₁.get? D = some { cls := .type "list", data := .seq ([] : List Value).toArray 0 } :=
    hsb₁.extBut _ _ hDC (Heap.get?_push_of_some _ (hH2 ▸ hDe ▸ Heap.get?_push_size _ rfl))
  have hfo : ∀ b ∈ fp, ∃ o, s2.heap.get? b = some o ∧ ∀ v, o.data ≠ .cell v := T.obj 0 _ st2
  have ltD : ∀ b ∈ fp, b ≠ D := fun b hb => by obtain ⟨o, eb, _⟩ := hfo b hb; exact neD b o eb
  have I4 : Inv (cxComp X M pins xs scope cl C fp s2 H2) [] (List.replicate xs.length none ++ σ) H2 { s2 with heap := h₁, toks := s2.toks + ([] : List (Str × Value)).length } :=
    comp_inv I2 S lk has f2 hfo s2C hns₁ old
  generalize hY : cxComp X M pins xs scope cl C fp s2 H2 = Y at I4
  have Yprog : Y.prog = X.prog := by rw [← hY]; rfl
  have Yw : Y.w = X.w := by rw [← hY]; rfl
  have YK : Y.K = X.K := by rw [← hY]; rfl
  have YA : Y.A = X.A := by rw [← hY]; rfl
  have Yenv : Y.env = compEnvC scope cl C X.env := by rw [← hY]; rfl
  have Yxe : Y.xe = fun _ _ => False := by rw [← hY]; rfl
  have Ypn : Y.pn = X.pn ++ pins := by rw [← hY]; rfl
  have Ys0 : Y.s₀ = s2 := by rw [← hY]; rfl
  have Ycalm : Y.calm = true := by rw [← hY]; exact hcalm
  have Yfs : Y.fs = frs X.stack := by rw [← hY]; rfl
  have Yex : Y.ex = fp := by rw [← hY]; rfl
  have stk : ∀ b, b ≠ X.env.locals → b ∉ X.fs → b ∉ frs X.stack := fun b h1 h2 hb => (List.mem_cons.mp (I2.stkSub b hb)).elim h1 h2
  have Dstk : D ∉ frs X.stack := stk D (Nat.ne_of_gt (hDe ▸ I2.lt)) (I2.nofs s2D)
  have Dloc : D ≠ Y.env.locals := by rw [Yenv]; exact hDC
  have Dcell : ∀ x c, Y.env.cells.lookup x = some c → c ≠ D := fun x c ec z => by
    rw [Yenv] at ec
    obtain ⟨v', ob, hob, _⟩ := I2.cell x c (lk x c ec)
    exact neD c ob hob z
  have DcellX : ∀ x c, X.env.cells.lookup x = some c → c ≠ D := fun x c ec z => by
    obtain ⟨v', ob, hob, _⟩ := I2.cell x c ec
    exact neD c ob hob z
  have Dpin : ∀ p ∈ X.pn ++ pins, p.1 ≠ D := fun p hp z => neD _ _ (I2.pin p hp).1 z
  have fpY : ∀ {H' : Hp} {pl : List (Addr × Obj)}, (∀ b ∈ fp, H' b = none) → (∀ p ∈ pl, p.1 ∉ fp) → ∀ b ∈ fp, FpOk Y pl H' b := fun hn hpl b hb => by
    refine ⟨hn b hb, ?_, ?_, .inl (by rw [Yex]; exact hb), fun x c ec => ?_, fun p hp z => ?_⟩
    · rw [Yenv]
      obtain ⟨o, eb, _⟩ := hfo b hb
      exact neC b o eb
    · rw [Yfs]; exact stk b (f2 b hb).2.1 (f2 b hb).2.2.1
    · rw [Yenv] at ec; exact (f2 b hb).2.2.2.2.1 x c (lk x c ec)
    · rcases List.mem_append.mp hp with q | q
      · rw [Ypn] at q; exact (f2 b hb).2.2.2.2.2 p q z
      · exact hpl p q (z ▸ hb)
  -- the list at D, pinned
  have pinD : ∀ {pl : List (Addr × Obj)} {σ' : St} {H' : Hp} {s' : Shared} {its : List Value} {n : Nat}, Inv Y pl σ' H' s' → H' D = none → s'.heap.get? D = some { cls := .type "list", data := .seq its.toArray n } →
      Inv Y ((D, { cls := .type "list", data := .seq its.toArray n }) :: pl) σ' H' s' := fun {pl σ' H' s' its n} I' hn hd => I'.pins_of fun p hp => by
    rcases List.mem_cons.mp hp with rfl | hp
    · exact ⟨hd, hn, Dloc, by rw [Yfs]; exact Dstk, fun v z => by cases z⟩
    · exact I'.pin p (List.mem_append_right _ hp)
  let Inn : Nat → Shared → Prop := fun n s' => ∃ i ys its c H', Inv Y [] (List.replicate xs.length none ++ σ) H' s' ∧ tn i s'.heap ∧ (∀ b ∈ fp, H' b = none) ∧ W i n ys H' ∧
    s'.heap.get? D = some { cls := .type "list", data := .seq its.toArray c } ∧ Vals ys its ∧ ys.length ≤ sizeLine ∧ H' D = none
  have start : ∀ s4 : Shared, s4 = { s2 with heap := h₁, toks := s2.toks + ([] : List (Str × Value)).length } → Inn m0 s4 := by
    rintro s4 rfl
    refine ⟨0, [], [], 0, H2, I4, T.keep _ _ _ st2 (fun b _ o eb => old b o eb), fun b hb => (f2 b hb).1, w0, hacc, .nil, Nat.zero_le _, I2.hok.fresh s2D⟩
  have loop : ∀ s4 : Shared, Inn m0 s4 → codeAny (model X.prog X.w) X.A (.compLoop (.ListComp elt [⟨tg, iter, ifs, 0⟩] scope pos) 0 (.ref it) (.ref D) (compEnvC scope cl C X.env))
      (RR (.ref D) C) s4 := by
    intro s4 h4
    refine comp_loop Inn ?_ m0 h4
    rintro n s5 ⟨i, ys, its, c, H5, I5, st5, fr5, w5, hD5, rv5, hz5, hn5⟩
    have I5p := pinD I5 hn5 hD5
    have npD : ∀ p ∈ [((D, { cls := .type "list", data := .seq its.toArray c }) : Addr × Obj)], p.1 ∉ fp := fun p hp hb => by
      have e : p = ((D, { cls := .type "list", data := .seq its.toArray c }) : Addr × Obj) := List.mem_singleton.mp hp
      rw [e] at hb
      exact ltD D hb rfl
    rcases turn i n ys H5 w5 with ⟨stop, fin⟩ | ⟨go, hlt, N, hN, step⟩
    · -- the end
      have q := T.done Y Yprog Yw YK Ycalm i _ s5 _ H5 (fun _ _ => False) I5p (fpY fr5 npD) st5 stop
      rw [YA] at q
      refine thn q fun r s6 ⟨hr, I6⟩ => ?_
      subst hr
      obtain ⟨hD6, hn6, _⟩ := I6.pin (D, _) (List.mem_append_right _ List.mem_cons_self)
      obtain ⟨m6, hN6, _⟩ := I6.loc
      rw [Yenv] at hN6
      have hCn : H5 C = none := by have := I6.free; rw [Yenv] at this; exact this
      have un : Un (frs X.stack) fp H2 H5 s2.heap s6.heap := by
        have u := I6.base
        rw [Yfs, Yex, Ys0] at u
        rw [← hY] at u
        exact u
      have hok' : HOk X.prog X.w H5 s6.heap := by
        have q := I6.hok
        rw [Yprog, Yw] at q
        exact q
      have I7 : Inv X pins σ H5 s6 := by
        refine I2.call' (ch := fp) (by have := I6.os; rw [Ys0] at this; exact this) un hok' I6.bare fun b hb => ?_
        obtain ⟨f0, f1, f2', f3, f4, f5⟩ := f2 b hb
        exact ⟨f3, f1, f4, f5⟩
      have I8 : Inv X pins σ (upd H5 D (.lst ys)) s6 :=
        I7.track hn6 ⟨hz5, its, c, rv5, hD6⟩ (Nat.le_trans I2.sz s2D) (Nat.ne_of_gt (hDe ▸ I2.lt)) DcellX Dpin
      refine hRR D C s6 ⟨⟨H5, ys, I8, hn6, fin, by rw [upd_ne (Ne.symm hDC)]; exact hCn⟩, ⟨m6, hN6⟩, Nat.ne_of_gt (Nat.lt_of_lt_of_le I2.lt s2C), Nat.le_trans I2.sz s2C, fun x c ec z => ?_, fun p hp z => ?_⟩
      · obtain ⟨v', ob, hob, _⟩ := I2.cell x c ec
        exact neC c ob hob z
      · exact neC _ _ (I2.pin p hp).1 z
    · -- a turn
      have q := T.item Y Yprog Yw YK Ycalm i _ s5 _ H5 (fun _ _ => False) I5p (fpY fr5 npD) st5 go
      rw [YA] at q
      refine thn q fun r s6 ⟨u, hr, h6⟩ => ?_
      subst hr
      show wpAny _ _ (letOwnedTupleGo tg (.ref it) u) _ _ _
      refine thn h6 fun _ s7 ⟨x, H7, I7, rx, y7, st7, fr7⟩ => ?_
      have I7p := I7.pinned (fpY fr7 npD) (T.obj _ _ st7)
      have hgY : PG Y tg g := by rw [← hY]; exact hg _ _ _ _ _ _
      have heY : PE Y elt te := by rw [← hY]; exact he _ _ _ _ _ _
      have hcY : PIf Y ifs tc := by rw [← hY]; exact hc _ _ _ _ _ _
      have qa := hgY _ s7 _ H7 x u _ I7p rx (step x H7 y7)
      rw [Yxe, YA, Yenv, Yprog, Yw] at qa
      refine thn qa fun _ s8 ⟨σ8, H8, I8, hσ8, q8⟩ => ?_
      -- behind the element: the iterator's objects stand, the list stands
      have after : ∀ {H9 : Hp} {s9 : Shared}, Inv Y ([(D, { cls := .type "list", data := .seq its.toArray c })] ++ pinsAt fp s7.heap) σ8 H9 s9 →
          tn (i + 1) s9.heap ∧ (∀ b ∈ fp, H9 b = none) ∧ s9.heap.get? D = some { cls := .type "list", data := .seq its.toArray c } ∧ H9 D = none := fun {H9 s9} I9 => by
        refine ⟨T.keep _ _ _ st7 fun b hb o eb => (I9.pin (b, o) (List.mem_append_right _ (List.mem_append_right _ (mem_pinsAt hb eb)))).1, fun b hb => ?_, ?_, ?_⟩
        · obtain ⟨o, eb, _⟩ := T.obj _ _ st7 b hb
          exact (I9.pin (b, o) (List.mem_append_right _ (List.mem_append_right _ (mem_pinsAt hb eb)))).2.1
        · exact (I9.pin (D, _) (List.mem_append_right _ (List.mem_append_left _ List.mem_cons_self))).1
        · exact (I9.pin (D, _) (List.mem_append_right _ (List.mem_append_left _ List.mem_cons_self))).2.1
      -- the names are forgotten, the pins let go
      have forget : ∀ {pl : List (Addr × Obj)} {H9 : Hp} {s9 : Shared}, Inv Y pl σ8 H9 s9 → Inv Y [] (List.replicate xs.length none ++ σ) H9 s9 := fun {pl H9 s9} I9 => by
        have l8 := I9.len
        have lN : Y.N.length = xs.length + X.N.length := by rw [← hY]; show (xs ++ M).length = _; rw [List.length_append, S.len]
        have J := I9.weak (σ' := List.replicate xs.length none ++ σ) (by rw [List.length_append, List.length_replicate, l8, lN, I2.len]) (fun j v' ej => ?_)
        · exact J.pins_of fun p hp => absurd hp (by simp)
        · by_cases hj : j < xs.length
          · rw [List.getElem?_append_left (by simpa using hj), List.getElem?_replicate, if_pos hj] at ej
            cases ej
          · rw [List.getElem?_append_right (by simpa using hj), List.length_replicate, ← hσ8, List.getElem?_drop] at ej
            rw [← ej]
            congr 1
            omega
      have qe := comp_el (acc := .ref D) (R := fun s' => ∃ m, m < n ∧ Inn m s') hcY heY Yxe I8 q8 (fun v u' H9 s9 I9 rv hy => ?yes) (fun H9 s9 I9 hno => ?no)
      · rw [YA, Yenv, Yprog, Yw] at qe
        exact qe
      case yes =>
        obtain ⟨st9, fr9, hD9, hn9⟩ := after I9
        obtain ⟨m', hm', w9⟩ := hN _ _ hy
        have hl := rv5.length
        refine call_meets PySem.F.slot_list_append ⟨_, hD9, rfl⟩ PySem.F.entry_list_append (PySem.F.args_list_append_2 _ _) (PySem.list_append D its.toArray c u' (by rw [List.size_toArray]; omega)) ⟨hD9, ?_⟩
        have upd9 := PySem.IsL.update hD9 (fun z => z.push u')
        rw [show its.toArray.push u' = (its ++ [u']).toArray by simp] at upd9
        have I10 : Inv Y (pinsAt fp s7.heap) σ8 H9 { s9 with heap := s9.heap.update D (Obj.mapSeq (fun z => z.push u')), toks := s9.toks } := by
          refine (I9.pins_of (pins' := pinsAt fp s7.heap) fun p hp => I9.pin p (List.mem_append_right _ (List.mem_append_right _ hp))).turned (it := D) (fun b o hb eb => (Heap.get?_update_other _ _ (Ne.symm hb)).trans eb) hn9 Dloc (.inr (by rw [Ys0]; exact s2D)) Dcell fun p hp z => ?_
          rcases List.mem_append.mp hp with q | q
          · rw [Ypn] at q; exact Dpin p q z
          · exact ltD p.1 (of_pinsAt q).1 z
        refine ⟨m', hm', i + 1, ys ++ [v], its ++ [u'], _, H9, forget I10, T.keep _ _ _ st9 fun b hb o eb => (Heap.get?_update_other _ _ (Ne.symm (ltD b hb))).trans eb, fr9, w9, upd9, rv5.append (.cons rv .nil), ?_, hn9⟩
        · rw [List.length_append, List.length_singleton]; omega
      case no =>
        obtain ⟨st9, fr9, hD9, hn9⟩ := after I9
        obtain ⟨m', hm', w9⟩ := hN _ _ hno
        exact ⟨m', hm', i + 1, ys, its, c, H9, forget I9, st9, fr9, w9, hD9, rv5, hz5, hn9⟩
  have hloop := loop _ (start _ rfl)
  exact codeAny_compStart_list hloop (T.self X.A 0 _ _ _ (T.keep _ _ _ st2 (fun b _ o eb => old b o eb)) hloop)
theorem pe_compM {X : Cx} (M : List Str) {elt tg iter : Expr} {ifs : List Expr} {scope : Scope} {pos : Pos} {wi : TI} {g : TG} {tc : Option TT} {te : TE} (xs : List Str) (hcalm : X.calm = true) (S : CompScope X M xs scope) (hi : PI X tg iter wi)
    (hg : ∀ pins cl C fp s H, PG (cxComp X M pins xs scope cl C fp s H) tg g) (hc : ∀ pins cl C fp s H, PIf (cxComp X M pins xs scope cl C fp s H) ifs tc) (he : ∀ pins cl C fp s H, PE (cxComp X M pins xs scope cl C fp s H) elt te)
    (hs : ∀ x, foldedSetIterable iter X.env x = pure x := by intro _; rfl) :
    PE X (.ListComp elt [⟨tg, iter, ifs, 0⟩] scope pos) (tComp xs.length wi g tc te) := by
  intro pins s σ H Q I hq
  obtain ⟨cl, hcl, lk, has⟩ := closure_ok (env := X.env) (scope := scope) (fun y hy hf => I.ok.has y.1 (S.free y hy hf))
  rw [eval_ListComp]
  refine wpAny_comprehension_free (use := none) rfl hs hcl S.kind S.loc (thn (hi pins s σ H _ I hq) fun v s1 h1 => thn h1 fun itv s2 h2 => ?_)
  refine comp_core (RR := fun acc C => compPost (model X.prog X.w) X.A X.xe none (EP X pins σ Q) acc C) hcalm S lk has hg hc he h2 fun D C s' O => ?_
  obtain ⟨⟨H', ys, I', hD, fin, hC⟩, ⟨m, hN⟩, ne, ab, ce, pn⟩ := O
  refine ⟨m, hN, fun h' sb => ⟨.ref D, _, ?_, rfl, fin D hD⟩⟩
  exact I'.turned (t' := s'.toks) (it := C) (fun b o hb e => (sb.2 b hb).trans e) hC ne (.inr ab) ce pn
theorem ps_setCompM {X : Cx} (M : List Str) {elt tg iter : Expr} {ifs : List Expr} {scope : Scope} {pos pos' spos : Pos} {wi : TI} {g : TG} {tc : Option TT} {te : TE} {i : Nat} {x : Str} (xs : List Str) (hcalm : X.calm = true) (hN : X.N.Nodup) (hi' : X.N[i]? = some x) (hx : Loc X.env.scope x) (S : CompScope X M xs scope) (hi : PI X tg iter wi)
    (hg : ∀ pins cl C fp s H, PG (cxComp X M pins xs scope cl C fp s H) tg g) (hc : ∀ pins cl C fp s H, PIf (cxComp X M pins xs scope cl C fp s H) ifs tc) (he : ∀ pins cl C fp s H, PE (cxComp X M pins xs scope cl C fp s H) elt te)
    (hsw : swapsWith (.ListComp elt [⟨tg, iter, ifs, 0⟩] scope pos) (some (.Name x pos')) spos.line X.env = pure true := by rfl)
    (hs : ∀ x, foldedSetIterable iter X.env x = pure x := by intro _; rfl) (hf : X.fn x = true ∨ X.env.scope.names.lookup x = some .local := by first | exact .inl rfl | exact .inr rfl | assumption) :
    PS X (.Assign [.Name x pos'] (.ListComp elt [⟨tg, iter, ifs, 0⟩] scope pos) spos) (tSetComp i xs.length wi g tc te) := by
  intro pins s σ H D I hq
  obtain ⟨cl, hcl, lk, has⟩ := closure_ok (env := X.env) (scope := scope) (fun y hy hf => I.ok.has y.1 (S.free y hy hf))
  rw [exec_Assign_Name_used _ _ _ _ hsw]
  refine wpAny_bind (wpAny_standAt (wpAny_bind ?_))
  show wpAny _ X.A (do let _ ← comprehension (.ListComp elt [⟨tg, iter, ifs, 0⟩] scope pos) scope X.env _ (newList []) false (eval iter X.env) (some (assign (.Name x pos') X.env))) _ _ s
  refine wpAny_bind (wpAny_mono (wpAny_comprehension_free (use := some (assign (.Name x pos') X.env)) (Q := fun _ s' => SP X pins D .next s') rfl hs hcl S.kind S.loc
    (thn (hi pins s σ H _ I hq) fun v s1 h1 => thn h1 fun itv s2 h2 => ?_)) (fun _ s' hq => wpAny_pure (wpAny_pure hq)) fun _ _ e => e)
  refine comp_core (RR := fun acc C => compPost (model X.prog X.w) X.A X.xe (some (assign (.Name x pos') X.env)) (fun _ s' => SP X pins D .next s') acc C) hcalm S lk has hg hc he h2 fun Dd C s' O => ?_
  obtain ⟨⟨H', ys, I', hD, fin, hC⟩, ⟨m, hNs⟩, ne, ab, ce, pn⟩ := O
  show wpAny _ X.A (assign (.Name x pos') X.env (.ref Dd)) _ _ _
  refine wpAny_assign_Name (store_ok2 I' hN hi' hx (v := .ref Dd) rfl (fun s'' I'' hsb => ?_) hf)
  obtain ⟨a, sb, ha⟩ := hsb
  have haC : C ≠ a := by
    rcases ha with z | z
    · rw [z]; exact ne
    · exact fun e => ce x a z e.symm
  refine ⟨m, hNs.sameBut sb haC, fun h' sb' => ⟨_, _, ?_, fin Dd hD⟩⟩
  exact I''.turned (t' := s''.toks) (it := C) (fun b o hb e => (sb'.2 b hb).trans e) hC ne (.inr ab) ce pn
theorem comp_range {lo : Int} {n k : Nat} {g : TG} {tc : Option TT} {te : TE} {σ : St} {H : Hp} {F : List V → Hp → Prop} (Pv : Nat → List V → Hp → Prop) (h0 : Pv 0 [] H)
    (hs : ∀ i ys H, i < n → Pv i ys H → ys.length < sizeLine ∧ g (.int (lo + i)) (List.replicate k none ++ σ) H fun σ2 H2 => σ2.drop k = σ ∧ tEl tc te σ2 H2 (fun y H3 => Pv (i + 1) (ys ++ [y]) H3) (fun H3 => Pv (i + 1) ys H3))
    (hd : ∀ ys H, Pv n ys H → F ys H) :
    ∃ W : Nat → Nat → List V → Hp → Prop, (∃ m, W 0 m [] H) ∧ ∀ i m ys H, W i m ys H → ((Itr lo n).stop i H ∧ F ys H) ∨
      ((Itr lo n).go i H ∧ ys.length < sizeLine ∧ ∃ N : List V → Hp → Prop, (∀ zs H', N zs H' → ∃ m', m' < m ∧ W (i + 1) m' zs H') ∧ ∀ x H', (Itr lo n).yld i H x H' → g x (List.replicate k none ++ σ) H' fun σ2 H2 => σ2.drop k = σ ∧
        tEl tc te σ2 H2 (fun y H3 => N (ys ++ [y]) H3) (fun H3 => N ys H3)) := by
  refine ⟨fun i m ys H => m = n - i ∧ i ≤ n ∧ Pv i ys H, ⟨n, by simp, Nat.zero_le _, h0⟩, ?_⟩
  rintro i m ys H ⟨rfl, hi, p⟩
  by_cases hlt : i < n
  · obtain ⟨h1, h2⟩ := hs i ys H hlt p
    refine .inr ⟨hlt, h1, Pv (i + 1), fun zs H' p' => ⟨n - (i + 1), by omega, rfl, hlt, p'⟩, fun x H' y => ?_⟩
    obtain ⟨e, y⟩ := y
    subst e y
    exact h2
  · have e : i = n := by omega
    subst e
    exact .inl ⟨Nat.le_refl _, hd ys H p⟩
theorem comp_list {K : PySem.W.Frag} {a : Addr} {xs : List V} {k : Nat} {g : TG} {tc : Option TT} {te : TE} {σ : St} {H : Hp} {F : List V → Hp → Prop} (Pv : Nat → List V → Hp → Prop) (h0 : Pv 0 [] H) (hl : ∀ i ys H, i ≤ xs.length → Pv i ys H → SqL K H a xs)
    (hs : ∀ i x ys H, xs[i]? = some x → Pv i ys H → ys.length < sizeLine ∧ g x (List.replicate k none ++ σ) H fun σ2 H2 => σ2.drop k = σ ∧ tEl tc te σ2 H2 (fun y H3 => Pv (i + 1) (ys ++ [y]) H3) (fun H3 => Pv (i + 1) ys H3))
    (hd : ∀ ys H, Pv xs.length ys H → F ys H) :
    ∃ W : Nat → Nat → List V → Hp → Prop, (∃ m, W 0 m [] H) ∧ ∀ i m ys H, W i m ys H → ((Itl K a).stop i H ∧ F ys H) ∨
      ((Itl K a).go i H ∧ ys.length < sizeLine ∧ ∃ N : List V → Hp → Prop, (∀ zs H', N zs H' → ∃ m', m' < m ∧ W (i + 1) m' zs H') ∧ ∀ x H', (Itl K a).yld i H x H' → g x (List.replicate k none ++ σ) H' fun σ2 H2 => σ2.drop k = σ ∧
        tEl tc te σ2 H2 (fun y H3 => N (ys ++ [y]) H3) (fun H3 => N ys H3)) := by
  refine ⟨fun i m ys H => m = xs.length - i ∧ i ≤ xs.length ∧ Pv i ys H, ⟨xs.length, by simp, Nat.zero_le _, h0⟩, ?_⟩
  rintro i m ys H ⟨rfl, hi, p⟩
  have q := hl i ys H hi p
  by_cases hlt : i < xs.length
  · obtain ⟨h1, h2⟩ := hs i xs[i] ys H (by simp [hlt]) p
    refine .inr ⟨⟨xs, xs[i], q, by simp [hlt]⟩, h1, Pv (i + 1), fun zs H' p' => ⟨xs.length - (i + 1), by omega, rfl, hlt, p'⟩, fun x H' y => ?_⟩
    obtain ⟨e, y⟩ := y
    subst e
    have e2 : x = xs[i] := by
      have := y xs q
      rw [List.getElem?_eq_getElem hlt] at this
      exact (Option.some.inj this).symm
    subst e2
    exact h2
  · have e : i = xs.length := by omega
    subst e
    exact .inl ⟨⟨xs, q, Nat.le_refl _⟩, hd ys H p⟩
def compOk (sc : Scope) (N M : List Str) (scope : Scope) : Bool :=
  scope.kind == .function && scope.names.all (fun y => y.2 != .cell) && scope.names.all (fun y => y.2 != .local || scope.names.lookup y.1 == some .local) &&
  scope.names.all (fun y => y.2 != .free || (sc.names.lookup y.1 == some .cell || sc.names.lookup y.1 == some .free)) &&
  M.all (fun y => (scope.names.map fun (n, k) => if (k == .free && sc.kind == .function && sc.names.lookup n == some .cell) then (n, NameKind.cell) else (n, k)).lookup y != some .local) &&
  (M.length == N.length) && (M.zip N).all (fun y => y.1 == y.2 || (scope.names.map fun (n, k) => if (k == .free && sc.kind == .function && sc.names.lookup n == some .cell) then (n, NameKind.cell) else (n, k)).lookup y.1 == none)
theorem CompScope.of {X : Cx} {M : List Str} {xs : List Str} {scope : Scope} (h : compOk X.env.scope X.N M scope = true) : CompScope X M xs scope := by
  unfold compOk at h
  simp only [Bool.and_eq_true, List.all_eq_true] at h
  obtain ⟨⟨⟨⟨⟨⟨h1, h2⟩, h3⟩, h4⟩, h5⟩, h6⟩, h7⟩ := h
  refine ⟨by simpa using h1, fun y hy => by simpa using h2 y hy, fun y hy hl => ?_, fun y hy hf => ?_, fun y hy => ?_, fun i y hy hv => ?_, by simpa using h6⟩
  · have := h3 y hy
    rw [hl] at this
    simpa using this
  · have := h4 y hy
    rw [hf] at this
    show X.env.scope.names.lookup y.1 = some .cell ∨ X.env.scope.names.lookup y.1 = some .free
    simpa using this
  · have := h5 y hy
    simpa [relabel, Env.kindOf] using this
  · have hl : M.length = X.N.length := by simpa using h6
    have hi : i < M.length := (List.getElem?_eq_some_iff.mp hy).1
    have hi2 : i < X.N.length := by omega
    have hz : (M.zip X.N)[i]? = some (y, X.N[i]) := by
      rw [List.getElem?_zip_eq_some]
      exact ⟨hy, List.getElem?_eq_getElem hi2⟩
    have := h7 _ (List.mem_of_getElem? hz)
    rw [Bool.or_eq_true] at this
    rcases this with z | z
    · have e : y = X.N[i] := by simpa using z
      rw [e]
      exact List.getElem?_eq_getElem hi2
    · exfalso
      have z' : (relabel scope X.env).names.lookup y = none := by simpa [relabel, Env.kindOf] using z
      rw [z'] at hv
      rcases hv with q | q <;> cases q
theorem pe_comp {X : Cx} {elt tg iter : Expr} {ifs : List Expr} {scope : Scope} {pos : Pos} {wi : TI} {g : TG} {tc : Option TT} {te : TE} (xs : List Str) (hcalm : X.calm = true) (S : CompScope X X.N xs scope) (hi : PI X tg iter wi)
    (hg : ∀ pins cl C fp s H, PG (cxComp X X.N pins xs scope cl C fp s H) tg g) (hc : ∀ pins cl C fp s H, PIf (cxComp X X.N pins xs scope cl C fp s H) ifs tc) (he : ∀ pins cl C fp s H, PE (cxComp X X.N pins xs scope cl C fp s H) elt te)
    (hs : ∀ x, foldedSetIterable iter X.env x = pure x := by intro _; rfl) : PE X (.ListComp elt [⟨tg, iter, ifs, 0⟩] scope pos) (tComp xs.length wi g tc te) := pe_compM X.N xs hcalm S hi hg hc he hs
theorem ps_setComp {X : Cx} {elt tg iter : Expr} {ifs : List Expr} {scope : Scope} {pos pos' spos : Pos} {wi : TI} {g : TG} {tc : Option TT} {te : TE} {i : Nat} {x : Str} (xs : List Str) (hcalm : X.calm = true) (hN : X.N.Nodup) (hi' : X.N[i]? = some x) (hx : Loc X.env.scope x) (S : CompScope X X.N xs scope) (hi : PI X tg iter wi)
    (hg : ∀ pins cl C fp s H, PG (cxComp X X.N pins xs scope cl C fp s H) tg g) (hc : ∀ pins cl C fp s H, PIf (cxComp X X.N pins xs scope cl C fp s H) ifs tc) (he : ∀ pins cl C fp s H, PE (cxComp X X.N pins xs scope cl C fp s H) elt te)
    (hsw : swapsWith (.ListComp elt [⟨tg, iter, ifs, 0⟩] scope pos) (some (.Name x pos')) spos.line X.env = pure true := by rfl)
    (hs : ∀ x, foldedSetIterable iter X.env x = pure x := by intro _; rfl) (hf : X.fn x = true ∨ X.env.scope.names.lookup x = some .local := by first | exact .inl rfl | exact .inr rfl | assumption) :
    PS X (.Assign [.Name x pos'] (.ListComp elt [⟨tg, iter, ifs, 0⟩] scope pos) spos) (tSetComp i xs.length wi g tc te) := ps_setCompM X.N xs hcalm hN hi' hx S hi hg hc he hsw hs hf
end L2
namespace L2
open PySem PySem.Spec PyProof.Rows
section
variable {X : Cx}
end
end L2
namespace L2
open PySem PySem.Spec PyProof.Rows
def Has (P : Program) (w : World) (K : PySem.W.Frag) (mg : Str → Option Value) (base : Heap) (k : Nat) (x : Str) (ps : List Str) (sp : Sp) : Prop :=
  ∃ f fd, mg x = some (.ref f) ∧ PySem.W.keepIn K (.ref f) = true ∧ Binds K fd ps [] ∧ FnOk P w K mg base CX0 k f fd ps sp
theorem pe_callH {X : Cx} {k j : Nat} {x : Str} {ps : List Str} {sp : Sp} {p pos : Pos} {e : Expr} {es : List Expr} {t : TA} (h : Has X.prog X.w X.K X.mg X.base k x ps sp) (hr : Room j X.A) (hkj : k ≤ j) (hg : Gl X x) (ha : PA X (e :: es) t)
    (hdb : (x == ("__debug__" : Str)) = false := by decide) (he : starEach (e :: es) X.env = (false, eval e X.env) :: starEach es X.env := by rfl) (hpl : (backTo pos (starEach es X.env)).any (·.1) = false := by rfl) :
    PE X (.Call (.Name x p) (e :: es) [] pos) (tCall sp [] E0 t) := by
  obtain ⟨f, fd, h1, h2, h3, h4⟩ := h
  exact pe_call h4 (hr.mono hkj) hg h1 h2 h3 .nil pass0 ha hdb he hpl
theorem Same.upd {H H' : Hp} {a : Addr} {o : HO} (s : Same H H') (h : H' a = none) : Same H (upd H' a o) := fun b u e => by
  rw [upd_ne (ne_of_none (s b u e) h)]
  exact s b u e
theorem Same.new {H : Hp} {a : Addr} {o : HO} (h : H a = none) : Same H (L2.upd H a o) := (Same.refl H).upd h
theorem len_small {n : Nat} (h : n ≤ 1000) : n ≤ sizeLine := Nat.le_of_lt (small1000 h)
theorem atI_int {ns : List Int} {k : Nat} (h : k < ns.length) : atI (ns.map V.int) (k : Int) = some (.int (ns.getD k 0)) := by
  have : (ns.map V.int)[k]? = some (.int (ns.getD k 0)) := by
    rw [List.getElem?_map, List.getElem?_eq_getElem h, List.getD_eq_getElem?_getD, List.getElem?_eq_getElem h]; rfl
  exact atI_nat this
end L2
namespace L2
open PySem PySem.Spec PyProof.Rows
abbrev iL (ns : List Int) : List V := ns.map V.int
section
variable {X : Cx}
theorem call_lenI : CallR X (.builtin "len") (fun xs H Q => ∃ (p : Addr) (ns : List Int), xs = [.ref p] ∧ SqL X.K H p (iL ns) ∧ Q (.int (ns.length : Nat)) H) := by
  intro pins s σ H xs us Q I r h
  obtain ⟨p, ns, rfl, hq, q⟩ := h
  refine call_len_seq pins s σ H _ us Q I r ⟨p, _, rfl, .inl hq, ?_⟩
  rw [List.length_map]
  exact q
def rIxI (K : PySem.W.Frag) : R2 := fun x y H Q => ∃ (p : Addr) (ns : List Int) (i : Int) (k : Nat), x = .ref p ∧ y = .int i ∧ SqL K H p (iL ns) ∧ i = (k : Int) ∧ k < ns.length ∧ Q (.int (ns.getD k 0)) H
theorem ix_ints : IxR X (rIxI X.K) := by
  intro value slice pins s σ H x y v u Q I rx ry h hs
  obtain ⟨p, ns, i, k, rfl, rfl, hq, rfl, hk, q⟩ := h
  exact ix_list value slice pins s σ H _ _ v u Q I rx ry ⟨p, _, _, _, rfl, rfl, hq, atI_int hk, q⟩ hs
theorem cut_to (ns : List Int) (k : Nat) : cutV (iL ns) none (some (k : Int)) = iL (ns.take k) := by
  unfold cutV HT.sIx iL
  simp only [List.length_map, Nat.sub_zero, List.drop_zero]
  rw [if_neg (by omega), List.map_take]
  by_cases h : k ≤ ns.length
  · rw [show min (k : Int).toNat ns.length = k by omega]
  · rw [show min (k : Int).toNat ns.length = ns.length by omega, List.take_of_length_le (by simp), List.take_of_length_le (by simp; omega)]
theorem cut_from (ns : List Int) (k : Nat) : cutV (iL ns) (some (k : Int)) none = iL (ns.drop k) := by
  unfold cutV HT.sIx iL
  simp only [List.length_map]
  rw [if_neg (by omega), List.map_drop]
  by_cases h : k ≤ ns.length
  · rw [show min (k : Int).toNat ns.length = k by omega, List.take_of_length_le (by simp)]
  · rw [show min (k : Int).toNat ns.length = ns.length by omega, List.drop_eq_nil_of_le (by simp), List.drop_eq_nil_of_le (by simp; omega)]
    simp
def rSlI (K : PySem.W.Frag) : V → Option Int → Option Int → Hp → VK → Prop := fun x lo hi H Q => ∃ (a : Addr) (ns : List Int), x = .ref a ∧ SqL K H a (iL ns) ∧ ∃ k : Nat,
  (lo = none ∧ hi = some (k : Int) ∧ ∀ p, H p = none → Q (.ref p) (upd H p (.lst (iL (ns.take k))))) ∨ (lo = some (k : Int) ∧ hi = none ∧ ∀ p, H p = none → Q (.ref p) (upd H p (.lst (iL (ns.drop k)))))
theorem sl_ints : SlR X (rSlI X.K) := by
  intro pins s σ H x v vl vu lo hi sl Q I rx hs pl pu h
  obtain ⟨a, ns, rfl, hx, k, ⟨rfl, rfl, q⟩ | ⟨rfl, rfl, q⟩⟩ := h
  · exact sl_list pins s σ H _ v vl vu _ _ sl Q I rx hs pl pu ⟨a, _, rfl, hx, fun p hp => by rw [cut_to]; exact q p hp⟩
  · exact sl_list pins s σ H _ v vl vu _ _ sl Q I rx hs pl pu ⟨a, _, rfl, hx, fun p hp => by rw [cut_from]; exact q p hp⟩
theorem call_listI : CallR X (.type "list") (fun xs H Q => ∃ (p : Addr) (ys : List V), xs = [.ref p] ∧ SqL X.K H p ys ∧ ∀ l, H l = none → Q (.ref l) (upd H l (.lst ys))) := by
  intro pins s σ H xs us Q I r h
  obtain ⟨p, ys, rfl, hq, q⟩ := h
  exact call_list_of pins s σ H _ us Q I r ⟨p, ys, rfl, .inl hq, q⟩
end
end L2
namespace L2
open PySem PySem.Spec PyProof.Rows
theorem pss_cut {X : Cx} {st : List Stmt} {t : TS} (R : TS) (h : PSs X st t) (hR : ∀ D σ H, R D σ H → t D σ H) : PSs X st R := fun pins s σ H D I q => h pins s σ H D I (hR D σ H q)
def rMod : R2 := fun x y H Q => ∃ i, ∃ j : Nat, x = .int i ∧ y = .int (j : Int) ∧ 0 < j ∧ ∀ r : Nat, r < j → (r : Int) = i % (j : Int) → Q (.int (r : Int)) H
theorem op_modR {X : Cx} : OpR X (binaryOp .Mod) rMod := by
  intro pins s σ H x y v u Q I rx ry h
  obtain ⟨i, j, rfl, rfl, hj, q⟩ := h
  have e1 : 0 ≤ i % (j : Int) := Int.emod_nonneg _ (by omega)
  have e2 : i % (j : Int) < j := Int.emod_lt_of_pos _ (by omega)
  have := q (i % (j : Int)).toNat (by omega) (by omega)
  rw [show (((i % (j : Int)).toNat : Nat) : Int) = i % (j : Int) by omega] at this
  exact op_mod pins s σ H _ _ v u Q I rx ry ⟨i, j, rfl, rfl, by omega, this⟩
end L2
namespace L2
open PySem PySem.Spec PyProof.Rows
section
variable {X : Cx}
end
end L2
namespace L2
open PySem PySem.Spec PyProof.Rows
def intc : List Expr → Option (List Int)
  | [] => some []
  | .Constant (.int i) _ _ :: r => (intc r).map (i :: ·)
  | _ => none
theorem pa_intc {X : Cx} : ∀ {es : List Expr} (ns : List Int), intc es = some ns → PA X es (fun _ H Q => Q (iL ns) H)
  | [], ns, h => by
    cases h
    exact pa_nil
  | .Constant (.int i) j pos :: r, ns, h => by
    have h' : (intc r).map (i :: ·) = some ns := h
    obtain ⟨ms, h1, rfl⟩ := Option.map_eq_some_iff.mp h'
    have ih := pa_intc (X := X) ms h1
    intro pos pins s σ H Q I q
    exact pa_cons (te := tC (.int i)) pe_int ih rfl pos pins s σ H Q I q
end L2
namespace L2
open PySem PySem.Spec PyProof.Rows
set_option maxRecDepth 100000
section
variable {prog : Program} {w : World} {A : Around} {E : Value → Shared → Prop} {s : Shared}
end
end L2
namespace L2
open PySem PySem.Spec PyProof.Rows
end L2
namespace L2
open PySem PySem.Spec PyProof.Rows
end L2
namespace L2
open PySem PySem.Spec PyProof.Rows
section
variable {prog : Program} {w : World} {A : Around} {E : Value → Shared → Prop} {s : Shared}
end
section
variable {prog : Program} {w : World} {A : Around} {E : Value → Shared → Prop} {s : Shared}
end
end L2
namespace L2
open PySem PySem.Spec PyProof.Rows
end L2
namespace L2
open PySem PySem.Spec PyProof.Rows
section
variable {X : Cx}
end
end L2
namespace L2
open PySem PySem.Spec PyProof.Rows
section
variable {X : Cx}
end
end L2
namespace L2
open PySem PySem.Spec PyProof.Rows
end L2
namespace RM
def S : Nat → (Nat → Int) → Int
  | 0, _ => 0
  | n + 1, f => S n f + f n
def told (p : Int) (rs cs : List Int) (n : Nat) : Int := S cs.length (fun k => cs.getD k 0 * rs.getD (n - 1 - k) 0) % p
end RM
namespace RM
def primesL : List Int := [2, 3, 5, 7, 11, 13, 17, 19, 23, 29, 31, 37, 41, 43, 47, 53, 59, 61, 67, 71, 73, 79, 83, 89, 97]
theorem primes_lo : ∀ p ∈ primesL, 2 ≤ p ∧ p ≤ 97 := by decide
end RM
namespace RM
end RM
namespace RM
end RM
namespace RM
end RM
namespace RM
end RM
namespace L2
open PySem PySem.Spec PySem.Calls PyProof.Rows Builtin Builtin.ObjectAttr Builtin.Getset_descriptor
open PySem.W (Frag Looks findIn subIn mroIn clsIn looks_findIn looks_subIn looks_mroIn kitOne KitX)
structure ExcCls (K : Frag) (C : Addr) : Prop where
  ga : findIn K (.ref C) "__getattribute__" = some (some (.builtin "BaseException.__getattribute__"))
  gx : findIn K (.ref C) "__getattr__" = some none
  cl : findIn K (.ref C) "__class__" = some (some (.builtin "object.__class__"))
  be : subIn K (.ref C) (.type "BaseException") = some true
  ob : mroIn K C (.type "object") = some true
  ty : (clsIn K C).isSome = true
  made : PySem.W.excIn K C [.type "ValueError", .type "Exception", .type "BaseException", .type "object"] "ValueError.__new__" = true
def ObAt (x : Addr) (cls : Value) (h : Heap) : Prop := ∃ o, h.get? x = some o ∧ o.cls = cls
theorem obAt_ty {x : Addr} {cls : Value} {M : Model} {h : Heap} (p : ObAt x cls h) : Looks M h (typeOf (.ref x)) cls := by
  obtain ⟨o, q1, q2⟩ := p
  exact q2 ▸ (PySem.W.Looks.ld q1).andThen .now
section
variable {prog : Program} {w : World} {A : Around} {E : Value → Shared → Prop} {K : Frag} {x C : Addr}
theorem exc_class_get {R : Result → Shared → Prop} {s : Shared} {tp : Value} (KX : K.In s.heap) (p : ObAt x (.ref C) s.heap) (X : ExcCls K C) (q : R (.ok (.ret (.ref C))) s) :
    codeAny (model prog w) A (.call (.builtin "getset_descriptor.__get__") ⟨[.builtin "object.__class__", .ref x, tp], []⟩) R s := by
  obtain ⟨hh, g, dr, t, os⟩ := s
  have L0 : Looks (model prog w) hh (typeOf (.ref x)) (.ref C) := obAt_ty p
  have L1 := looks_mroIn (M := model prog w) KX X.ob
  refine codeAny_call_builtin PySem.W.KF.slot_gs.plain PySem.W.KF.entry_gs (PySem.W.KF.slot_gs.check _ _ _ _ _ _ _ _ PySem.W.KF.type_class (PySem.W.KF.args_gs _ _ _) ?_)
  unfold Builtin.«getset_descriptor.__get__» descrGet
  rw [PySem.W.dga_obj]
  refine wpAny_bind (wpAny_pure ?_)
  unfold descrGetter descrCheckInstance descrNameAndClass isInstance
  simp only [PySem.W.KF.owner_class]
  repeat lk
  refine ⟨Code.quiet_builtin _ (by decide +kernel), codeAny_builtin PySem.W.KF.entry_class ?_⟩
  unfold Builtin.«object.__class__» shownTypeOf
  repeat lk
  exact q
theorem exc_ga {s : Shared} {tk : Tok} {Q : Fin → Shared → Prop} (KX : K.In s.heap) (p : ObAt x (.ref C) s.heap) (X : ExcCls K C) (q : Q (.done (.ret (.ref C))) s) :
    wpAny (model prog w) A (Builtin.«object.__getattribute__» ⟨[.ref x, .str "__class__" tk], []⟩) Q E s := by
  obtain ⟨hh, g, dr, t, os⟩ := s
  have L0 : Looks (model prog w) hh (typeOf (.ref x)) (.ref C) := obAt_ty p
  have L1 := looks_findIn (M := model prog w) KX X.cl
  have f5 : typeOf (.builtin "object.__class__") = pure (.type "getset_descriptor") := PySem.W.KF.type_class
  have f6 := F.slot_gs_get.lookup
  have f7 := F.slot_gs_set.lookup
  repeat (any_goals (first | assumption | with_reducible refine L0.at ?_ | with_reducible refine L1.at ?_ | wp_step))
  refine exc_class_get KX p X ?_
  repeat (any_goals (first | assumption | wp_step))
theorem exc_check_ga {s : Shared} {v : Value} {Q : Unit → Shared → Prop} (KX : K.In s.heap) (p : ObAt x (.ref C) s.heap) (X : ExcCls K C) (q : Q () s) : wpAny (model prog w) A (checkBuiltinCall "BaseException.__getattribute__" ⟨[.ref x, v], []⟩) Q E s := by
  have k1 : builtinKind "BaseException.__getattribute__" = some .slot := by decide +kernel
  have k2 : splitId "BaseException.__getattribute__" = some ("BaseException", "__getattribute__") := by decide +kernel
  have ha := F.args_bexc_ga (.ref x) v
  obtain ⟨hh, g, dr, t, os⟩ := s
  have L0 : Looks (model prog w) hh (typeOf (.ref x)) (.ref C) := obAt_ty p
  have L1 := looks_subIn (M := model prog w) KX X.be
  simp only [checkBuiltinCall, k1, k2]
  refine wpAny_bind ?_
  · unfold isInstance
    repeat (first | with_reducible refine L0.at ?_ | with_reducible refine L1.at ?_ | wp_step)
    exact q
theorem exc_ga_call {s : Shared} {tk : Tok} {R : Result → Shared → Prop} (KX : K.In s.heap) (p : ObAt x (.ref C) s.heap) (X : ExcCls K C) (q : R (.ok (.ret (.ref C))) s) :
    codeAny (model prog w) A (.call (.builtin "BaseException.__getattribute__") ⟨[.ref x, .str "__class__" tk], []⟩) R s :=
  codeAny_call_builtin F.excAttr_ValueError.ga.plain F.entry_bexc_ga (exc_check_ga KX p X (exc_ga KX p X q))
theorem exc_attr_class {s : Shared} {Q : Option Value → Shared → Prop} (KX : K.In s.heap) (p : ObAt x (.ref C) s.heap) (X : ExcCls K C) (q : Q (some (.ref C)) { s with toks := s.toks + 1 }) :
    wpAny (model prog w) A (getAttr? (.ref x) "__class__") Q E s := by
  obtain ⟨hh, g, dr, t, os⟩ := s
  have L0 : Looks (model prog w) hh (typeOf (.ref x)) (.ref C) := obAt_ty p
  have L1 := looks_findIn (M := model prog w) KX X.ga
  have L2 := looks_findIn (M := model prog w) KX X.gx
  have hx2 : (Value.builtin "BaseException.__getattribute__" == Value.builtin "object.__getattribute__") = false := by decide +kernel
  have hx1 : (onTheHeap (Value.ref C) && Value.builtin "BaseException.__getattribute__" == Value.builtin "object.__getattribute__") = false := by rw [hx2]; rfl
  have hx0 : (false && onTheHeap (Value.builtin "BaseException.__getattribute__")) = false := rfl
  have f3 := F.excAttr_ValueError.ga.bind (.ref x)
  unfold getAttr? getAttrBy?
  repeat (any_goals (first | assumption | with_reducible refine L0.at ?_ | with_reducible refine L1.at ?_ | with_reducible refine L2.at ?_ | wp_step))
  refine exc_ga_call KX p X ?_
  repeat (any_goals (first | assumption | wp_step))
theorem kitx_exc (X : ExcCls K C) : KitX K (.ref x) (.ref C) (ObAt x (.ref C)) where
  ty := fun _ _ _ p => obAt_ty p
  it := fun _ _ KX _ => by
    obtain ⟨cd, hc⟩ := Option.isSome_iff_exists.mp X.ty
    unfold clsIn at hc
    split at hc
    · rename_i c' d' cd' sl' ho
      intro A' Q' E' s' k q
      unfold isType loadHead
      exact wpAny_bind (wpAny_loadPart (k _ _ (KX _ _ ho)) (wpAny_pure q))
    · cases hc
  ne := fun h tp dd its n sl KX htp => by
    obtain ⟨cd, hc⟩ := Option.isSome_iff_exists.mp X.ty
    refine Bool.eq_false_iff.mpr fun q => ?_
    have e : C = tp := Value.ref.inj (beq_iff_eq.mp q)
    subst e
    unfold clsIn at hc
    split at hc
    · rename_i c' d' cd' sl' ho
      have z := (KX _ _ ho).symm.trans htp
      cases z
    · cases hc
  ca := fun KX p k => exc_attr_class KX p X k
end
end L2
namespace L2
open PySem PySem.Spec PyProof.Rows
theorem ObjOk.here {P : Program} {w : World} {H : Hp} {h : Heap} {a : Addr} {o : HO} (x : ObjOk P w H h a o) : ∃ ob, h.get? a = some ob := by
  cases o with
  | lst xs => obtain ⟨_, _, _, _, e⟩ := x; exact ⟨_, e⟩
  | tup xs => obtain ⟨_, _, _, ob, e, _⟩ := x; exact ⟨_, e⟩
  | dK kvs => obtain ⟨_, _, _, _, o, _, _, e, _⟩ := x; exact ⟨_, e⟩
  | dT kvs => obtain ⟨_, _, _, _, o, _, _, e, _⟩ := x; exact ⟨_, e⟩
  | set S n => obtain ⟨o, _, _, _, e, _⟩ := x; exact ⟨_, e⟩
  | ins C dx fs => obtain ⟨_, _, _, e, _⟩ := x; exact ⟨_, e⟩
  | own y => exact x
  | xd fs => obtain ⟨_, ⟨_, _, _, e, _⟩, _⟩ := x; exact ⟨_, e⟩
  | rng lo hi => obtain ⟨_, _, _, e⟩ := x; exact ⟨_, e⟩
  | frz ob u => obtain ⟨e, _⟩ := x; exact ⟨_, e⟩
  | tbl ps => exact ⟨_, x⟩
  | met f y => exact ⟨_, x⟩
  | ext φ => obtain ⟨_, e, _⟩ := x; exact e
theorem HOk.none {P : Program} {w : World} {H : Hp} {h : Heap} {a : Addr} (x : HOk P w H h) (e : h.get? a = Option.none) : H a = Option.none := by
  cases q : H a with
  | none => rfl
  | some u =>
    obtain ⟨ob, z⟩ := (x a u q).here
    rw [e] at z; cases z
def ExcAt (h : Heap) (x T : Addr) (cls : Value) : Prop := ∃ oe vs oT ts a0, h.get? x = some oe ∧ oe.cls = cls ∧ vs[0]? = some a0 ∧ oe.data = .fields vs ∧ vs[1]? = some (.ref T) ∧ T ≠ x ∧ h.get? T = some oT ∧ oT.data = .fields ts ∧ ts[3]? = some .none
structure Own1 (X : Cx) (pins : List (Addr × Obj)) (H : Hp) (b : Addr) : Prop where
  free : H b = none
  new : X.s₀.heap.get? b = none
  loc : b ≠ X.env.locals
  fs : b ∉ X.fs
  cell : ∀ y c, X.env.cells.lookup y = some c → c ≠ b
  pin : ∀ p ∈ X.pn ++ pins, p.1 ≠ b
section
variable {X : Cx} {pins : List (Addr × Obj)} {σ : St} {H H' : Hp} {s : Shared} {h' : Heap}
theorem Inv.own1 (I : Inv X pins σ H s) (hex : X.ex = []) {b : Addr} (hb : s.heap.get? b = none) (hn : H' b = none) : Own1 X pins H' b := by
  have old : X.s₀.heap.get? b = none := by
    cases q : X.s₀.heap.get? b with
    | none => rfl
    | some o =>
      obtain ⟨o', e⟩ := I.base.there b o q (by rw [hex]; simp)
      rw [hb] at e; cases e
  refine ⟨hn, old, fun z => ?_, fun z => ?_, fun y c e z => ?_, fun p hp z => ?_⟩
  · obtain ⟨m, ⟨o, _, _, ho, _⟩, _⟩ := I.loc
    rw [← z, hb] at ho; cases ho
  · obtain ⟨_, o, ho, _⟩ := I.ok.funs.mem z
    rw [old] at ho; cases ho
  · obtain ⟨v, o, ho, _⟩ := I.cell y c e
    rw [z, hb] at ho; cases ho
  · have := (I.pin p hp).1
    rw [z, hb] at this; cases this
theorem Inv.stepO {g' : Array GenState} {t' : Nat} {d' : Drawn} {ch : List Addr} (I : Inv X pins σ H s) (hch : ∀ b ∈ ch, Own1 X pins H b)
    (keep : ∀ b o, b ≠ X.env.locals → b ∉ X.fs → b ∉ ch → s.heap.get? b = some o → h'.get? b = some o)
    (slot : ∀ b o, b ≠ X.env.locals → b ∈ X.fs → b ∉ ch → s.heap.get? b = some o → ∃ sl, h'.get? b = some { o with slots := sl })
    (ns : ∀ m, s.heap.Ns X.env.locals m → h'.Ns X.env.locals m) (hok : HOk X.prog X.w H h') (hg : AllBare g') :
    Inv X pins σ H { s with heap := h', gens := g', drawn := d', toks := t' } := by
  have neL : ∀ b o, X.s₀.heap.get? b = some o → b ≠ X.env.locals := fun b o e => Nat.ne_of_lt (Nat.lt_of_lt_of_le (Heap.lt_size e) I.ok.above)
  have neC : ∀ b o, X.s₀.heap.get? b = some o → b ∉ ch := fun b o e hb => by have := (hch b hb).new; rw [e] at this; cases this
  have cellK : ∀ x c, X.env.cells.lookup x = some c → ∀ v, s.heap.IsCell c v → h'.IsCell c v := fun x c e v ⟨o, ho, hd⟩ => by
    have nch : c ∉ ch := fun z => (hch c z).cell x c e rfl
    by_cases hc : c ∈ X.fs
    · obtain ⟨sl, q⟩ := slot c o (I.cne x c e) hc nch ho
      exact ⟨_, q, hd⟩
    · exact ⟨o, keep c o (I.cne x c e) hc nch ho, hd⟩
  refine ⟨I.ok, I.os, hg, ⟨fun b o e n hb hx => ?_, fun b o e n hb hx => ?_, fun b o e n hx => I.base.free b o e n hx, fun b o e hx => ?_, I.base.tups, I.base.frzs, I.base.tbls⟩, ?_, fun x c e => ?_, I.free, I.freeC, fun p hp => ?_, hok, I.len⟩
  · exact keep b o (neL b o e) hb (neC b o e) (I.base.keep b o e n hb hx)
  · obtain ⟨sl, e1⟩ := I.base.slot b o e n hb hx
    obtain ⟨sl', e2⟩ := slot b _ (neL b o e) hb (neC b o e) e1
    exact ⟨sl', e2⟩
  · obtain ⟨o', e1⟩ := I.base.there b o e hx
    by_cases hb : b ∈ X.fs
    · obtain ⟨sl, e2⟩ := slot b o' (neL b o e) hb (neC b o e) e1
      exact ⟨_, e2⟩
    · exact ⟨_, keep b o' (neL b o e) hb (neC b o e) e1⟩
  · obtain ⟨m, hn, hl⟩ := I.loc
    refine ⟨m, ns m hn, fun i x v e1 e2 e3 => ?_⟩
    obtain ⟨u, r, l⟩ := hl i x v e1 e2 e3
    refine ⟨u, r, ?_⟩
    rcases l with l | ⟨k, c, e, z⟩
    · exact .inl l
    · exact .inr ⟨k, c, e, cellK x c e _ z⟩
  · obtain ⟨v, z⟩ := I.cell x c e
    exact ⟨v, cellK x c e v z⟩
  · obtain ⟨e, n, ne, nf, d⟩ := I.pin p hp
    exact ⟨keep p.1 p.2 ne nf (fun z => (hch p.1 z).pin p hp rfl) e, n, ne, nf, d⟩
theorem Inv.noted {ls : List Addr} {l : List Env} {x : Addr} {cls a0 : Value} (I : Inv X pins σ H s) (hex : X.ex = []) (hls : ∀ b ∈ ls, b ∈ frs X.stack ∨ Own1 X pins H b) (hfr : ∀ b ∈ frs X.stack, b ∈ ls)
    (fl : Heap.FlyingW (PySem.W.hideAll s.heap ls) l x cls a0 h') (up : s.heap.UpToSlots h') :
    Inv X pins σ H { s with heap := h' } ∧ ∃ T, ExcAt h' x T cls ∧ Own1 X pins H T := by
  obtain ⟨st, _, _, oe, vs, T, oT, ts, e1, ⟨e2, e3⟩, e4, e5, e6, e7, e8, e9, e10⟩ := fl
  have keep : ∀ b o, b ∉ ls → s.heap.get? b = some o → h'.get? b = some o := fun b o hb e => st b o (PySem.W.hideAll_get _ e hb)
  have frame : ∀ b, b ∈ frs X.stack → ∃ o, s.heap.get? b = some o ∧ ∀ ws, o.data ≠ .fields ws := fun b hb => (I.stack.mem hb).2
  have tr : ∀ b u, H b = some u → b ∉ ls := fun b u e hb => by
    rcases hls b hb with z | z
    · rw [I.stkFree b z] at e; cases e
    · rw [z.free] at e; cases e
  have hT : H T = none := by
    cases q : H T with
    | none => rfl
    | some u =>
      obtain ⟨ob, z⟩ := (I.hok T u q).here
      have := PySem.W.hideAll_get ls z (tr T u q)
      rw [e6] at this; cases this
  have notFr : T ∉ frs X.stack := fun z => by
    obtain ⟨o, ho, hd⟩ := frame T z
    obtain ⟨sl, q⟩ := up T o ho hd
    rw [e8] at q
    cases q
    exact hd ts e9
  -- T is ours: in no earlier heap but as a record of our own
  have ownT : Own1 X pins H T := by
    by_cases hl : T ∈ ls
    · rcases hls T hl with z | z
      · exact absurd z notFr
      · exact z
    · refine I.own1 hex (H' := H) ?_ hT
      cases q : s.heap.get? T with
      | none => rfl
      | some o =>
        have := PySem.W.hideAll_get ls q hl
        rw [e6] at this; cases this
  refine ⟨?_, T, ⟨oe, vs, oT, ts, a0, e1, e2, e3, e4, e5, e7, e8, e9, e10⟩, ownT⟩
  have slotOf : ∀ b o, b ∈ ls → b ∈ frs X.stack → s.heap.get? b = some o → ∃ sl, h'.get? b = some { o with slots := sl } := fun b o _ hb e => by
    obtain ⟨o', ho, hd⟩ := frame b hb
    rw [e] at ho; cases ho
    exact up b o e hd
  have J := Inv.stepO (h' := h') (g' := s.gens) (d' := s.drawn) (t' := s.toks) (ch := ls.filter fun b => decide (b ∉ frs X.stack)) I (fun b hb => ?_) (fun b o n1 n2 n3 e => ?_) (fun b o n1 n2 n3 e => ?_) (fun m hm => ?_) (fun b u e => ?_) I.bare
  · exact J
  · obtain ⟨h1, h2⟩ := List.mem_filter.mp hb
    rcases hls b h1 with z | z
    · exact absurd z (of_decide_eq_true h2)
    · exact z
  · by_cases hb : b ∈ ls
    · have : b ∈ frs X.stack := Classical.byContradiction fun z => n3 (List.mem_filter.mpr ⟨hb, decide_eq_true z⟩)
      rcases List.mem_cons.mp (I.stkSub b this) with z | z
      · exact absurd z n1
      · exact absurd z n2
    · exact keep b o hb e
  · by_cases hb : b ∈ ls
    · by_cases hs : b ∈ frs X.stack
      · exact slotOf b o hb hs e
      · exact absurd (List.mem_filter.mpr ⟨hb, decide_eq_true hs⟩) n3
    · exact ⟨o.slots, keep b o hb e⟩
  · exact up.ns hm
  · refine (I.hok b u e).stay (fun c v hc q => ?_) (fun _ q => q) fun _ _ q => q
    rcases hc with z | z
    · exact keep c v (z ▸ tr b u e) q
    · exact keep c v (tr c _ z) q
theorem Inv.flying (I : Inv X pins σ H s) {x T : Addr} {cls : Value} (ex : ExcAt s.heap x T cls) :
    ∃ a0, Heap.FlyingW (PySem.W.hideAll s.heap (x :: T :: frs X.stack)) X.stack x cls a0 s.heap := by
  obtain ⟨oe, vs, oT, ts, a0, e1, e2, e3, e4, e5, e7, e8, e9, e10⟩ := ex
  refine ⟨a0, fun b o q => PySem.W.of_hideAll _ q, PySem.W.hideAll_none _ (by simp), PySem.W.funFrames_hide I.stack fun env he a ha => ?_, oe, vs, T, oT, ts, e1, ⟨e2, e3⟩, e4, e5, PySem.W.hideAll_none _ (by simp), e7, e8, e9, e10⟩
  exact List.mem_cons_of_mem _ (List.mem_cons_of_mem _ (List.mem_filterMap.mpr ⟨env, he, ha⟩))
end
def CX1 (P : Program) (w : World) : CXT := fun outer H s E e s' => ∃ x T cls H', e = .ref x ∧ s'.os = s.os ∧ AllBare s'.gens ∧ Un (frs outer) [] H H' s.heap s'.heap ∧ HOk P w H' s'.heap ∧ ExcAt s'.heap x T cls ∧ H' x = none ∧ H' T = none ∧ s.heap.get? x = none ∧ s.heap.get? T = none ∧ E cls none H'
def Flt (X : Cx) (E : XK) (e : Value) (s : Shared) : Prop := ∃ x T cls H pins σ, e = .ref x ∧ Inv X pins σ H s ∧ ExcAt s.heap x T cls ∧ Own1 X pins H x ∧ Own1 X pins H T ∧ E cls none H
section
variable {X : Cx} {pins : List (Addr × Obj)} {σ : St} {H : Hp} {s s' : Shared} {E : XK} {e : Value}
theorem flt_of (hex : X.ex = []) (I : Inv X pins σ H s) (h : CX1 X.prog X.w X.stack H s E e s') : Flt X E e s' := by
  obtain ⟨x, T, cls, H', rfl, os, bare, un, hok, ex, nx, nT, fx, fT, q⟩ := h
  have J : Inv X pins σ H' s' := by
    obtain ⟨hh, g, d, t, os'⟩ := s'
    obtain rfl : os' = s.os := os
    exact I.call (h' := hh) (g' := g) (d' := d) (t' := t) (ch := []) un hok bare (fun b z => absurd z (by simp))
  exact ⟨x, T, cls, H', pins, σ, rfl, J, ex, I.own1 hex fx nx, I.own1 hex fT nT, q⟩
end
end L2
namespace L2
open PySem PySem.Spec PyProof.Rows
def FltN (X : Cx) (E : XK) (e : Value) (s : Shared) : Prop := ∃ x t cls H pins σ, e = .ref x ∧ Inv X pins σ H s ∧ s.heap.get? x = some { cls := cls, data := .fields #[.ref t, .none, .none, .none, .bool false, .none] } ∧ Own1 X pins H x ∧ E cls none H
structure XOk (X : Cx) (E : XK) : Prop where
  ex : X.ex = []
  old : ∀ e s, Flt X E e s → X.xe e s
  new : ∀ e s, FltN X E e s → X.xe e s
section
variable {P : Program} {w : World} {K : PySem.W.Frag} {mg : Str → Option Value} {base : Heap} {N : List Str} {qual : Str} {scope : Scope} {f : Addr} {cd : Value} {A : Around} {outer : List Env} {s : Shared} {H : Hp} {E : XK}
theorem xok_def : XOk (cxOf (CX1 P w) P w K mg base N qual scope f cd A outer s H E) E where
  ex := rfl
  old := fun e s' h => by
    obtain ⟨x, T, cls, H', pins, σ, rfl, I, ex, ox, oT, q⟩ := h
    obtain ⟨a0, fl⟩ := I.flying ex
    refine wpAny_leaves_onW (L := s.heap.objs.size) I.ok.frames rfl fl fun h' fl' up => ?_
    have hls : ∀ b ∈ x :: T :: frs (cxOf (CX1 P w) P w K mg base N qual scope f cd A outer s H E).stack, b ∈ frs (cxOf (CX1 P w) P w K mg base N qual scope f cd A outer s H E).stack ∨ Own1 (cxOf (CX1 P w) P w K mg base N qual scope f cd A outer s H E) pins H' b := fun b hb => by
      rcases List.mem_cons.mp hb with rfl | hb
      · exact .inr ox
      · rcases List.mem_cons.mp hb with rfl | hb
        · exact .inr oT
        · exact .inl hb
    obtain ⟨J, T', ex', oT'⟩ := I.noted rfl hls (fun b hb => List.mem_cons_of_mem _ (List.mem_cons_of_mem _ hb)) fl' up
    exact ⟨x, T', cls, H', rfl, J.os, J.bare, J.base, J.hok, ex', ox.free, oT'.free, ox.new, oT'.new, q⟩
  new := fun e s' h => by
    obtain ⟨x, t, cls, H', pins, σ, rfl, I, hx, ox, q⟩ := h
    refine wpAny_leaving_firstW (L := s.heap.objs.size) (base := PySem.W.hideAll s'.heap (x :: frs (cxOf (CX1 P w) P w K mg base N qual scope f cd A outer s H E).stack)) (a0 := .ref t) I.ok.frames
      (PySem.W.funFrames_hide I.stack fun env he a ha => List.mem_cons_of_mem _ (List.mem_filterMap.mpr ⟨env, he, ha⟩)) rfl hx (fun b o q => PySem.W.of_hideAll _ q) (PySem.W.hideAll_none _ (by simp)) rfl rfl rfl fun h' hL => ?_
    obtain ⟨k1, k2, k3, k4⟩ := hL
    have hls : ∀ b ∈ x :: frs (cxOf (CX1 P w) P w K mg base N qual scope f cd A outer s H E).stack, b ∈ frs (cxOf (CX1 P w) P w K mg base N qual scope f cd A outer s H E).stack ∨ Own1 (cxOf (CX1 P w) P w K mg base N qual scope f cd A outer s H E) pins H' b := fun b hb => by
      rcases List.mem_cons.mp hb with rfl | hb
      · exact .inr ox
      · exact .inl hb
    obtain ⟨J, T', ex', oT'⟩ := I.noted rfl hls (fun b hb => List.mem_cons_of_mem _ hb) (l := (cxOf (CX1 P w) P w K mg base N qual scope f cd A outer s H E).stack) (x := x) (cls := cls) (a0 := .ref t) ⟨k1, PySem.W.hideAll_none _ (by simp), k2, k3⟩ k4
    exact ⟨x, T', cls, H', rfl, J.os, J.bare, J.base, J.hok, ex', ox.free, oT'.free, ox.new, oT'.new, q⟩
theorem Fun.okX {x qual : Str} {st : Stmt} {f : Addr} {fd : FuncData} {N ps : List Str} {k : Nat} {sp : Sp} (F : Fun K x qual st f fd) (S : FnScope N ps (defScope st)) (len : ∀ vs H Q E, sp vs H Q E → vs.length = ps.length)
    (hbody : ∀ (cdv : Value) (A : Around) (outer : List Env) (s : Shared) (H : Hp) (vs : List V) (Q : VK) (E : XK), Room k (A.deeper (envOfC qual (defScope st) s.heap.objs.size f cdv)) → sp vs H Q E →
      ∃ t, PSs (cxOf (CX1 P w) P w K mg base N qual (defScope st) f cdv A outer s H E) (defBody st) t ∧ t { nx := fun _ H' => Q .non H', rt := Q } (start N vs) H) : FnOk P w K mg base (CX1 P w) (k + 1) f fd ps sp := by
  obtain ⟨oc, od, kV, doc, pm, an, cdv, ct, osl, rfl, lk, hcd⟩ := F.ex
  exact fn_of lk hcd S len fun A outer s H vs Q E hr hsp => hbody cdv A outer s H vs Q E hr hsp
end
def HasX (P : Program) (w : World) (K : PySem.W.Frag) (mg : Str → Option Value) (base : Heap) (k : Nat) (x : Str) (ps : List Str) (sp : Sp) : Prop :=
  ∃ f fd, mg x = some (.ref f) ∧ PySem.W.keepIn K (.ref f) = true ∧ Binds K fd ps [] ∧ FnOk P w K mg base (CX1 P w) k f fd ps sp
theorem pe_callX {X : Cx} {E : XK} {k j : Nat} {x : Str} {ps : List Str} {sp : Sp} {p pos : Pos} {e : Expr} {es : List Expr} {t : TA} (hx : XOk X E) (h : HasX X.prog X.w X.K X.mg X.base k x ps sp) (hr : Room j X.A) (hkj : k ≤ j) (hg : Gl X x) (ha : PA X (e :: es) t)
    (hdb : (x == ("__debug__" : Str)) = false := by decide) (he : starEach (e :: es) X.env = (false, eval e X.env) :: starEach es X.env := by rfl) (hpl : (backTo pos (starEach es X.env)).any (·.1) = false := by rfl) :
    PE X (.Call (.Name x p) (e :: es) [] pos) (tCall sp [] E t) := by
  obtain ⟨f, fd, h1, h2, h3, h4⟩ := h
  exact pe_call h4 (hr.mono hkj) hg h1 h2 h3 .nil (fun pins σ H s e s' I q => hx.old e s' (flt_of hx.ex I q)) ha hdb he hpl
theorem PS.nox {X : Cx} {st : Stmt} {t : TS} (h : PS X.nox st t) : PS X st t := fun pins s σ H D I hw =>
  wpAny_mono (h pins s σ H D (I.wish _) hw) (fun _ _ q => q.unwish) fun _ _ z => False.elim z
end L2
namespace L2
open PySem PySem.Spec PyProof.Rows
abbrev mroV : List Value := [.type "ValueError", .type "Exception", .type "BaseException", .type "object"]
def tRaise (C : Addr) (E : XK) (t : TA) : TS := fun _ σ H => t σ H fun vs H1 => vs.length ≤ sizeLine ∧ E (.ref C) none H1
theorem exc_obj {K : PySem.W.Frag} {h₀ : Heap} {C : Addr} {bmB : List Value} {newId : String} (X : K.In h₀) (q : PySem.W.excIn K C bmB newId = true) :
    ∃ bm N nm q bs hdct sn sub ab col dd k0 k1 k2 k3 k5 mN, h₀.get? C = some (excClassObj nm q C N bs bm hdct sn sub ab col dd k0 k1 k2 k3 k5 newId) ∧ h₀.Ns N mN ∧ mN "__init__" = none ∧ OwnTail h₀ bmB bm := by
  unfold PySem.W.excIn at q
  split at q
  · rename_i dd cd sl ho
    split at q
    · rename_i C' bm k0 k1 k2 k3 n k5 hm hs
      simp only [Bool.and_eq_true, beq_iff_eq, Bool.not_eq_true'] at q
      obtain ⟨⟨⟨⟨⟨rfl, rfl⟩, hdel⟩, ht⟩, hok⟩, hni⟩ := q
      obtain ⟨nm, bs, mro, ns, qn, hd, sn, sub, ab, col, del⟩ := cd
      dsimp only at hm hdel hok hni
      subst hm hdel
      have hsl : sl = #[k0, k1, k2, k3, some (.builtin n), k5] := by
        obtain ⟨l⟩ := sl
        simp only at hs
        rw [hs]
      subst hsl
      exact ⟨bm, ns, nm, qn, bs, hd, sn, sub, ab, col, dd, k0, k1, k2, k3, k5, _, X _ _ ho, .of_isNs (PySem.W.isNs_of_in X hok), PySem.W.nsMap_none_of_in X hok hni, PySem.W.tail_of_in X ht⟩
    · cases q
  · cases q
theorem ps_raise {X : Cx} {E : XK} {x : Str} {C : Addr} {e : Expr} {es : List Expr} {t : TA} {p cpos pos : Pos} (hx : XOk X E) (hc : X.calm = true) (hg : Gl X x) (hm : X.mg x = some (.ref C)) (hC : PySem.W.excIn X.K C mroV "ValueError.__new__" = true) (ha : PA X (e :: es) t)
    (hdb : (x == ("__debug__" : Str)) = false := by decide) (he : starEach (e :: es) X.env = (false, eval e X.env) :: starEach es X.env := by rfl) (hpl : (backTo cpos (starEach es X.env)).any (·.1) = false := by rfl) :
    PS X (.Raise (some (.Call (.Name x p) (e :: es) [] cpos)) none pos) (tRaise C E t) := by
  intro pins s σ H D I h
  obtain ⟨tl, N, nm, q, bs, hdct, sn, sub, ab, col, dd, k0, k1, k2, k3, k5, mN, hC, hN, hni, T⟩ := exc_obj I.mod.kin hC
  refine wpAny_Raise_call_subT (C := C) (nm := nm) (q := q) (N := N) (bs := bs) (bm := tl) (hdct := hdct) (sn := sn) (sub := sub) (ab := ab) (col := col) (dd := dd) (k0 := k0) (k1 := k1) (k2 := k2) (k3 := k3) (k5 := k5)
    PySem.F.excBase_ValueError (mN := mN) (T.hasType PySem.F.excBase_ValueError.hasBase) (I.ok.hd hc) (by rw [he]; show (false || (backTo cpos (starEach es X.env)).any (·.1)) = false; rw [hpl]; rfl) hni (ld_glob I hg hm ⟨rfl, ?_⟩ hdb)
  have hz := ha cpos pins s σ H _ I h
  rw [he] at hz ⊢
  refine Calls.evalArgs_plain (wpAny_mono hz (fun us s₂ h₂ => ?_) fun _ _ y => y)
  obtain ⟨vs, H1, I2, r, hl, hE⟩ := h₂
  refine ⟨rfl, (r.length ▸ hl : us.length ≤ sizeLine), I2.bk _ _ hC, hN.keeps I2.bk, T.keeps I2.bk, fun h' e' hM => ?_⟩
  obtain ⟨t', ht, _, _⟩ := hM.there
  have J := I2.kept (h' := h') (t' := s₂.toks) hM.keeps
  exact hx.new _ _ ⟨e', t', .ref C, H1, pins, σ, rfl, J, ht, I2.own1 hx.ex hM.new (I2.hok.none hM.new), hE⟩
end L2
namespace L2
open PySem PySem.Spec PyProof.Rows
def SmallI (i : Int) : Prop := i.natAbs.log2 < 1920
def PJn (X : Cx) (es : List Expr) (n : Nat) (t : St → Hp → Prop) : Prop :=
  ∀ (pins : List (Addr × Obj)) (s : Shared) (σ : St) (H : Hp) (acc : Str), Inv X pins σ H s → t σ H → acc.length + n ≤ sizeLine →
    Joins (model X.prog X.w) X.A X.xe (evalEach es X.env) acc (fun out s₁ => Inv X pins σ H s₁ ∧ out.length ≤ acc.length + n) s
section
variable {X : Cx}
theorem Joins.mono {M : Model} {A : Around} {E : Value → Shared → Prop} {Q Q' : Str → Shared → Prop} (hQ : ∀ o s, Q o s → Q' o s) : ∀ (l : List (Sem Value)) (acc : Str) (s : Shared), Joins M A E l acc Q s → Joins M A E l acc Q' s
  | [], _, _, h => hQ _ _ h
  | x :: r, acc, s, h => wpAny_mono h (fun v s1 ⟨y, t, e, z, q⟩ => ⟨y, t, e, z, Joins.mono hQ r (acc ++ y) s1 q⟩) fun _ _ e => e
theorem pjn_nil : PJn X [] 0 (fun _ _ => True) := fun _ _ _ _ _ I _ _ => Joins_nil ⟨I, Nat.le_refl _⟩
theorem pjn_str {x : Str} {j pos} {rest : List Expr} {n : Nat} {t : St → Hp → Prop} (hr : PJn X rest n t) : PJn X (.Constant (.str x) j pos :: rest) (x.length + n) t := fun pins s σ H acc I h hz =>
  Joins_cons (Calls.Constant_str ⟨x, _, rfl, (by rw [strLen_append]; omega), Joins.mono (fun o s1 ⟨a, b⟩ => ⟨a, (by rw [strLen_append] at b; omega)⟩) _ _ _ (hr pins _ σ H _ (I.tok _) h (by rw [strLen_append]; omega))⟩)
theorem toks_len {i : Int} (h : SmallI i) : (Str.ofString (toString i)).length ≤ 1921 := by
  rw [PySem.ofString_length]; exact PySem.int_text_length_le (k := 1920) (by decide) h
theorem pjn_int {e : Expr} {te : TE} {pos} {rest : List Expr} {n : Nat} {t : St → Hp → Prop} (he : PE X e te) (hr : PJn X rest n t) :
    PJn X (.FormattedValue e (-1) none pos :: rest) (1921 + n) (fun σ H => (te σ H fun x H1 => H1 = H ∧ ∃ i, x = .int i ∧ SmallI i) ∧ t σ H) := fun pins s σ H acc I h hz => by
  refine Joins_cons (wpAny_FormattedValue_plain (thn (he pins s σ H _ I h.1) fun u s1 q => ?_))
  obtain ⟨x, H1, I1, r, rfl, i, rfl, hi⟩ := q
  obtain ⟨t', rfl⟩ := r
  refine wpAny_formatField_int hi ⟨_, _, rfl, ?_, ?_⟩
  · have := toks_len hi
    rw [strLen_append]
    exact Nat.le_trans (Nat.add_le_add_left this _) (Nat.le_trans (by omega) hz)
  · have hlen : (Str.ofString (toString i)).length ≤ 1921 := toks_len hi
    have e1 : (acc ++ Str.ofString (toString i)).length = acc.length + (Str.ofString (toString i)).length := strLen_append _ _
    refine Joins.mono (fun o s2 q => ⟨q.1, ?_⟩) _ _ _ (hr pins _ σ H1 (acc ++ Str.ofString (toString i)) (I1.tok _) h.2 (by omega))
    have := q.2
    omega
theorem pe_msg {v1 v2 : Expr} {rest : List Expr} {pos : Pos} {n : Nat} {t : St → Hp → Prop} (hj : PJn X (v1 :: v2 :: rest) n t) (hn : n ≤ sizeLine) : PE X (.JoinedStr (v1 :: v2 :: rest) pos) (fun σ H Q => t σ H ∧ ∀ y, Q (.str y) H) := fun pins s σ H Q I h =>
  wpAny_JoinedStr (Joins.mono (fun o s1 ⟨J, z⟩ => ⟨by simp [Str.empty, Str.length] at z ⊢; omega, ⟨.str o, H, J.tok _, ⟨_, rfl⟩, h.2 o⟩⟩) _ _ _ (hj pins s σ H Str.empty I h.1 (by simp [Str.empty, Str.length]; omega)))
def tRz (C : Addr) (E : XK) (t : St → Hp → Prop) : TS := fun _ σ H => t σ H ∧ E (.ref C) none H
theorem ps_raiseM {E : XK} {x : Str} {C : Addr} {v1 v2 : Expr} {rest : List Expr} {t : St → Hp → Prop} {n : Nat} {p cpos pos jpos : Pos} (hx : XOk X E) (hc : X.calm = true) (hg : Gl X x) (hm : X.mg x = some (.ref C)) (hC : PySem.W.excIn X.K C mroV "ValueError.__new__" = true)
    (hj : PJn X (v1 :: v2 :: rest) n t) (hn : n ≤ sizeLine) (hdb : (x == ("__debug__" : Str)) = false := by decide) :
    PS X (.Raise (some (.Call (.Name x p) [.JoinedStr (v1 :: v2 :: rest) jpos] [] cpos)) none pos) (tRz C E t) := fun pins s σ H D I h =>
  ps_raise hx hc hg hm hC (pa_cons (pe_msg hj hn) pa_nil) hdb rfl rfl pins s σ H D I ⟨h.1, fun _ => ⟨(by decide : 1 ≤ sizeLine), h.2⟩⟩
end
end L2
namespace L2
open PySem PySem.Spec PyProof.Rows
structure RoomN (k : Nat) (A : Around) : Prop where
  dp : A.depth + 3 * k + 5 < recursionLimit
  un : A.units + 16 * k + 200 < cLine
theorem RoomN.mono {j k : Nat} {A : Around} (r : RoomN k A) (h : j ≤ k) : RoomN j A := ⟨by have := r.dp; omega, by have := r.un; omega⟩
theorem RoomN.deeper {k : Nat} {A : Around} (r : RoomN (k + 1) A) (env : Env) : RoomN k (A.deeper env) :=
  ⟨by have := r.dp; show A.depth + 1 + 3 * k + 5 < _; omega, by have := r.un; show A.units + 3 + 16 * k + 200 < _; omega⟩
theorem RoomN.depth {k : Nat} {A : Around} (r : RoomN k A) : A.depth < recursionLimit := by have := r.dp; omega
theorem Room.n {k : Nat} {A : Around} (r : Room k A) (v : Option Value) : RoomN k (A.mark v) := ⟨r.dp, r.un⟩
structure FnOkN (P : Program) (w : World) (K : PySem.W.Frag) (mg : Str → Option Value) (base : Heap) (CX : CXT) (k : Nat) (f : Addr) (fd : FuncData) (ps : List Str) (sp : Sp) : Prop where
  len : ∀ vs H Q E, sp vs H Q E → vs.length = ps.length
  run : ∀ (A : Around) (outer : List Env) (s : Shared) (H : Hp) (args : Args) (us : List Value) (vs : List V) (Q : VK) (E : XK), RoomN k A → Env0 P w K mg base A outer s H → BindsTo s fd args (ps.zip us) → Vals vs us → sp vs H Q E →
    codeAny (model P w) A (.call (.ref f) args) (CR CX outer P w H s Q E) s
abbrev cxN (CX : CXT) (P : Program) (w : World) (K : PySem.W.Frag) (mg : Str → Option Value) (base : Heap) (N : List Str) (qual : Str) (scope : Scope) (f : Addr) (cd : Value) (A : Around) (outer : List Env) (s : Shared) (H : Hp) (E : XK) : Cx :=
  { cxOf CX P w K mg base N qual scope f cd A outer s H E with calm := false }
theorem inv_startN {CX : CXT} {P : Program} {w : World} {K : PySem.W.Frag} {mg : Str → Option Value} {base : Heap} {N ps : List Str} {qual : Str} {scope : Scope} {f : Addr} {cd : Value} {A : Around} {outer : List Env} {s s1 : Shared} {H : Hp} {E : XK} {us : List Value} {vs : List V}
    (S : FnScope N ps scope) (e0 : Env0 P w K mg base A outer s H) (hl : vs.length = ps.length) (r : Vals vs us)
    (x : InCallC s s.heap.objs.size (bindL (envOfC qual scope s.heap.objs.size f cd).kindOf (ps.zip us) fun _ => none) (cellsFrom (s.heap.objs.size + 1) scope.names []) (bindC (envOfC qual scope s.heap.objs.size f cd).kindOf (ps.zip us) fun _ => none) s1) :
    Inv (cxN CX P w K mg base N qual scope f cd A outer s H E) [] (start N vs) H s1 := by
  have e1 : Env0 P w K mg base { A with handled := none } outer s H := ⟨e0.frames, e0.mod, e0.bs, e0.bsz, e0.funs, e0.frf, e0.hok, e0.bare⟩
  have I := inv_start (CX := CX) (E := E) S (A := { A with handled := none }) rfl e1 hl r x
  exact ⟨⟨I.ok.mod, I.ok.kind, I.ok.glob, I.ok.blt, I.ok.above, I.ok.inj, I.ok.has, I.ok.cab, (fun z => Bool.noConfusion z), Around.frames_deeper e0.frames, I.ok.stk, I.ok.exf, I.ok.bs, I.ok.bsz, I.ok.noex, I.ok.exfs, I.ok.funs, I.ok.frf⟩,
    I.os, I.bare, I.base, I.loc, I.cell, I.free, I.freeC, I.pin, I.hok, I.len⟩
theorem fn_ofN {CX : CXT} {P : Program} {w : World} {K : PySem.W.Frag} {mg : Str → Option Value} {base : Heap} {k : Nat} {f : Addr} {name qual : Str} {params : Arguments} {body : List Stmt} {scope : Scope} {dV kV doc pm cdv ct oc : Value} {an od : Option Addr}
    {osl : Array (Option Value)} {N ps : List Str} {sp : Sp} (lk : K.lookup f = some ⟨oc, od, .func (PySem.W.fnOf name qual params body scope dV kV doc pm an cdv ct), osl⟩) (hcd : PySem.W.codeIn K cdv qual = true) (S : FnScope N ps scope)
    (len : ∀ vs H Q E, sp vs H Q E → vs.length = ps.length)
    (hbody : ∀ (A : Around) (outer : List Env) (s : Shared) (H : Hp) (vs : List V) (Q : VK) (E : XK), RoomN k (A.deeper (envOfC qual scope s.heap.objs.size f cdv)) → sp vs H Q E →
      ∃ t, PSs (cxN CX P w K mg base N qual scope f cdv A outer s H E) body t ∧ t { nx := fun _ H' => Q .non H', rt := Q } (start N vs) H) :
    FnOkN P w K mg base CX (k + 1) f (PySem.W.fnOf name qual params body scope dV kV doc pm an cdv ct) ps sp := by
  refine ⟨len, fun A outer s H args us vs Q E hr e0 hb r hsp => ?_⟩
  have hl := len _ _ _ _ hsp
  have KX : K.In s.heap := e0.mod.kin.keeps fun b o e => (e0.bs b o e).1
  have lim : s.heap.NoLimit := e0.mod.nolimit.keeps fun b o e => (e0.bs b o e).1
  have hkind : ∀ y ∈ ps.zip us, scope.names.lookup y.1 = some .local ∨ (scope.names.lookup y.1 = some .cell ∧ ((cellsFrom (s.heap.objs.size + 1) scope.names []).lookup y.1).isSome = true) := fun ⟨n, v⟩ hy => by
    rcases S.par n (List.of_mem_zip hy).1 with q | q
    · exact .inl q
    · exact .inr ⟨q, PySem.W.cellsFrom_some _ _ _ (.inl q)⟩
  refine codeAny_call_function hr.depth (KX _ _ lk) rfl S.co S.gen rfl (PySem.W.codeRec_of KX hcd) (hb _ _ _ _ ?_)
  refine wpAny_newFunctionEnv_cells S.kind hkind fun env he s1 x => ?_
  subst he
  refine ⟨lim.keeps x.toInCall.keep, codeAny_func ?_⟩
  obtain ⟨t, ht, hq⟩ := hbody A outer s H vs Q E (hr.deeper _) hsp
  have I : Inv (cxN CX P w K mg base N qual scope f cdv A outer s H E) [] (start N vs) H s1 := inv_startN S e0 hl r x
  refine wpAny_mono (ht [] s1 (start N vs) H _ I hq) (fun fl s' hs => ?_) fun e s' hs => hs
  have fin : ∀ {σ' : St} {H' : Hp} {v : V} {u : Value}, Inv (cxN CX P w K mg base N qual scope f cdv A outer s H E) [] σ' H' s' → RelV v u → Q v H' → CE outer P w H s Q u s' :=
    fun {σ' H' v u} J rv q => ⟨v, H', J.os, J.bare, J.base, J.hok, rv, q⟩
  cases fl with
  | ret u =>
    obtain ⟨v, σ', H', J, rv, q⟩ := hs
    exact fin J rv q
  | next =>
    obtain ⟨σ', H', J, q⟩ := hs
    exact fin (v := V.non) (u := Value.none) J rfl q
  | brk =>
    obtain ⟨_, _, _, q⟩ := hs
    exact False.elim q
  | cont =>
    obtain ⟨_, _, _, q⟩ := hs
    exact False.elim q
section
variable {P : Program} {w : World} {K : PySem.W.Frag} {mg : Str → Option Value} {base : Heap}
theorem Fun.okN {x qual : Str} {st : Stmt} {f : Addr} {fd : FuncData} {N ps : List Str} {k : Nat} {sp : Sp} (F : Fun K x qual st f fd) (S : FnScope N ps (defScope st)) (len : ∀ vs H Q E, sp vs H Q E → vs.length = ps.length)
    (hbody : ∀ (cdv : Value) (A : Around) (outer : List Env) (s : Shared) (H : Hp) (vs : List V) (Q : VK) (E : XK), RoomN k (A.deeper (envOfC qual (defScope st) s.heap.objs.size f cdv)) → sp vs H Q E →
      ∃ t, PSs (cxN CX0 P w K mg base N qual (defScope st) f cdv A outer s H E) (defBody st) t ∧ t { nx := fun _ H' => Q .non H', rt := Q } (start N vs) H) : FnOkN P w K mg base CX0 (k + 1) f fd ps sp := by
  obtain ⟨oc, od, kV, doc, pm, an, cdv, ct, osl, rfl, lk, hcd⟩ := F.ex
  exact fn_ofN lk hcd S len fun A outer s H vs Q E hr hsp => hbody cdv A outer s H vs Q E hr hsp
def HasN (P : Program) (w : World) (K : PySem.W.Frag) (mg : Str → Option Value) (base : Heap) (k : Nat) (x : Str) (ps : List Str) (sp : Sp) : Prop :=
  ∃ f fd, mg x = some (.ref f) ∧ PySem.W.keepIn K (.ref f) = true ∧ Binds K fd ps [] ∧ FnOkN P w K mg base CX0 k f fd ps sp
end
theorem pe_callN {X : Cx} {k j : Nat} {x : Str} {ps : List Str} {sp : Sp} {p pos : Pos} {e : Expr} {es : List Expr} {t : TA} (h : HasN X.prog X.w X.K X.mg X.base k x ps sp) (hr : RoomN j X.A) (hkj : k ≤ j) (hg : Gl X x) (ha : PA X (e :: es) t)
    (hdb : (x == ("__debug__" : Str)) = false := by decide) (he : starEach (e :: es) X.env = (false, eval e X.env) :: starEach es X.env := by rfl) (hpl : (backTo pos (starEach es X.env)).any (·.1) = false := by rfl) :
    PE X (.Call (.Name x p) (e :: es) [] pos) (tCall sp [] E0 t) := by
  obtain ⟨f, fd, h1, h2, h3, h4⟩ := h
  intro pins s σ H Q I h
  refine wpAny_Call_Name_kw (ld_glob I hg h1 ?_ hdb)
  refine PySem.W.callWith_K (h₀ := X.base) I.ok.mod.kin h2 (thn (ha pos pins s σ H _ I h) fun us s1 ⟨vs, H1, I1, r, q⟩ => ⟨I1.kIn, ?_⟩) he hpl
  have r2 : Vals (vs ++ []) us := by rw [List.append_nil]; exact r
  have hl : us.length = ps.length := by rw [← r2.length]; exact h4.len _ _ _ _ q
  have hb := h3 s1 us I1.kIn (by rw [List.append_nil]; exact hl)
  rw [List.append_nil] at hb
  refine wpAny_call (codeAny_mono (h4.run X.A X.stack s1 H1 ⟨us, []⟩ us (vs ++ []) Q E0 (hr.mono hkj) I1.env0 hb r2 q) fun r s' hq => ?_)
  cases r with
  | error e => exact False.elim hq
  | ok fl =>
    cases fl with
    | ret u => exact I1.after hq
    | next => exact False.elim hq
    | brk => exact False.elim hq
    | cont => exact False.elim hq
end L2
namespace L2
open PySem PySem.Spec PyProof.Rows
abbrev blank (X : Cx) : St := List.replicate X.N.length none
theorem blank_get {n : Nat} {i : Nat} {v : V} (h : (List.replicate n (none : Option V))[i]? = some (some v)) : False := by
  rw [List.getElem?_replicate] at h
  split at h <;> cases h
abbrev Cx.tried (X : Cx) (pins : List (Addr × Obj)) (E : XK) : Cx := { X with pn := X.pn ++ pins, xe := fun e s => Flt { X with pn := X.pn ++ pins } E e s }
abbrev Cx.suite (X : Cx) (x : Addr) : Cx := { X with A := X.A.mark (some (.ref x)), calm := false, xe := fun _ _ => False }
section
variable {X : Cx} {pins pins' : List (Addr × Obj)} {σ : St} {H : Hp} {s : Shared}
theorem Cx.Ok.pn {pn : List (Addr × Obj)} {xe : Value → Shared → Prop} (ok : X.Ok) : Cx.Ok { X with pn := pn, xe := xe } :=
  ⟨ok.mod, ok.kind, ok.glob, ok.blt, ok.above, ok.inj, ok.has, ok.cab, ok.hd, ok.frames, ok.stk, ok.exf, ok.bs, ok.bsz, ok.noex, ok.exfs, ok.funs, ok.frf⟩
theorem Cx.Ok.unpn {pn : List (Addr × Obj)} {xe : Value → Shared → Prop} (ok : Cx.Ok { X with pn := pn, xe := xe }) : X.Ok :=
  ⟨ok.mod, ok.kind, ok.glob, ok.blt, ok.above, ok.inj, ok.has, ok.cab, ok.hd, ok.frames, ok.stk, ok.exf, ok.bs, ok.bsz, ok.noex, ok.exfs, ok.funs, ok.frf⟩
theorem Inv.tryIn {E : XK} (I : Inv X pins σ H s) : Inv (X.tried pins E) [] σ H s := ⟨I.ok.pn, I.os, I.bare, I.base, I.loc, I.cell, I.free, I.freeC, fun p hp => I.pin p (by rw [List.append_nil] at hp; exact hp), I.hok, I.len⟩
theorem Inv.tryOn {xe : Value → Shared → Prop} (I : Inv { X with pn := X.pn ++ pins, xe := xe } pins' σ H s) : Inv X pins σ H s :=
  ⟨I.ok.unpn, I.os, I.bare, I.base, I.loc, I.cell, I.free, I.freeC, fun p hp => I.pin p (List.mem_append_left _ hp), I.hok, I.len⟩
theorem Inv.blank (I : Inv X pins σ H s) : Inv X pins (L2.blank X) H s := I.weak (by rw [I.len, List.length_replicate]) fun _ _ h => (blank_get h).elim
theorem Own1.tryOn {b : Addr} {xe : Value → Shared → Prop} (o : Own1 { X with pn := X.pn ++ pins, xe := xe } pins' H b) : Own1 X pins H b := ⟨o.free, o.new, o.loc, o.fs, o.cell, fun p hp => o.pin p (List.mem_append_left _ hp)⟩
theorem Inv.suiteIn {x : Addr} (I : Inv X pins σ H s) : Inv (X.suite x) pins σ H s :=
  ⟨⟨I.ok.mod, I.ok.kind, I.ok.glob, I.ok.blt, I.ok.above, I.ok.inj, I.ok.has, I.ok.cab, (fun z => Bool.noConfusion z), I.ok.frames, I.ok.stk, I.ok.exf, I.ok.bs, I.ok.bsz, I.ok.noex, I.ok.exfs, I.ok.funs, I.ok.frf⟩, I.os, I.bare, I.base, I.loc, I.cell, I.free, I.freeC, I.pin, I.hok, I.len⟩
theorem Inv.suiteOut {x : Addr} (ok : X.Ok) (I : Inv (X.suite x) pins σ H s) : Inv X pins σ H s := ⟨ok, I.os, I.bare, I.base, I.loc, I.cell, I.free, I.freeC, I.pin, I.hok, I.len⟩
theorem Inv.trackO {x : Addr} {o : HO} (I : Inv X pins σ H s) (ow : Own1 X pins H x) (h : ObjOk X.prog X.w (upd H x o) s.heap x o) : Inv X pins σ (upd H x o) s := by
  have ne : ∀ {b u}, H b = some u → b ≠ x := fun e => ne_of_none e ow.free
  refine ⟨I.ok, I.os, I.bare, ⟨I.base.keep, I.base.slot, fun b ob e n hx => ?_, I.base.there, fun b xs e => ?_, fun b ob u e => ?_, fun b ps e => ?_⟩, I.loc, I.cell, ?_, fun y c e => ?_, fun p hp => ?_, fun b u e => ?_, I.len⟩
  · rw [upd_ne (fun z => by have := ow.new; rw [← z, e] at this; cases this)]
    exact I.base.free b ob e n hx
  · have q := I.base.tups b xs e
    rw [upd_ne (ne q)]; exact q
  · have q := I.base.frzs b ob u e
    rw [upd_ne (ne q)]; exact q
  · obtain ⟨m, q⟩ := I.base.tbls b ps e
    exact ⟨m, by rw [upd_ne (ne q)]; exact q⟩
  · rw [upd_ne (Ne.symm ow.loc)]; exact I.free
  · rw [upd_ne (ow.cell y c e)]; exact I.freeC y c e
  · obtain ⟨e, n, r⟩ := I.pin p hp
    exact ⟨e, by rw [upd_ne (ow.pin p hp)]; exact n, r⟩
  · by_cases hb : b = x
    · subst hb
      rw [upd_same] at e
      cases e
      exact h
    · rw [upd_ne hb] at e
      exact (I.hok b u e).stay (fun _ _ _ q => q) (fun c q => by rw [upd_ne (ne q)]; exact q) fun c xs q => by rw [upd_ne (ne q)]; exact q
theorem Inv.newMap {h' : Heap} {m' : Str → Option Value} {t' : Nat} (I : Inv X pins σ H s) (hn : h'.Ns X.env.locals m') (hs : Heap.SameBut X.env.locals s.heap h') : Inv X pins (L2.blank X) H { s with heap := h', toks := t' } := by
  have below : ∀ b o, X.s₀.heap.get? b = some o → b ≠ X.env.locals := fun b o e => Nat.ne_of_lt (Nat.lt_of_lt_of_le (Heap.lt_size e) I.ok.above)
  refine ⟨I.ok, I.os, I.bare, ⟨fun b o e n hb hx => ?_, fun b o e n hb hx => ?_, I.base.free, fun b o e hx => ?_, I.base.tups, I.base.frzs, I.base.tbls⟩, ⟨_, hn, fun j y v' e1 e2 e3 => (blank_get e2).elim⟩, fun y c e => ?_, I.free, I.freeC, fun p hp => ?_, fun b ob e => ?_, by simp⟩
  · exact (hs.2 b (below b o e)).trans (I.base.keep b o e n hb hx)
  · obtain ⟨sl, e1⟩ := I.base.slot b o e n hb hx
    exact ⟨sl, (hs.2 b (below b o e)).trans e1⟩
  · obtain ⟨o', e1⟩ := I.base.there b o e hx
    exact ⟨o', (hs.2 b (below b o e)).trans e1⟩
  · obtain ⟨w', z⟩ := I.cell y c e
    exact ⟨w', z.sameBut hs (I.cne y c e)⟩
  · obtain ⟨e, n, ne, nf, d⟩ := I.pin p hp
    exact ⟨(hs.2 _ ne).trans e, n, ne, nf, d⟩
  · refine (I.hok b ob e).stay (fun c w' hc q => (hs.2 c ?_).trans q) (fun _ q => q) fun _ _ q => q
    intro z
    rcases hc with hc | hc
    · rw [← hc, z, I.free] at e; cases e
    · rw [z, I.free] at hc; cases hc
end
abbrev Ends.over (D : Ends) (β : St) : Ends := { nx := fun _ H => D.nx β H, rt := D.rt, bk := fun _ H => D.bk β H, ct := fun _ H => D.ct β H }
def catchE (K : PySem.W.Frag) (β : St) (C : Addr) (i : Nat) (ts : TS) (D : Ends) : XK := fun cls _ H => PySem.W.exmOne K cls (.ref C) = some true ∧ ∀ x, H x = none → ts (D.over β) (β.set i (some (.ref x))) (upd H x (.ext (ObAt x cls)))
def tTry (K : PySem.W.Frag) (β : St) (C : Addr) (i : Nat) (tb : XK → TS) (ts : TS) : TS := fun D σ H => tb (catchE K β C i ts D) D σ H
theorem obAt_ext {P : Program} {w : World} {H : Hp} {h : Heap} {x : Addr} {cls : Value} (p : ObAt x cls h) : ObjOk P w H h x (.ext (ObAt x cls)) :=
  ⟨p, p.imp fun _ q => q.1, fun _ _ ⟨o, e, c⟩ k => ⟨o, k o e, c⟩⟩
theorem ps_tryAs {X : Cx} {body suite : List Stmt} {b₀ : Stmt} {n y : Str} {C : Addr} {i : Nat} {tb : XK → TS} {ts : TS} {np hpos pos : Pos} (hex : X.ex = []) (hst : X.stack = X.env :: X.outer ∧ X.env.frame = some X.env.locals)
    (hb : ∀ pins E, PSs (X.tried pins E) body (tb E)) (hs : ∀ x, PSs (X.suite x) (b₀ :: suite) ts) (hg : Gl X y) (hm : X.mg y = some (.ref C)) (hN : X.N.Nodup) (hi : X.N[i]? = some n) (hn : X.env.kindOf n = some .local) (hf : X.fn n = true)
    (hdb : (y == ("__debug__" : Str)) = false := by decide) :
    PS X (.Try body [.ExceptHandler (some (.Name y np)) (some n) (b₀ :: suite) hpos] [] [] pos) (tTry X.K (blank X) C i tb ts) := by
  intro pins s σ H D I h
  refine wpAny_Try_except (wpAny_mono (hb pins (catchE X.K (blank X) C i ts D) [] s σ H D I.tryIn h) (fun f s1 q => ?_) fun e s1 q => ?_)
  · cases f with
    | next => obtain ⟨σ', H', J, q⟩ := q; exact wpAny_execs_nil ⟨σ', H', J.tryOn, q⟩
    | brk => obtain ⟨σ', H', J, q⟩ := q; exact ⟨σ', H', J.tryOn, q⟩
    | cont => obtain ⟨σ', H', J, q⟩ := q; exact ⟨σ', H', J.tryOn, q⟩
    | ret u => obtain ⟨v, σ', H', J, r, q⟩ := q; exact ⟨v, σ', H', J.tryOn, r, q⟩
  obtain ⟨x, T, cls, H', pins', σ', rfl, J0, ex, ox0, oT0, q1, q2⟩ := q
  have J : Inv X pins (blank X) H' s1 := Inv.blank (Inv.tryOn (xe := X.xe) J0)
  have ox : Own1 X pins H' x := Own1.tryOn (xe := X.xe) ox0
  have oT : Own1 X pins H' T := Own1.tryOn (xe := X.xe) oT0
  have hfr : X.A.frames = some (X.env :: X.outer) := by rw [← hst.1]; exact J.ok.frames
  have hls : ∀ {T}, Own1 X pins H' T → ∀ b ∈ x :: T :: frs X.stack, b ∈ frs X.stack ∨ Own1 X pins H' b := fun oT b hb => by
    rcases List.mem_cons.mp hb with rfl | hb
    · exact .inr ox
    · rcases List.mem_cons.mp hb with rfl | hb
      · exact .inr oT
      · exact .inl hb
  obtain ⟨a0, fl⟩ := J.flying ex
  rw [hst.1] at fl
  refine wpAny_looks_onW hfr hst.2 fl fun h1 held up1 => ?_
  refine wpAny_landsW (s := { s1 with heap := h1 }) held fun h2 fl2 up2 => ?_
  obtain ⟨J2, T2, ex2, oT2⟩ := J.noted hex (hls oT) (fun b hb => List.mem_cons_of_mem _ (List.mem_cons_of_mem _ hb)) (by rw [hst.1]; exact fl2) (up1.trans up2)
  have hob : ObAt x cls h2 := by obtain ⟨oe, _, _, _, _, e1, e2, _⟩ := ex2; exact ⟨oe, e1, e2⟩
  refine wpAny_handleBy_cons (codeAny_handlers_test (ld_glob (X := X.suite x) J2.suiteIn hg hm ?_ hdb)) (by intro q; cases q)
  refine (PySem.W.exm_one (K := X.K) (h := h2) J2.kIn (obAt_ty hob) q1) _ _ _ _ (fun _ _ e => e) ?_
  show codeAny _ _ _ _ _
  refine codeAny_handlers_suite_as ?_
  obtain ⟨a2, fl3⟩ := J2.flying ex2
  refine lands_againW fl3 fun h3 fl4 up3 => ?_
  obtain ⟨J3, T3, ex3, oT3⟩ := J2.noted hex (hls oT2) (fun b hb => List.mem_cons_of_mem _ (List.mem_cons_of_mem _ hb)) fl4 up3
  have hob3 : ObAt x cls h3 := by obtain ⟨oe, _, _, _, _, e1, e2, _⟩ := ex3; exact ⟨oe, e1, e2⟩
  have J4 := (J3.trackO (o := .ext (ObAt x cls)) ox (obAt_ext hob3)).suiteIn (x := x)
  refine store_ok (X := X.suite x) (v := .ref x) J4 hN hi (.inl hn) rfl (fun s4 J5 => ?_) (.inl hf)
  refine wpAny_mono (hs x pins s4 _ _ (D.over (blank X)) J5 (q2 x ox.free)) (fun f s5 q => ?_) fun _ _ z => False.elim z
  have hcl : (X.env.scope.kind == .class || (X.env.scope.kind == .module && X.env.locals != X.env.globals)) = false := by rw [I.ok.kind]; rfl
  show wpAny _ X.A _ (fun _ s₃ => SP X pins D f s₃) X.xe s5
  cases f with
  | next =>
    obtain ⟨σ', H6, J6, q⟩ := q
    obtain ⟨m, hm6, _⟩ := J6.loc
    exact wpAny_nameGoes hn hm6 hcl fun h' m' a b => ⟨_, H6, (J6.suiteOut I.ok).newMap a b, q⟩
  | brk =>
    obtain ⟨σ', H6, J6, q⟩ := q
    obtain ⟨m, hm6, _⟩ := J6.loc
    exact wpAny_nameGoes hn hm6 hcl fun h' m' a b => ⟨_, H6, (J6.suiteOut I.ok).newMap a b, q⟩
  | cont =>
    obtain ⟨σ', H6, J6, q⟩ := q
    obtain ⟨m, hm6, _⟩ := J6.loc
    exact wpAny_nameGoes hn hm6 hcl fun h' m' a b => ⟨_, H6, (J6.suiteOut I.ok).newMap a b, q⟩
  | ret u =>
    obtain ⟨v, σ', H6, J6, r, q⟩ := q
    obtain ⟨m, hm6, _⟩ := J6.loc
    exact wpAny_nameGoes hn hm6 hcl fun h' m' a b => ⟨v, _, H6, (J6.suiteOut I.ok).newMap a b, r, q⟩
end L2
namespace L2
open PySem PySem.Spec PyProof.Rows
structure XOld (X : Cx) (E : XK) : Prop where
  ex : X.ex = []
  old : ∀ e s, Flt X E e s → X.xe e s
theorem xold_tried {X : Cx} {pins : List (Addr × Obj)} {E : XK} (hex : X.ex = []) : XOld (X.tried pins E) E := ⟨hex, fun e s h => by
  obtain ⟨x, T, cls, H, pins', σ, q1, I, q2, ⟨a1, a2, a3, a4, a5, a6⟩, ⟨b1, b2, b3, b4, b5, b6⟩, q3⟩ := h
  exact ⟨x, T, cls, H, pins', σ, q1, ⟨⟨I.ok.mod, I.ok.kind, I.ok.glob, I.ok.blt, I.ok.above, I.ok.inj, I.ok.has, I.ok.cab, I.ok.hd, I.ok.frames, I.ok.stk, I.ok.exf, I.ok.bs, I.ok.bsz, I.ok.noex, I.ok.exfs, I.ok.funs, I.ok.frf⟩, I.os, I.bare, I.base, I.loc, I.cell, I.free, I.freeC, I.pin, I.hok, I.len⟩, q2, ⟨a1, a2, a3, a4, a5, a6⟩, ⟨b1, b2, b3, b4, b5, b6⟩, q3⟩⟩
theorem pe_callY {X : Cx} {E : XK} {k j : Nat} {x : Str} {ps : List Str} {sp : Sp} {p pos : Pos} {e : Expr} {es : List Expr} {t : TA} (hx : XOld X E) (h : HasX X.prog X.w X.K X.mg X.base k x ps sp) (hr : Room j X.A) (hkj : k ≤ j) (hg : Gl X x) (ha : PA X (e :: es) t)
    (hdb : (x == ("__debug__" : Str)) = false := by decide) (he : starEach (e :: es) X.env = (false, eval e X.env) :: starEach es X.env := by rfl) (hpl : (backTo pos (starEach es X.env)).any (·.1) = false := by rfl) :
    PE X (.Call (.Name x p) (e :: es) [] pos) (tCall sp [] E t) := by
  obtain ⟨f, fd, h1, h2, h3, h4⟩ := h
  exact pe_call h4 (hr.mono hkj) hg h1 h2 h3 .nil (fun pins σ H s e s' I q => hx.old e s' (flt_of hx.ex I q)) ha hdb he hpl
section
variable {X : Cx}
theorem call_isiX : CallR X (.builtin "isinstance") (fun xs H Q => ∃ x C c u b, xs = [.ref x, c] ∧ H x = some (.ext (ObAt x (.ref C))) ∧ ExcCls X.K C ∧ PySem.W.kitOne X.K (.ref C) u = some b ∧ (∀ v, RelV c v → v = u) ∧ Q (.bl b) H) := by
  intro pins s σ H xs us Q I r h
  obtain ⟨x, C, c, u, b, rfl, hx, ec, e, hu, q⟩ := h
  obtain ⟨v, w', rfl, rx, ru⟩ := vals2 r
  cases rx
  obtain rfl := hu w' ru
  obtain ⟨p, _, _⟩ := I.hok x _ hx
  exact PySem.W.kia_one (kitx_exc (x := x) ec) I.kIn p e (by simp) fun tk => ⟨.bl b, H, I.tok tk, rfl, q⟩
def rCount (K : PySem.W.Frag) : V → List V → Hp → VK → Prop := fun x vs H Q => ∃ l xs y, x = .ref l ∧ vs = [y] ∧ SqL K H l xs ∧ flatV y = true ∧ xs.all flatV = true ∧ Q (.int (xs.countP fun z => eqV z y)) H
theorem countP_eqU {x : V} : ∀ {xs : List V} {us : List Value}, Vals xs us → xs.all flatV = true → us.countP (eqU x) = xs.countP fun y => eqV y x
  | _, _, .nil, _ => rfl
  | y :: xs, u :: us, .cons r t, f => by
    rw [List.all_cons, Bool.and_eq_true] at f
    rw [List.countP_cons, List.countP_cons, eqU_of r f.1, countP_eqU t f.2]
theorem mt_count : MtR X "list.count" (rCount X.K) := by
  intro pins s σ H x xs v us Q I rx rs h
  obtain ⟨l, xs, y, rfl, rfl, hl, fy, fs, q⟩ := h
  cases rx
  obtain ⟨u, rfl, ru⟩ := vals1 rs
  obtain ⟨its, r, ⟨⟨cls, dd, data, sl⟩, n, e, hc, _, hd⟩, hz⟩ := I.list hl
  simp only at hc hd
  subst hc hd
  refine call_meets PySem.F.slot_list_count ⟨_, e, rfl⟩ PySem.F.entry_list_count (PySem.F.args_list_count_2 _ _) (SeqAt.list_countAt l its.toArray n dd sl u (eqU y)) ⟨e, fun z hz => mem_eqAt ru fy r fs z (by simpa using hz), ?_⟩
  refine ⟨.int _, H, I.tok _, ⟨_, rfl⟩, ?_⟩
  rw [show its.toArray.toList = its from rfl, countP_eqU r fs]
  exact q
def rIndex (K : PySem.W.Frag) : V → List V → Hp → VK → Prop := fun x vs H Q => ∃ l xs y j, x = .ref l ∧ vs = [y] ∧ SqL K H l xs ∧ flatV y = true ∧ xs.all flatV = true ∧ (∃ z, xs[j]? = some z ∧ eqV z y = true) ∧ (∀ m z, m < j → xs[m]? = some z → eqV z y = false) ∧ Q (.int (j : Nat)) H
theorem mt_index : MtR X "list.index" (rIndex X.K) := by
  intro pins s σ H x xs v us Q I rx rs h
  obtain ⟨l, xs, y, j, rfl, rfl, hl, fy, fs, ⟨z, hz1, hz2⟩, hno, q⟩ := h
  cases rx
  obtain ⟨u, rfl, ru⟩ := vals1 rs
  obtain ⟨its, r, ⟨⟨cls, dd, data, sl⟩, n, e, hc, _, hd⟩, hz⟩ := I.list hl
  simp only at hc hd
  subst hc hd
  have flatAt : ∀ {m z}, xs[m]? = some z → flatV z = true := fun {m z} h => (List.all_eq_true.mp fs) z (List.mem_of_getElem? h)
  have hj : j < its.length := by rw [← r.length]; exact (List.getElem?_eq_some_iff.mp hz1).1
  refine call_meets PySem.F.slot_list_index ⟨_, e, rfl⟩ PySem.F.entry_list_index (PySem.F.args_list_index_2 _ _) (SeqAt.list_indexAt l its.toArray n dd sl u (eqU y) j (by simpa using hj) ?_ ?_ ?_) ⟨e, fun z hz => mem_eqAt ru fy r fs z (by simpa using hz), ?_⟩
  · have := sizeLine_eq
    have := r.length
    omega
  · obtain ⟨w', e1, e2⟩ := r.get hz1
    have : its[j] = w' := (List.getElem?_eq_some_iff.mp e1).2
    show eqU y its[j] = true
    rw [this, eqU_of e2 (flatAt hz1)]; exact hz2
  · intro m hm hmj
    have hm' : m < xs.length := by rw [r.length]; simpa using hm
    have hx : xs[m]? = some xs[m] := List.getElem?_eq_getElem hm'
    obtain ⟨w', e1, e2⟩ := r.get hx
    have : its[m]'(by simpa using hm) = w' := (List.getElem?_eq_some_iff.mp e1).2
    show eqU y (its[m]'(by simpa using hm)) = false
    rw [this, eqU_of e2 (flatAt hx)]; exact hno m _ hmj hx
  · exact ⟨.int _, H, I.tok _, ⟨_, rfl⟩, q⟩
end
end L2
namespace L2
open PySem PySem.Spec PyProof.Rows
abbrev TJ := Str → St → Hp → (Str → Hp → Prop) → Prop
def PJ (X : Cx) (es : List Expr) (t : TJ) : Prop :=
  ∀ (pins : List (Addr × Obj)) (s : Shared) (σ : St) (H : Hp) (acc : Str) (Q : Str → Hp → Prop), Inv X pins σ H s → t acc σ H Q →
    Joins (model X.prog X.w) X.A X.xe (evalEach es X.env) acc (fun out s₁ => ∃ H', Inv X pins σ H' s₁ ∧ Q out H') s
section
variable {X : Cx}
theorem pj_nil : PJ X [] (fun acc _ H Q => Q acc H) := fun _ _ _ H _ _ I h => Joins_nil ⟨H, I, h⟩
theorem pj_cons {e : Expr} {te : TE} {rest : List Expr} {t : TJ} (he : PE X e te) (hr : PJ X rest t) : PJ X (e :: rest) (fun acc σ H Q => te σ H fun x H1 => ∃ y, x = .str y ∧ (acc ++ y).length ≤ sizeLine ∧ t (acc ++ y) σ H1 Q) := fun pins s σ H acc Q I h => by
  refine Joins_cons (thn (he pins s σ H _ I h) fun u s1 q => ?_)
  obtain ⟨x, H1, I1, r, y, rfl, hz, q⟩ := q
  obtain ⟨t', rfl⟩ := r
  exact ⟨y, t', rfl, hz, hr pins s1 σ H1 _ _ I1 q⟩
theorem pe_joinS {v1 v2 : Expr} {rest : List Expr} {pos : Pos} {t : TJ} (hj : PJ X (v1 :: v2 :: rest) t) : PE X (.JoinedStr (v1 :: v2 :: rest) pos) (fun σ H Q => t Str.empty σ H fun out H1 => out.length ≤ sizeLine ∧ Q (.str out) H1) := fun pins s σ H Q I h =>
  wpAny_JoinedStr (Joins.mono (fun o s1 ⟨H1, J, z, q⟩ => ⟨z, ⟨.str o, H1, J.tok _, ⟨_, rfl⟩, q⟩⟩) _ _ _ (hj pins s σ H Str.empty _ I h))
theorem pe_fmtI {e : Expr} {te : TE} {pos : Pos} (he : PE X e te) : PE X (.FormattedValue e (-1) none pos) (fun σ H Q => te σ H fun x H1 => ∃ i, x = .int i ∧ SmallI i ∧ Q (.str (toString i)) H1) := fun pins s σ H Q I h => by
  refine wpAny_FormattedValue_plain (thn (he pins s σ H _ I h) fun u s1 q => ?_)
  obtain ⟨x, H1, I1, r, i, rfl, hi, q⟩ := q
  obtain ⟨t', rfl⟩ := r
  exact wpAny_formatField_int hi ⟨.str _, H1, I1.tok _, ⟨_, rfl⟩, q⟩
theorem vals_strs : ∀ {ys : List Str} {us : List Value}, Vals (ys.map V.str) us → StrsAre us ys
  | [], _, .nil => .nil
  | y :: ys, _, .cons r t => by
    obtain ⟨k, rfl⟩ := r
    exact .cons _ _ (vals_strs t)
def rJoin (K : PySem.W.Frag) : V → List V → Hp → VK → Prop := fun x vs H Q => ∃ sep l ys, x = .str sep ∧ vs = [.ref l] ∧ SqL K H l (ys.map V.str) ∧ (ys.map (·.length)).sum + ys.length * sep.length ≤ 16777216 ∧ Q (.str (Txt.join sep ys)) H
theorem mt_join : MtR X "str.join" (rJoin X.K) := by
  intro pins s σ H x xs v us Q I rx rs h
  obtain ⟨sep, l, ys, rfl, rfl, hl, hz, q⟩ := h
  obtain ⟨t, rfl⟩ := rx
  obtain ⟨u, rfl, ru⟩ := vals1 rs
  cases ru
  obtain ⟨its, r, pl, _⟩ := I.list hl
  exact join_list pl.isList (vals_strs r) hz fun t' k => ⟨.str _, H, I.tok _, ⟨_, rfl⟩, q⟩
end
end L2
namespace L2
open PySem PySem.Spec PyProof.Rows Builtin Builtin.Str
section
variable {X : Cx}
def lstOf (l : List (Str × Tok)) : Obj := { cls := .type "list", data := .seq (strValues l).toArray }
theorem call_splitP {prog : Program} {w : World} {A : Around} {E : Value → Shared → Prop} {s : Shared} {x y : Str} {t u : Tok} {Q : Value → Shared → Prop} (hy : (y.length == 0) = false) (hz : x.length + 2 ≤ sizeLine)
    (h : ∀ l k, l.map (·.1) = Txt.split x y → Q (.ref s.heap.objs.size) { s with heap := s.heap.push (lstOf l), toks := k }) :
    wpAny (model prog w) A (call (.builtin "str.split") [.str x t, .str y u]) Q E s := by
  have hn := length_partsBetween x (occurrences x y 0 x.length (x.length + 1)) y.length
  have ho := StrLaws.occ_length_le x y 0 x.length (x.length + 1)
  by_cases h1 : (decide (x.length < y.length) || decide (strKind x < strKind y)) = true
  · have e : [x] = Txt.split x y := (if_pos h1).symm
    exact call_meets F.slot_str_split (typeIs_str _ _ _) F.entry_str_split (F.args_str_split_2 _ _)
      (meets_str_split_cannot_occur x y t u h1) (h [(x, t)] s.toks e)
  · have h1' := eq_false_of_ne_true h1
    by_cases hf : (occurrences x y 0 x.length (x.length + 1)).isEmpty = true
    · have e : [x] = Txt.split x y := ((if_neg h1).trans (if_pos hf)).symm
      exact call_meets F.slot_str_split (typeIs_str _ _ _) F.entry_str_split (F.args_str_split_2 _ _)
        (meets_str_split_not_found x y t u h1' hy hf) (h [(x, t)] s.toks e)
    · have e : partsBetween x (occurrences x y 0 x.length (x.length + 1)) y.length = Txt.split x y := ((if_neg h1).trans (if_neg hf)).symm
      refine call_meets F.slot_str_split (typeIs_str _ _ _) F.entry_str_split (F.args_str_split_2 _ _)
        (meets_str_split_sep x y t u h1' hy (eq_false_of_ne_true hf) (by omega) (by omega)) ?_
      have q := h (numbered s.toks (partsBetween x (occurrences x y 0 x.length (x.length + 1)) y.length)) (s.toks + (partsBetween x (occurrences x y 0 x.length (x.length + 1)) y.length).length) ((numbered_texts _ _).trans e)
      unfold lstOf at q
      rw [← strsFrom_eq] at q
      exact q
theorem vals_numb : ∀ (l : List (Str × Tok)), Vals ((l.map (·.1)).map V.str) (strValues l)
  | [] => .nil
  | (_, k) :: r => .cons ⟨k, rfl⟩ (vals_numb r)
def rSplit : V → List V → Hp → VK → Prop := fun x vs H Q => ∃ t y, x = .str t ∧ vs = [.str y] ∧ (y.length == 0) = false ∧ t.length + 2 ≤ sizeLine ∧ ∀ l, H l = none → Q (.ref l) (upd H l (.lst ((Txt.split t y).map V.str)))
theorem mt_split : MtR X "str.split" rSplit := by
  intro pins s σ H x xs v us Q I rx rs h
  obtain ⟨t, y, rfl, rfl, hy, hz, q⟩ := h
  obtain ⟨k, rfl⟩ := rx
  obtain ⟨u, rfl, ru⟩ := vals1 rs
  obtain ⟨k', rfl⟩ := ru
  refine call_splitP hy hz fun l k e => ?_
  have hv := vals_numb l
  rw [e] at hv
  refine ⟨.ref _, _, I.lnew (t' := k) hv ?_, rfl, q _ I.fresh⟩
  rw [List.length_map]
  exact Nat.le_trans (split_le t y) hz
end
end L2
namespace L2
open PySem PySem.Spec PyProof.Rows
def ExcV (h : Heap) (x T : Addr) (cls v : Value) : Prop :=
  ∃ oe vs oT ts a0, h.get? x = some oe ∧ oe.cls = cls ∧ vs[0]? = some a0 ∧ oe.data = .fields vs ∧ vs[1]? = some (.ref T) ∧
    T ≠ x ∧ h.get? T = some oT ∧ oT.data = .fields ts ∧ ts[3]? = some v
def FlV (v : Value) : Prop := v = .none ∨ ∃ f : Addr, v = rawInt f
def FltV (X : Cx) (E : XK) (e : Value) (s : Shared) : Prop :=
  ∃ x T cls H pins σ v, e = .ref x ∧ Inv X pins σ H s ∧ ExcV s.heap x T cls v ∧ FlV v ∧ Own1 X pins H x ∧ Own1 X pins H T ∧ E cls none H
section
variable {X : Cx} {pins : List (Addr × Obj)} {σ : St} {H H' : Hp} {s : Shared} {h' : Heap} {E : XK}
theorem Inv.notedV {ls : List Addr} {x : Addr} {cls a0 v : Value} (I : Inv X pins σ H s) (hex : X.ex = []) (hls : ∀ b ∈ ls, b ∈ frs X.stack ∨ Own1 X pins H b)
    (st : (PySem.W.hideAll s.heap ls).StaysIn h') (tr : h'.TracedAtW (PySem.W.hideAll s.heap ls) x cls a0 v) (up : s.heap.UpToSlots h') :
    Inv X pins σ H { s with heap := h' } ∧ ∃ T, ExcV h' x T cls v ∧ Own1 X pins H T := by
  obtain ⟨oe, vs, T, oT, ts, e1, ⟨e2, e3⟩, e4, e5, e6, e7, e8, e9, e10⟩ := tr
  have keep : ∀ b o, b ∉ ls → s.heap.get? b = some o → h'.get? b = some o := fun b o hb e => st b o (PySem.W.hideAll_get _ e hb)
  have frame : ∀ b, b ∈ frs X.stack → ∃ o, s.heap.get? b = some o ∧ ∀ ws, o.data ≠ .fields ws := fun b hb => (I.stack.mem hb).2
  have tr : ∀ b u, H b = some u → b ∉ ls := fun b u e hb => by
    rcases hls b hb with z | z
    · rw [I.stkFree b z] at e; cases e
    · rw [z.free] at e; cases e
  have hT : H T = none := by
    cases q : H T with
    | none => rfl
    | some u =>
      obtain ⟨ob, z⟩ := (I.hok T u q).here
      have := PySem.W.hideAll_get ls z (tr T u q)
      rw [e6] at this; cases this
  have notFr : T ∉ frs X.stack := fun z => by
    obtain ⟨o, ho, hd⟩ := frame T z
    obtain ⟨sl, q⟩ := up T o ho hd
    rw [e8] at q
    cases q
    exact hd ts e9
  have ownT : Own1 X pins H T := by
    by_cases hl : T ∈ ls
    · rcases hls T hl with z | z
      · exact absurd z notFr
      · exact z
    · refine I.own1 hex (H' := H) ?_ hT
      cases q : s.heap.get? T with
      | none => rfl
      | some o =>
        have := PySem.W.hideAll_get ls q hl
        rw [e6] at this; cases this
  refine ⟨?_, T, ⟨oe, vs, oT, ts, a0, e1, e2, e3, e4, e5, e7, e8, e9, e10⟩, ownT⟩
  have slotOf : ∀ b o, b ∈ ls → b ∈ frs X.stack → s.heap.get? b = some o → ∃ sl, h'.get? b = some { o with slots := sl } := fun b o _ hb e => by
    obtain ⟨o', ho, hd⟩ := frame b hb
    rw [e] at ho; cases ho
    exact up b o e hd
  have J := Inv.stepO (h' := h') (g' := s.gens) (d' := s.drawn) (t' := s.toks) (ch := ls.filter fun b => decide (b ∉ frs X.stack)) I (fun b hb => ?_) (fun b o n1 n2 n3 e => ?_) (fun b o n1 n2 n3 e => ?_) (fun m hm => ?_) (fun b u e => ?_) I.bare
  · exact J
  · obtain ⟨h1, h2⟩ := List.mem_filter.mp hb
    rcases hls b h1 with z | z
    · exact absurd z (of_decide_eq_true h2)
    · exact z
  · by_cases hb : b ∈ ls
    · have : b ∈ frs X.stack := Classical.byContradiction fun z => n3 (List.mem_filter.mpr ⟨hb, decide_eq_true z⟩)
      rcases List.mem_cons.mp (I.stkSub b this) with z | z
      · exact absurd z n1
      · exact absurd z n2
    · exact keep b o hb e
  · by_cases hb : b ∈ ls
    · by_cases hs : b ∈ frs X.stack
      · exact slotOf b o hb hs e
      · exact absurd (List.mem_filter.mpr ⟨hb, decide_eq_true hs⟩) n3
    · exact ⟨o.slots, keep b o hb e⟩
  · exact up.ns hm
  · refine (I.hok b u e).stay (fun c v hc q => ?_) (fun _ q => q) fun _ _ q => q
    rcases hc with z | z
    · exact keep c v (z ▸ tr b u e) q
    · exact keep c v (tr c _ z) q
end
section
variable {M : Model} {A : Around} {E : Value → Shared → Prop} {s : Shared}
theorem leaves_any {base : Heap} {env : Env} {outer : List Env} {L e : Addr} {cls a0 v : Value} {Q : Unit → Shared → Prop} (hfr : A.frames = some (env :: outer)) (hf : env.frame = some L) (hv : FlV v)
    (st : base.StaysIn s.heap) (hen : base.get? e = none) (hl : s.heap.FunFrames base (env :: outer)) (ht : s.heap.TracedAtW base e cls a0 v)
    (hQ : ∀ h', Heap.FlyingW base outer e cls a0 h' → s.heap.UpToSlots h' → Q () { s with heap := h' }) : wpAny M A (leaving env (.ref e)) Q E s := by
  by_cases hL : v = rawInt L
  · subst hL
    unfold leaving
    refine wpAny_bind (wpAny_noteFrame_againW hf ht (wpAny_landsW ⟨st, hen, hl, ht⟩ fun h' hfl up => ?_))
    obtain ⟨k1, k2, ⟨_, _, k3⟩, k4⟩ := hfl
    exact hQ h' ⟨k1, k2, k3, k4⟩ up
  · obtain ⟨oe, vs, T, oT, ts, he, ⟨rfl, h0⟩, hd, h1, hnT, hTe, hT, hdT, h3⟩ := ht
    have hb : ¬ (v == rawInt L) = true := fun z => by
      rcases hv with rfl | ⟨f, rfl⟩
      · simp [rawInt] at z
      · simp [rawInt] at z hL
        exact hL z
    unfold leaving noteFrame
    simp only [hf]
    refine wpAny_bind (wpAny_bind (wpAny_field he hd h1 ?_))
    rw [if_pos (by simp : (Value.ref T != Value.none) = true)]
    refine wpAny_bind (wpAny_field hT hdT h3 ?_)
    rw [if_neg hb]
    refine wpAny_bind (wpAny_setField hT hdT (Array.getElem?_eq_some_iff.mp h3).1 ?_)
    have oth : ∀ b, b ≠ T → (s.heap.update T (Obj.mapFields (·.setIfInBounds 3 Value.none))).get? b = s.heap.get? b :=
      fun b nb => Heap.get?_update_other _ _ (Ne.symm nb)
    have nr : ∀ b o, s.heap.get? b = some o → (∀ vs, o.data ≠ .fields vs) → b ≠ T := fun b o eb nf z => by
      rw [z, hT] at eb
      cases eb
      exact nf ts hdT
    have kb : base.StaysIn (s.heap.update T (Obj.mapFields (·.setIfInBounds 3 Value.none))) := fun b o eb =>
      (oth b fun z => by rw [z, hnT] at eb; cases eb).trans (st b o eb)
    refine wpAny_newEntryW hfr (hl.of_keeps fun b o eb nf => ⟨o, (oth b (nr b o eb nf)).trans eb, rfl⟩) hf ((oth e (Ne.symm hTe)).trans he)
      kb hen hd (Array.getElem?_eq_some_iff.mp h1).1 h0 fun h' hL' => ?_
    obtain ⟨x1, ⟨_, _, x2⟩, x3, x4⟩ := hL'
    exact hQ h' ⟨x1, hen, x2, x3⟩ fun b o eb nf => x4 b o ((oth b (nr b o eb nf)).trans eb) nf
end
section
variable {X : Cx} {pins : List (Addr × Obj)} {σ : St} {H : Hp} {s : Shared}
theorem Inv.flyV (I : Inv X pins σ H s) {x T : Addr} {cls v : Value} (ex : ExcV s.heap x T cls v) :
    ∃ a0, (PySem.W.hideAll s.heap (x :: T :: frs X.stack)).StaysIn s.heap ∧ (PySem.W.hideAll s.heap (x :: T :: frs X.stack)).get? x = none ∧ s.heap.FunFrames (PySem.W.hideAll s.heap (x :: T :: frs X.stack)) X.stack ∧
      s.heap.TracedAtW (PySem.W.hideAll s.heap (x :: T :: frs X.stack)) x cls a0 v := by
  obtain ⟨oe, vs, oT, ts, a0, e1, e2, e3, e4, e5, e7, e8, e9, e10⟩ := ex
  refine ⟨a0, fun b o q => PySem.W.of_hideAll _ q, PySem.W.hideAll_none _ (by simp), PySem.W.funFrames_hide I.stack fun env he a ha => ?_, oe, vs, T, oT, ts, e1, ⟨e2, e3⟩, e4, e5, PySem.W.hideAll_none _ (by simp), e7, e8, e9, e10⟩
  exact List.mem_cons_of_mem _ (List.mem_cons_of_mem _ (List.mem_filterMap.mpr ⟨env, he, ha⟩))
end
def XOkV (X : Cx) (E : XK) : Prop := ∀ e s, FltV X E e s → X.xe e s
section
variable {P : Program} {w : World} {K : PySem.W.Frag} {mg : Str → Option Value} {base : Heap} {N : List Str} {qual : Str} {scope : Scope} {f : Addr} {cd : Value} {A : Around} {outer : List Env} {s : Shared} {H : Hp} {E : XK}
theorem xokV_def : XOkV (cxOf (CX1 P w) P w K mg base N qual scope f cd A outer s H E) E := fun e s' h => by
  obtain ⟨x, T, cls, H', pins, σ, v, rfl, I, ex, hv, ox, oT, q⟩ := h
  obtain ⟨a0, f1, f2, f3, f4⟩ := I.flyV ex
  refine leaves_any (L := s.heap.objs.size) I.ok.frames rfl hv f1 f2 f3 f4 fun h' fl' up => ?_
  have hls : ∀ b ∈ x :: T :: frs (cxOf (CX1 P w) P w K mg base N qual scope f cd A outer s H E).stack, b ∈ frs (cxOf (CX1 P w) P w K mg base N qual scope f cd A outer s H E).stack ∨ Own1 (cxOf (CX1 P w) P w K mg base N qual scope f cd A outer s H E) pins H' b := fun b hb => by
    rcases List.mem_cons.mp hb with rfl | hb
    · exact .inr ox
    · rcases List.mem_cons.mp hb with rfl | hb
      · exact .inr oT
      · exact .inl hb
  obtain ⟨J, T', ex', oT'⟩ := I.noted rfl hls (fun b hb => List.mem_cons_of_mem _ (List.mem_cons_of_mem _ hb)) fl' up
  exact ⟨x, T', cls, H', rfl, J.os, J.bare, J.base, J.hok, ex', ox.free, oT'.free, ox.new, oT'.new, q⟩
end
end L2
namespace L2
open PySem PySem.Spec PyProof.Rows
section
variable {X : Cx} {pins : List (Addr × Obj)} {σ : St} {H : Hp} {s : Shared} {E : XK}
theorem noted_at {x T : Addr} {cls : Value} {F : Value → Shared → Prop} {Q : Shared → Prop} (hex : X.ex = []) (hst : X.stack = X.env :: X.outer ∧ X.env.frame = some X.env.locals) (I : Inv X pins σ H s) (ex : ExcAt s.heap x T cls) (ox : Own1 X pins H x) (oT : Own1 X pins H T)
    (k : ∀ s' T', s.heap.UpToSlots s'.heap → Inv X pins σ H s' → ExcV s'.heap x T' cls (rawInt X.env.locals) → Own1 X pins H T' → Q s') :
    wpAny (model X.prog X.w) X.A (noteFrame (.ref x) X.env) (fun _ s' => Q s') F s := by
  obtain ⟨a0, fl⟩ := I.flying ex
  have hfr := I.ok.frames
  rw [hst.1] at hfr fl
  refine wpAny_looks_onW (L := X.env.locals) hfr hst.2 fl fun h' hh up => ?_
  obtain ⟨k1, _, _, k4⟩ := hh
  have hls : ∀ b ∈ x :: T :: frs (X.env :: X.outer), b ∈ frs X.stack ∨ Own1 X pins H b := fun b hb => by
    rcases List.mem_cons.mp hb with rfl | hb
    · exact .inr ox
    · rcases List.mem_cons.mp hb with rfl | hb
      · exact .inr oT
      · exact .inl (by rw [hst.1]; exact hb)
  obtain ⟨J, T', ex', oT'⟩ := I.notedV hex hls k1 k4 up
  exact k _ T' up J ex' oT'
theorem passOn_v {what : String} {cenv : Env} {e : Value} (hV : XOkV X E) (h : FltV X E e s) : wpAny (model X.prog X.w) X.A (passOn what e cenv : Sem Value) (fun _ _ => False) X.xe s := by
  obtain ⟨x, T, cls, H, pins, σ, v, rfl, I, ⟨oe, vs, oT, ts, a0, e1, e2, e3, e4, e5, e7, e8, e9, e10⟩, hv, ox, ot, q⟩ := h
  have hsz : 3 < ts.size := (Array.getElem?_eq_some_iff.mp e10).1
  have fin : ∀ v', FlV v' → FltV X E (.ref x) { s with heap := s.heap.update T (Obj.mapFields (·.setIfInBounds 3 v')) } := fun v' hv' => by
    have oth : ∀ b, b ≠ T → (s.heap.update T (Obj.mapFields (·.setIfInBounds 3 v'))).get? b = s.heap.get? b := fun b nb => Heap.get?_update_other _ _ (Ne.symm nb)
    have nT : ∀ b u, H b = some u → b ≠ T := fun b u eb z => by rw [z, ot.free] at eb; cases eb
    have up : s.heap.UpToSlots (s.heap.update T (Obj.mapFields (·.setIfInBounds 3 v'))) := fun b o eb nf => by
      refine ⟨o.slots, (oth b fun z => ?_).trans eb⟩
      rw [z, e8] at eb
      cases eb
      exact nf ts e9
    have J := Inv.stepO (h' := s.heap.update T (Obj.mapFields (·.setIfInBounds 3 v'))) (g' := s.gens) (d' := s.drawn) (t' := s.toks) (ch := [T]) I (fun b hb => by rw [List.mem_singleton.mp hb]; exact ot)
      (fun b o _ _ n3 eb => (oth b fun z => n3 (List.mem_singleton.mpr z)).trans eb) (fun b o _ _ n3 eb => ⟨o.slots, (oth b fun z => n3 (List.mem_singleton.mpr z)).trans eb⟩) (fun m hm => up.ns hm)
      (fun b u eb => (I.hok b u eb).stay (fun c w hc qc => by
        rcases hc with z | z
        · exact (oth c (z ▸ nT b u eb)).trans qc
        · exact (oth c (nT c _ z)).trans qc) (fun _ z => z) fun _ _ z => z) I.bare
    exact ⟨x, T, cls, H, pins, σ, v', rfl, J, ⟨oe, vs, _, _, a0, (oth x (Ne.symm e7)).trans e1, e2, e3, e4, e5, e7, Heap.get?_update_self _ e8 (Obj.isFreed_of_fields (Obj.data_mapFields e9 _)), Obj.data_mapFields e9 _, by simp [hsz]⟩, hv', ox, ot, q⟩
  have flight : wpAny (model X.prog X.w) X.A (setFlight (.ref x) cenv.frame) (fun _ s' => wpAny (model X.prog X.w) X.A (throw (.ref x) : Sem Value) (fun _ _ => False) X.xe s') X.xe s := by
    unfold setFlight
    refine wpAny_bind (wpAny_field e1 e4 e5 ?_)
    rw [if_pos (by simp : (Value.ref T != Value.none) = true)]
    refine wpAny_setField e8 e9 hsz (wpAny_throw (hV _ _ (fin _ ?_)))
    cases cenv.frame with
    | none => exact .inl rfl
    | some f => exact .inr ⟨f, rfl⟩
  unfold PySem.passOn
  refine wpAny_bind (wpAny_field e1 e4 e5 ?_)
  rw [if_neg (by simp : ¬ (Value.ref T == Value.none) = true)]
  first
    | exact wpAny_bind (wpAny_pure (wpAny_bind flight))
    | exact wpAny_bind flight
end
def CompErr (X : Cx) (pins : List (Addr × Obj)) (σ : St) (E : XK) (e : Value) (C : Addr) (s : Shared) : Prop :=
  ∃ x T cls H v, e = .ref x ∧ Inv X pins σ H s ∧ ExcV s.heap x T cls v ∧ FlV v ∧ Own1 X pins H x ∧ Own1 X pins H T ∧ E cls none H ∧ H C = none ∧ (∃ m, s.heap.Ns C m) ∧ C ≠ X.env.locals ∧ X.s₀.heap.objs.size ≤ C ∧
    (∀ x c, X.env.cells.lookup x = some c → c ≠ C) ∧ ∀ p ∈ X.pn ++ pins, p.1 ≠ C
theorem comp_err {X : Cx} {pins : List (Addr × Obj)} {σ : St} {E : XK} {e : Value} {C : Addr} {s : Shared} {use : Option (Value → Sem Unit)} {Q : Value → Shared → Prop} {acc : Value} (hV : XOkV X E) (h : CompErr X pins σ E e C s) :
    compPost (model X.prog X.w) X.A X.xe use Q acc C (.error e) s := by
  obtain ⟨x, T, cls, H, v, rfl, I, ex, hv, ox, oT, q, hC, ⟨m, hm⟩, ne, ab, ce, pn⟩ := h
  have g : ∃ m, s.heap.Ns C m ∧ ∀ h', Heap.SameBut C s.heap h' → ∀ cenv : Env, cenv.locals = C → wpAny (model X.prog X.w) X.A (passOn "comprehension.variables-let-go" (.ref x) cenv : Sem Value) (fun _ _ => False) X.xe { s with heap := h' } := by
    refine ⟨m, hm, fun h' sb cenv _ => passOn_v hV ?_⟩
    obtain ⟨oc, es, ep, c1, c2, _⟩ := hm
    obtain ⟨oe, vs, oT', ts, a0, e1, e2, e3, e4, e5, e7, e8, e9, e10⟩ := ex
    have nx : x ≠ C := fun z => by rw [z, c1] at e1; cases e1; rw [c2] at e4; cases e4
    have nT : T ≠ C := fun z => by rw [z, c1] at e8; cases e8; rw [c2] at e9; cases e9
    exact ⟨x, T, cls, H, pins, σ, v, rfl, I.turned (t' := s.toks) (it := C) (fun b o hb eb => (sb.2 b hb).trans eb) hC ne (.inr ab) ce pn,
      ⟨oe, vs, oT', ts, a0, (sb.2 x nx).trans e1, e2, e3, e4, e5, e7, (sb.2 T nT).trans e8, e9, e10⟩, hv, ox, oT, q⟩
  cases use <;> exact g
def cxCompX (X : Cx) (M : List Str) (pins : List (Addr × Obj)) (xs : List Str) (scope : Scope) (cl : List (Str × Addr)) (C : Addr) (fp : List Addr) (s : Shared) (H : Hp) (xe : Value → Shared → Prop) : Cx := { cxComp X M pins xs scope cl C fp s H with xe := xe }
structure XOkC (X : Cx) (E : XK) : Prop where
  ex : ∀ b ∈ X.ex, ∃ o, (b, o) ∈ X.pn
  old : ∀ e s, Flt X E e s → X.xe e s
section
variable {X : Cx} {pins : List (Addr × Obj)} {σ : St} {H H' : Hp} {s s' : Shared} {E : XK} {e : Value}
theorem Inv.own1C (I : Inv X pins σ H s) (hex : ∀ b ∈ X.ex, ∃ o, (b, o) ∈ X.pn) {b : Addr} (hb : s.heap.get? b = none) (hn : H' b = none) : Own1 X pins H' b := by
  have old : X.s₀.heap.get? b = none := by
    cases q : X.s₀.heap.get? b with
    | none => rfl
    | some o =>
      by_cases hx : b ∈ X.ex
      · obtain ⟨o', ho'⟩ := hex b hx
        have := (I.pin (b, o') (List.mem_append_left _ ho')).1
        rw [hb] at this; cases this
      · obtain ⟨o', e⟩ := I.base.there b o q hx
        rw [hb] at e; cases e
  refine ⟨hn, old, fun z => ?_, fun z => ?_, fun y c e z => ?_, fun p hp z => ?_⟩
  · obtain ⟨m, ⟨o, _, _, ho, _⟩, _⟩ := I.loc
    rw [← z, hb] at ho; cases ho
  · obtain ⟨_, o, ho, _⟩ := I.ok.funs.mem z
    rw [old] at ho; cases ho
  · obtain ⟨v, o, ho, _⟩ := I.cell y c e
    rw [z, hb] at ho; cases ho
  · have := (I.pin p hp).1
    rw [z, hb] at this; cases this
theorem flt_ofC (hex : ∀ b ∈ X.ex, ∃ o, (b, o) ∈ X.pn) (I : Inv X pins σ H s) (h : CX1 X.prog X.w X.stack H s E e s') : Flt X E e s' := by
  obtain ⟨x, T, cls, H', rfl, os, bare, un, hok, ex, nx, nT, fx, fT, q⟩ := h
  have J : Inv X pins σ H' s' := by
    obtain ⟨hh, g, d, t, os'⟩ := s'
    obtain rfl : os' = s.os := os
    exact I.call (h' := hh) (g' := g) (d' := d) (t' := t) (ch := []) un hok bare (fun b z => absurd z (by simp))
  exact ⟨x, T, cls, H', pins, σ, rfl, J, ex, I.own1C hex fx nx, I.own1C hex fT nT, q⟩
end
theorem pe_callC {X : Cx} {E : XK} {k j : Nat} {x : Str} {ps : List Str} {sp : Sp} {p pos : Pos} {e : Expr} {es : List Expr} {t : TA} (hx : XOkC X E) (h : HasX X.prog X.w X.K X.mg X.base k x ps sp) (hr : Room j X.A) (hkj : k ≤ j) (hg : Gl X x) (ha : PA X (e :: es) t)
    (hdb : (x == ("__debug__" : Str)) = false := by decide) (he : starEach (e :: es) X.env = (false, eval e X.env) :: starEach es X.env := by rfl) (hpl : (backTo pos (starEach es X.env)).any (·.1) = false := by rfl) :
    PE X (.Call (.Name x p) (e :: es) [] pos) (tCall sp [] E t) := by
  obtain ⟨f, fd, h1, h2, h3, h4⟩ := h
  exact pe_call h4 (hr.mono hkj) hg h1 h2 h3 .nil (fun pins σ H s e s' I q => hx.old e s' (flt_ofC hx.ex I q)) ha hdb he hpl
section
variable {X : Cx} {M : List Str} {pins pl : List (Addr × Obj)} {xs : List Str} {scope : Scope} {cl : List (Str × Addr)} {C : Addr} {fp : List Addr} {s2 s : Shared} {H2 H : Hp} {σ : St} {xe : Value → Shared → Prop}
theorem repin (I : Inv (cxComp X M pins xs scope cl C fp s2 H2) pl σ H s) : Inv (cxCompX X M (pins ++ pl) xs scope cl C fp s2 H2 xe) [] σ H s :=
  ⟨⟨I.ok.mod, I.ok.kind, I.ok.glob, I.ok.blt, I.ok.above, I.ok.inj, I.ok.has, I.ok.cab, I.ok.hd, I.ok.frames, I.ok.stk, I.ok.exf, I.ok.bs, I.ok.bsz, I.ok.noex, I.ok.exfs, I.ok.funs, I.ok.frf⟩, I.os, I.bare, I.base, I.loc, I.cell, I.free, I.freeC,
    fun p hp => I.pin p (by
      have h : p ∈ (X.pn ++ (pins ++ pl)) ++ [] := hp
      rw [List.append_nil, ← List.append_assoc] at h
      exact h), I.hok, I.len⟩
theorem unpin (I : Inv (cxCompX X M (pins ++ pl) xs scope cl C fp s2 H2 xe) [] σ H s) : Inv (cxComp X M pins xs scope cl C fp s2 H2) pl σ H s :=
  ⟨⟨I.ok.mod, I.ok.kind, I.ok.glob, I.ok.blt, I.ok.above, I.ok.inj, I.ok.has, I.ok.cab, I.ok.hd, I.ok.frames, I.ok.stk, I.ok.exf, I.ok.bs, I.ok.bsz, I.ok.noex, I.ok.exfs, I.ok.funs, I.ok.frf⟩, I.os, I.bare, I.base, I.loc, I.cell, I.free, I.freeC,
    fun p hp => I.pin p (by
      have h : p ∈ (X.pn ++ pins) ++ pl := hp
      show p ∈ (X.pn ++ (pins ++ pl)) ++ []
      rw [List.append_nil, ← List.append_assoc]
      exact h), I.hok, I.len⟩
end
theorem comp_loopX {prog : Program} {w : World} {A : Around} {R : Result → Shared → Prop} {s : Shared} {elt target iter : Expr} {ifs : List Expr} {scope : Scope} {pos : Pos} {it acc : Value} {env : Env} (I : Nat → Shared → Prop)
    (turn : ∀ n s, I n s → wpAny (model prog w) A (pyNext it) (fun r s₁ => match r with
      | none => R (.ok .next) s₁
      | some v => wpAny (model prog w) A (letOwnedTupleGo target it v) (fun _ s₁' => wpAny (model prog w) A (assign target env v) (fun _ s₂ =>
          wpAny (model prog w) A (forIn ifs true fun c r => if r = true then do let ok ← isTrue c env (eval c env); pure (ForInStep.yield ok) else pure (ForInStep.yield r)) (fun ok s₃ =>
            if ok = true then wpAny (model prog w) A (eval elt env) (fun x s₄ =>
              wpAny (model prog w) A (call (.builtin "list.append") [acc, x]) (fun _ s₅ => ∃ m, m < n ∧ I m s₅) (fun _ _ => False) s₄) (notedBy (model prog w) A env fun x s' => R (.error x) s') s₃
            else ∃ m, m < n ∧ I m s₃) (notedBy (model prog w) A env fun x s' => R (.error x) s') s₂) (notedBy (model prog w) A env fun x s' => R (.error x) s') s₁') (fun _ _ => False) s₁) (fun _ _ => False) s)
    (n : Nat) (h : I n s) :
    codeAny (model prog w) A (.compLoop (.ListComp elt [⟨target, iter, ifs, 0⟩] scope pos) 0 it acc env) R s := by
  refine codeAny_loop rfl I (fun n s hI => ?_) n h
  show wpAny _ A ((compTurn (.ListComp elt [⟨target, iter, ifs, 0⟩] scope pos) 0 it acc env).onRaise (fun x => do noteFrame x env; theTreesLotGoes x)) _ _ s
  refine wpAny_noted ?_
  rw [compTurn_list]
  refine wpAny_bind (wpAny_standAt (wpAny_bind (wpAny_mono (turn n s hI) (fun r s₁ h₁ => ?_) fun _ _ h' => False.elim h')))
  cases r with
  | none => exact wpAny_pure h₁
  | some v =>
    refine wpAny_bind (wpAny_mono h₁ (fun _ s₁' h₁' => ?_) fun _ _ h' => False.elim h')
    refine wpAny_bind (wpAny_mono h₁' (fun _ s₂ h₂ => wpAny_bind (wpAny_mono h₂ (fun ok s₃ h₃ => ?_) fun _ _ h' => h')) fun _ _ h' => h')
    cases ok with
    | false => exact wpAny_pure ⟨rfl, h₃⟩
    | true =>
      exact wpAny_bind (wpAny_bind (wpAny_mono h₃ (fun x s₄ h₄ => wpAny_bind (wpAny_mono h₄ (fun _ s₅ h₅ => wpAny_pure (wpAny_pure ⟨rfl, h₅⟩)) fun _ _ h' => False.elim h')) fun _ _ h' => h'))
theorem comp_elX {X : Cx} {ifs : List Expr} {tc : Option TT} {elt : Expr} {te : TE} {pins : List (Addr × Obj)} {s : Shared} {σ : St} {H : Hp} {yes : V → Hp → Prop} {no : Hp → Prop} {acc : Value} {R : Shared → Prop}
    (hc : PIf X ifs tc) (he : PE X elt te) (I : Inv X pins σ H s) (h : tEl tc te σ H yes no)
    (hy : ∀ v u H' s', Inv X pins σ H' s' → RelV v u → yes v H' → wpAny (model X.prog X.w) X.A (call (.builtin "list.append") [acc, u]) (fun _ s₅ => R s₅) (fun _ _ => False) s')
    (hn : ∀ H' s', Inv X pins σ H' s' → no H' → R s') :
    wpAny (model X.prog X.w) X.A (forIn ifs true fun c r => if r = true then do let ok ← isTrue c X.env (eval c X.env); pure (ForInStep.yield ok) else pure (ForInStep.yield r)) (fun ok s₃ =>
            if ok = true then wpAny (model X.prog X.w) X.A (eval elt X.env) (fun x s₄ =>
              wpAny (model X.prog X.w) X.A (call (.builtin "list.append") [acc, x]) (fun _ s₅ => R s₅) (fun _ _ => False) s₄) X.xe s₃
            else R s₃) X.xe s := by
  cases hc with
  | no =>
    refine wpAny_tests_nil ?_
    rw [if_pos rfl]
    have q := he pins s σ H _ I h
    exact thn q fun u s' ⟨v, H', I', r, z⟩ => hy v u H' s' I' r z
  | @one c t hc =>
    refine wpAny_tests_one ?_
    have q := hc pins s σ H _ I h
    refine thn q fun b s1 ⟨H1, I1, z⟩ => ?_
    cases b with
    | false =>
      rw [if_neg Bool.false_ne_true] at z ⊢
      exact hn H1 s1 I1 z
    | true =>
      rw [if_pos rfl] at z ⊢
      have q2 := he pins s1 σ H1 _ I1 z
      exact thn q2 fun u s' ⟨v, H', I', r, z⟩ => hy v u H' s' I' r z
theorem comp_coreX {X : Cx} {M : List Str} {elt tg iter : Expr} {ifs : List Expr} {scope : Scope} {pos : Pos} {xs : List Str} {g : TG} {tc : Option TT} {te : TE} {cl : List (Str × Addr)} {pins : List (Addr × Obj)} {σ : St} {F : List V → Hp → Prop} {itv : Value} {s2 : Shared} {RR : Value → Addr → Result → Shared → Prop} {E : Value → Shared → Prop}
    {E' : XK} (hex : X.ex = []) (hst : X.stack = X.env :: X.outer ∧ X.env.frame = some X.env.locals) (hcalm : X.calm = true) (S : CompScope X M xs scope) (lk : ∀ y c, cl.lookup y = some c → X.env.cells.lookup y = some c) (has : ∀ x ∈ scope.names, x.2 = .free → ∃ c, cl.lookup x.1 = some c)
    (hg : ∀ pins cl C fp s H xe, PG (cxCompX X M pins xs scope cl C fp s H xe) tg g) (hc : ∀ pins cl C fp s H xe, PIf (cxCompX X M pins xs scope cl C fp s H xe) ifs tc)
    (he : ∀ pins cl C fp s H xe, XOkC (cxCompX X M pins xs scope cl C fp s H xe) E' → PE (cxCompX X M pins xs scope cl C fp s H xe) elt te)
    (h2 : PIE X pins σ tg (fun J H1 => ∃ W : Nat → Nat → List V → Hp → Prop, (∃ m, W 0 m [] H1) ∧ ∀ i m ys H, W i m ys H → (J.stop i H ∧ F ys H) ∨
      (J.go i H ∧ ys.length < sizeLine ∧ ∃ N : List V → Hp → Prop, (∀ zs H', N zs H' → ∃ m', m' < m ∧ W (i + 1) m' zs H') ∧ ∀ x H', J.yld i H x H' → g x (List.replicate xs.length none ++ σ) H' fun σ2 H2 => σ2.drop xs.length = σ ∧
        tEl tc te σ2 H2 (fun y H3 => N (ys ++ [y]) H3) (fun H3 => N ys H3))) itv s2)
    (hRR : ∀ D C s', CompOut X pins σ F D C s' → RR (.ref D) C (.ok .next) s') (hRE : ∀ D C s' e, CompErr X pins σ E' e C s' → RR (.ref D) C (.error e) s') :
    wpAny (model X.prog X.w) X.A (newList []) (fun acc s₃ => wpAny (model X.prog X.w) X.A (newFunctionEnv scope X.env.globals cl [] X.env.qual none .none (some X.env)) (fun cenv s₄ =>
      codeAny (model X.prog X.w) X.A (.compStart (.ListComp elt [⟨tg, iter, ifs, 0⟩] scope pos) 0 itv acc { cenv with scope := relabel scope X.env }) (RR acc cenv.locals) s₄) E s₃) E s2 := by
  obtain ⟨it, fp, tn, J, H2, e, I2, T, st2, f2, W, ⟨m0, w0⟩, turn⟩ := h2
  subst e
  refine wpAny_newObj_type (wpAny_newFunctionEnv S.nocell (by intro y hy; simp at hy) (fun h₁ hns₁ hsb₁ => ?_) S.kind)
  dsimp only at hns₁ hsb₁ ⊢
  generalize hH2 : s2.heap.push { cls := .type "list", dict := none, data := .seq ([] : List Value).toArray } = Hp2 at hns₁ hsb₁ ⊢
  have hCs : Hp2.objs.size = s2.heap.objs.size + 1 := by rw [← hH2, Heap.size_push]
  generalize hCe : Hp2.objs.size = C at hns₁ hsb₁ hCs ⊢
  generalize hDe : s2.heap.objs.size = D at hCs ⊢
  have hDC : D ≠ C := by rw [hCs]; exact Nat.ne_of_lt (Nat.lt_succ_self _)
  have DleC : D ≤ C := by rw [hCs]; exact Nat.le_succ _
  have ltD' : ∀ b o, s2.heap.get? b = some o → b < D := fun b o e => hDe ▸ Heap.lt_size e
  have neD : ∀ b o, s2.heap.get? b = some o → b ≠ D := fun b o e => Nat.ne_of_lt (ltD' b o e)
  have neC : ∀ b o, s2.heap.get? b = some o → b ≠ C := fun b o e => Nat.ne_of_lt (Nat.lt_of_lt_of_le (ltD' b o e) DleC)
  have s2D : s2.heap.objs.size ≤ D := Nat.le_of_eq hDe
  have s2C : s2.heap.objs.size ≤ C := Nat.le_trans s2D DleC
  have old : ∀ b o, s2.heap.get? b = some o → h₁.get? b = some o := fun b o eb =>
    hsb₁.extBut b o (neC b o eb) (Heap.get?_push_of_some _ (hH2 ▸ Heap.get?_push_of_some _ eb))
  have hacc : h₁.get? D = some { cls := .type "list", data := .seq ([] : List Value).toArray 0 } :=
    hsb₁.extBut _ _ hDC (Heap.get?_push_of_some _ (hH2 ▸ hDe ▸ Heap.get?_push_size _ rfl))
  have hfo : ∀ b ∈ fp, ∃ o, s2.heap.get? b = some o ∧ ∀ v, o.data ≠ .cell v := T.obj 0 _ st2
  have ltD : ∀ b ∈ fp, b ≠ D := fun b hb => by obtain ⟨o, eb, _⟩ := hfo b hb; exact neD b o eb
  have I4 : Inv (cxComp X M pins xs scope cl C fp s2 H2) [] (List.replicate xs.length none ++ σ) H2 { s2 with heap := h₁, toks := s2.toks + ([] : List (Str × Value)).length } :=
    comp_inv I2 S lk has f2 hfo s2C hns₁ old
  generalize hY : cxComp X M pins xs scope cl C fp s2 H2 = Y at I4
  have Yprog : Y.prog = X.prog := by rw [← hY]; rfl
  have Yw : Y.w = X.w := by rw [← hY]; rfl
  have YK : Y.K = X.K := by rw [← hY]; rfl
  have YA : Y.A = X.A := by rw [← hY]; rfl
  have Yenv : Y.env = compEnvC scope cl C X.env := by rw [← hY]; rfl
  have Ypn : Y.pn = X.pn ++ pins := by rw [← hY]; rfl
  have Ys0 : Y.s₀ = s2 := by rw [← hY]; rfl
  have Ycalm : Y.calm = true := by rw [← hY]; exact hcalm
  have Yfs : Y.fs = frs X.stack := by rw [← hY]; rfl
  have Yex : Y.ex = fp := by rw [← hY]; rfl
  have stk : ∀ b, b ≠ X.env.locals → b ∉ X.fs → b ∉ frs X.stack := fun b h1 h2 hb => (List.mem_cons.mp (I2.stkSub b hb)).elim h1 h2
  have Dstk : D ∉ frs X.stack := stk D (Nat.ne_of_gt (hDe ▸ I2.lt)) (I2.nofs s2D)
  have Dloc : D ≠ Y.env.locals := by rw [Yenv]; exact hDC
  have Dcell : ∀ x c, Y.env.cells.lookup x = some c → c ≠ D := fun x c ec z => by
    rw [Yenv] at ec
    obtain ⟨v', ob, hob, _⟩ := I2.cell x c (lk x c ec)
    exact neD c ob hob z
  have DcellX : ∀ x c, X.env.cells.lookup x = some c → c ≠ D := fun x c ec z => by
    obtain ⟨v', ob, hob, _⟩ := I2.cell x c ec
    exact neD c ob hob z
  have Dpin : ∀ p ∈ X.pn ++ pins, p.1 ≠ D := fun p hp z => neD _ _ (I2.pin p hp).1 z
  have fpY : ∀ {H' : Hp} {pl : List (Addr × Obj)}, (∀ b ∈ fp, H' b = none) → (∀ p ∈ pl, p.1 ∉ fp) → ∀ b ∈ fp, FpOk Y pl H' b := fun hn hpl b hb => by
    refine ⟨hn b hb, ?_, ?_, .inl (by rw [Yex]; exact hb), fun x c ec => ?_, fun p hp z => ?_⟩
    · rw [Yenv]
      obtain ⟨o, eb, _⟩ := hfo b hb
      exact neC b o eb
    · rw [Yfs]; exact stk b (f2 b hb).2.1 (f2 b hb).2.2.1
    · rw [Yenv] at ec; exact (f2 b hb).2.2.2.2.1 x c (lk x c ec)
    · rcases List.mem_append.mp hp with q | q
      · rw [Ypn] at q; exact (f2 b hb).2.2.2.2.2 p q z
      · exact hpl p q (z ▸ hb)
  -- the list at D, pinned
  have pinD : ∀ {pl : List (Addr × Obj)} {σ' : St} {H' : Hp} {s' : Shared} {its : List Value} {n : Nat}, Inv Y pl σ' H' s' → H' D = none → s'.heap.get? D = some { cls := .type "list", data := .seq its.toArray n } →
      Inv Y ((D, { cls := .type "list", data := .seq its.toArray n }) :: pl) σ' H' s' := fun {pl σ' H' s' its n} I' hn hd => I'.pins_of fun p hp => by
    rcases List.mem_cons.mp hp with rfl | hp
    · exact ⟨hd, hn, Dloc, by rw [Yfs]; exact Dstk, fun v z => by cases z⟩
    · exact I'.pin p (List.mem_append_right _ hp)
  let Inn : Nat → Shared → Prop := fun n s' => ∃ i ys its c H', Inv Y [] (List.replicate xs.length none ++ σ) H' s' ∧ tn i s'.heap ∧ (∀ b ∈ fp, H' b = none) ∧ W i n ys H' ∧
    s'.heap.get? D = some { cls := .type "list", data := .seq its.toArray c } ∧ Vals ys its ∧ ys.length ≤ sizeLine ∧ H' D = none
  have start : ∀ s4 : Shared, s4 = { s2 with heap := h₁, toks := s2.toks + ([] : List (Str × Value)).length } → Inn m0 s4 := by
    rintro s4 rfl
    refine ⟨0, [], [], 0, H2, I4, T.keep _ _ _ st2 (fun b _ o eb => old b o eb), fun b hb => (f2 b hb).1, w0, hacc, .nil, Nat.zero_le _, I2.hok.fresh s2D⟩
  have loop : ∀ s4 : Shared, Inn m0 s4 → codeAny (model X.prog X.w) X.A (.compLoop (.ListComp elt [⟨tg, iter, ifs, 0⟩] scope pos) 0 (.ref it) (.ref D) (compEnvC scope cl C X.env))
      (RR (.ref D) C) s4 := by
    intro s4 h4
    refine comp_loopX Inn ?_ m0 h4
    rintro n s5 ⟨i, ys, its, c, H5, I5, st5, fr5, w5, hD5, rv5, hz5, hn5⟩
    have I5p := pinD I5 hn5 hD5
    have npD : ∀ p ∈ [((D, { cls := .type "list", data := .seq its.toArray c }) : Addr × Obj)], p.1 ∉ fp := fun p hp hb => by
      have e : p = ((D, { cls := .type "list", data := .seq its.toArray c }) : Addr × Obj) := List.mem_singleton.mp hp
      rw [e] at hb
      exact ltD D hb rfl
    rcases turn i n ys H5 w5 with ⟨stop, fin⟩ | ⟨go, hlt, N, hN, step⟩
    · -- the end
      have q := T.done Y Yprog Yw YK Ycalm i _ s5 _ H5 (fun _ _ => False) I5p (fpY fr5 npD) st5 stop
      rw [YA] at q
      refine thn q fun r s6 ⟨hr, I6⟩ => ?_
      subst hr
      obtain ⟨hD6, hn6, _⟩ := I6.pin (D, _) (List.mem_append_right _ List.mem_cons_self)
      obtain ⟨m6, hN6, _⟩ := I6.loc
      rw [Yenv] at hN6
      have hCn : H5 C = none := by have := I6.free; rw [Yenv] at this; exact this
      have un : Un (frs X.stack) fp H2 H5 s2.heap s6.heap := by
        have u := I6.base
        rw [Yfs, Yex, Ys0] at u
        rw [← hY] at u
        exact u
      have hok' : HOk X.prog X.w H5 s6.heap := by
        have q := I6.hok
        rw [Yprog, Yw] at q
        exact q
      have I7 : Inv X pins σ H5 s6 := by
        refine I2.call' (ch := fp) (by have := I6.os; rw [Ys0] at this; exact this) un hok' I6.bare fun b hb => ?_
        obtain ⟨f0, f1, f2', f3, f4, f5⟩ := f2 b hb
        exact ⟨f3, f1, f4, f5⟩
      have I8 : Inv X pins σ (upd H5 D (.lst ys)) s6 :=
        I7.track hn6 ⟨hz5, its, c, rv5, hD6⟩ (Nat.le_trans I2.sz s2D) (Nat.ne_of_gt (hDe ▸ I2.lt)) DcellX Dpin
      refine hRR D C s6 ⟨⟨H5, ys, I8, hn6, fin, by rw [upd_ne (Ne.symm hDC)]; exact hCn⟩, ⟨m6, hN6⟩, Nat.ne_of_gt (Nat.lt_of_lt_of_le I2.lt s2C), Nat.le_trans I2.sz s2C, fun x c ec z => ?_, fun p hp z => ?_⟩
      · obtain ⟨v', ob, hob, _⟩ := I2.cell x c ec
        exact neC c ob hob z
      · exact neC _ _ (I2.pin p hp).1 z
    · -- a turn
      have q := T.item Y Yprog Yw YK Ycalm i _ s5 _ H5 (fun _ _ => False) I5p (fpY fr5 npD) st5 go
      rw [YA] at q
      refine thn q fun r s6 ⟨u, hr, h6⟩ => ?_
      subst hr
      show wpAny _ _ (letOwnedTupleGo tg (.ref it) u) _ _ _
      refine thn h6 fun _ s7 ⟨x, H7, I7, rx, y7, st7, fr7⟩ => ?_
      have I7p := I7.pinned (fpY fr7 npD) (T.obj _ _ st7)
      generalize hpl : [((D, { cls := .type "list", data := .seq its.toArray c }) : Addr × Obj)] ++ pinsAt fp s7.heap = pl at I7p
      generalize hxe : notedBy (model X.prog X.w) X.A (compEnvC scope cl C X.env) (fun x s' => RR (.ref D) C (.error x) s') = xe
      have I7' : Inv (cxCompX X M (pins ++ pl) xs scope cl C fp s2 H2 xe) [] _ H7 s7 := repin (by rw [hY]; exact I7p)
      have hx' : XOkC (cxCompX X M (pins ++ pl) xs scope cl C fp s2 H2 xe) E' := by
        refine ⟨fun b hb => ?_, fun e s9 hfl => ?_⟩
        · obtain ⟨o, eb, _⟩ := T.obj _ _ st7 b hb
          exact ⟨o, List.mem_append_right _ (List.mem_append_right _ (hpl ▸ List.mem_append_right _ (mem_pinsAt hb eb)))⟩
        · obtain ⟨x0, T0, cls, H9, pins9, σ9, rfl, I9, ex9, ox, oT, q9⟩ := hfl
          have un : Un (frs X.stack) fp H2 H9 s2.heap s9.heap := I9.base
          have hok' : HOk X.prog X.w H9 s9.heap := I9.hok
          have I9X : Inv X pins σ H9 s9 := by
            refine I2.call' (ch := fp) I9.os un hok' I9.bare fun b hb => ?_
            obtain ⟨f0, f1, f2', f3, f4, f5⟩ := f2 b hb
            exact ⟨f3, f1, f4, f5⟩
          obtain ⟨m9, hN9, _⟩ := I9.loc
          have hC9 : H9 C = none := I9.free
          show xe (.ref x0) s9
          rw [← hxe]
          have en : noteFrame (.ref x0) (compEnvC scope cl C X.env) = noteFrame (.ref x0) X.env := rfl
          unfold notedBy
          rw [en]
          refine noted_at hex hst I9X ex9 (I2.own1 hex ox.new ox.free) (I2.own1 hex oT.new oT.free) fun s10 T' up I10 ex10 oT10 => hRE D C s10 _ ?_
          refine ⟨x0, T', cls, H9, _, rfl, I10, ex10, .inr ⟨_, rfl⟩, I2.own1 hex ox.new ox.free, oT10, q9, hC9, ⟨m9, up.ns hN9⟩, Nat.ne_of_gt (Nat.lt_of_lt_of_le I2.lt s2C), Nat.le_trans I2.sz s2C, fun x c ec z => ?_, fun p hp z => ?_⟩
          · obtain ⟨v', ob, hob, _⟩ := I2.cell x c ec
            exact neC c ob hob z
          · exact neC _ _ (I2.pin p hp).1 z
      have hgY := hg (pins ++ pl) cl C fp s2 H2 xe
      have heY := he (pins ++ pl) cl C fp s2 H2 xe hx'
      have hcY := hc (pins ++ pl) cl C fp s2 H2 xe
      have qa := hgY _ s7 _ H7 x u _ I7' rx (step x H7 y7)
      refine thn qa fun _ s8 ⟨σ8, H8, I8, hσ8, q8⟩ => ?_
      -- behind the element: the iterator's objects stand, the list stands
      have after : ∀ {H9 : Hp} {s9 : Shared}, Inv Y pl σ8 H9 s9 →
          tn (i + 1) s9.heap ∧ (∀ b ∈ fp, H9 b = none) ∧ s9.heap.get? D = some { cls := .type "list", data := .seq its.toArray c } ∧ H9 D = none := fun {H9 s9} I9 => by
        subst hpl
        refine ⟨T.keep _ _ _ st7 fun b hb o eb => (I9.pin (b, o) (List.mem_append_right _ (List.mem_append_right _ (mem_pinsAt hb eb)))).1, fun b hb => ?_, ?_, ?_⟩
        · obtain ⟨o, eb, _⟩ := T.obj _ _ st7 b hb
          exact (I9.pin (b, o) (List.mem_append_right _ (List.mem_append_right _ (mem_pinsAt hb eb)))).2.1
        · exact (I9.pin (D, _) (List.mem_append_right _ (List.mem_append_left _ List.mem_cons_self))).1
        · exact (I9.pin (D, _) (List.mem_append_right _ (List.mem_append_left _ List.mem_cons_self))).2.1
      -- the names are forgotten, the pins let go
      have forget : ∀ {pl : List (Addr × Obj)} {H9 : Hp} {s9 : Shared}, Inv Y pl σ8 H9 s9 → Inv Y [] (List.replicate xs.length none ++ σ) H9 s9 := fun {pl H9 s9} I9 => by
        have l8 := I9.len
        have lN : Y.N.length = xs.length + X.N.length := by rw [← hY]; show (xs ++ M).length = _; rw [List.length_append, S.len]
        have J := I9.weak (σ' := List.replicate xs.length none ++ σ) (by rw [List.length_append, List.length_replicate, l8, lN, I2.len]) (fun j v' ej => ?_)
        · exact J.pins_of fun p hp => absurd hp (by simp)
        · by_cases hj : j < xs.length
          · rw [List.getElem?_append_left (by simpa using hj), List.getElem?_replicate, if_pos hj] at ej
            cases ej
          · rw [List.getElem?_append_right (by simpa using hj), List.length_replicate, ← hσ8, List.getElem?_drop] at ej
            rw [← ej]
            congr 1
            omega
      have up9 : ∀ {H9 : Hp} {s9 : Shared}, Inv (cxCompX X M (pins ++ pl) xs scope cl C fp s2 H2 xe) [] σ8 H9 s9 → Inv Y pl σ8 H9 s9 := fun I9 => by rw [← hY]; exact unpin I9
      have qe := comp_elX (acc := .ref D) (R := fun s' => ∃ m, m < n ∧ Inn m s') hcY heY I8 q8 (fun v u' H9 s9 I9 rv hy => ?yes) (fun H9 s9 I9 hno => ?no)
      · exact qe
      case yes =>
        have I9 := up9 I9
        obtain ⟨st9, fr9, hD9, hn9⟩ := after I9
        obtain ⟨m', hm', w9⟩ := hN _ _ hy
        have hl := rv5.length
        refine call_meets PySem.F.slot_list_append ⟨_, hD9, rfl⟩ PySem.F.entry_list_append (PySem.F.args_list_append_2 _ _) (PySem.list_append D its.toArray c u' (by rw [List.size_toArray]; omega)) ⟨hD9, ?_⟩
        have upd9 := PySem.IsL.update hD9 (fun z => z.push u')
        rw [show its.toArray.push u' = (its ++ [u']).toArray by simp] at upd9
        have I10 : Inv Y (pinsAt fp s7.heap) σ8 H9 { s9 with heap := s9.heap.update D (Obj.mapSeq (fun z => z.push u')), toks := s9.toks } := by
          refine (I9.pins_of (pins' := pinsAt fp s7.heap) fun p hp => I9.pin p (List.mem_append_right _ (hpl ▸ List.mem_append_right _ hp))).turned (it := D) (fun b o hb eb => (Heap.get?_update_other _ _ (Ne.symm hb)).trans eb) hn9 Dloc (.inr (by rw [Ys0]; exact s2D)) Dcell fun p hp z => ?_
          rcases List.mem_append.mp hp with q | q
          · rw [Ypn] at q; exact Dpin p q z
          · exact ltD p.1 (of_pinsAt q).1 z
        refine ⟨m', hm', i + 1, ys ++ [v], its ++ [u'], _, H9, forget I10, T.keep _ _ _ st9 fun b hb o eb => (Heap.get?_update_other _ _ (Ne.symm (ltD b hb))).trans eb, fr9, w9, upd9, rv5.append (.cons rv .nil), ?_, hn9⟩
        · rw [List.length_append, List.length_singleton]; omega
      case no =>
        have I9 := up9 I9
        obtain ⟨st9, fr9, hD9, hn9⟩ := after I9
        obtain ⟨m', hm', w9⟩ := hN _ _ hno
        exact ⟨m', hm', i + 1, ys, its, c, H9, forget I9, st9, fr9, w9, hD9, rv5, hz5, hn9⟩
  have hloop := loop _ (start _ rfl)
  exact codeAny_compStart_list hloop (T.self X.A 0 _ _ _ (T.keep _ _ _ st2 (fun b _ o eb => old b o eb)) hloop)
theorem ps_setCompX {X : Cx} {elt tg iter : Expr} {ifs : List Expr} {scope : Scope} {pos pos' spos : Pos} {wi : TI} {g : TG} {tc : Option TT} {te : TE} {i : Nat} {x : Str} {E' : XK} (hV : XOkV X E') (hex : X.ex = []) (hst : X.stack = X.env :: X.outer ∧ X.env.frame = some X.env.locals) (xs : List Str) (hcalm : X.calm = true) (hN : X.N.Nodup) (hi' : X.N[i]? = some x) (hx : Loc X.env.scope x) (S : CompScope X X.N xs scope) (hi : PI X tg iter wi)
    (hg : ∀ pins cl C fp s H xe, PG (cxCompX X X.N pins xs scope cl C fp s H xe) tg g) (hc : ∀ pins cl C fp s H xe, PIf (cxCompX X X.N pins xs scope cl C fp s H xe) ifs tc)
    (he : ∀ pins cl C fp s H xe, XOkC (cxCompX X X.N pins xs scope cl C fp s H xe) E' → PE (cxCompX X X.N pins xs scope cl C fp s H xe) elt te)
    (hsw : swapsWith (.ListComp elt [⟨tg, iter, ifs, 0⟩] scope pos) (some (.Name x pos')) spos.line X.env = pure true := by rfl)
    (hs : ∀ x, foldedSetIterable iter X.env x = pure x := by intro _; rfl) (hf : X.fn x = true ∨ X.env.scope.names.lookup x = some .local := by first | exact .inl rfl | exact .inr rfl | assumption) :
    PS X (.Assign [.Name x pos'] (.ListComp elt [⟨tg, iter, ifs, 0⟩] scope pos) spos) (tSetComp i xs.length wi g tc te) := by
  intro pins s σ H D I hq
  obtain ⟨cl, hcl, lk, has⟩ := closure_ok (env := X.env) (scope := scope) (fun y hy hf => I.ok.has y.1 (S.free y hy hf))
  rw [exec_Assign_Name_used _ _ _ _ hsw]
  refine wpAny_bind (wpAny_standAt (wpAny_bind ?_))
  show wpAny _ X.A (do let _ ← comprehension (.ListComp elt [⟨tg, iter, ifs, 0⟩] scope pos) scope X.env _ (newList []) false (eval iter X.env) (some (assign (.Name x pos') X.env))) _ _ s
  refine wpAny_bind (wpAny_mono (wpAny_comprehension_free (use := some (assign (.Name x pos') X.env)) (Q := fun _ s' => SP X pins D .next s') rfl hs hcl S.kind S.loc
    (thn (hi pins s σ H _ I hq) fun v s1 h1 => thn h1 fun itv s2 h2 => ?_)) (fun _ s' hq => wpAny_pure (wpAny_pure hq)) fun _ _ e => e)
  refine comp_coreX (RR := fun acc C => compPost (model X.prog X.w) X.A X.xe (some (assign (.Name x pos') X.env)) (fun _ s' => SP X pins D .next s') acc C) hex hst hcalm S lk has hg hc he h2 (fun Dd C s' O => ?_) fun Dd C s' e O => comp_err hV O
  obtain ⟨⟨H', ys, I', hD, fin, hC⟩, ⟨m, hNs⟩, ne, ab, ce, pn⟩ := O
  show wpAny _ X.A (assign (.Name x pos') X.env (.ref Dd)) _ _ _
  refine wpAny_assign_Name (store_ok2 I' hN hi' hx (v := .ref Dd) rfl (fun s'' I'' hsb => ?_) hf)
  obtain ⟨a, sb, ha⟩ := hsb
  have haC : C ≠ a := by
    rcases ha with z | z
    · rw [z]; exact ne
    · exact fun e => ce x a z e.symm
  refine ⟨m, hNs.sameBut sb haC, fun h' sb' => ⟨_, _, ?_, fin Dd hD⟩⟩
  exact I''.turned (t' := s''.toks) (it := C) (fun b o hb e => (sb'.2 b hb).trans e) hC ne (.inr ab) ce pn
end L2
namespace L2
open PySem PySem.Spec PyProof.Rows
section
variable {X : Cx}
def PEp (X : Cx) (e : Expr) (t : TE) : Prop :=
  ∀ (pins : List (Addr × Obj)) (s : Shared) (σ : St) (H : Hp) (Q : VK), Inv X pins σ H s → 1 ≤ s.toks → t σ H Q → wpAny (model X.prog X.w) X.A (eval e X.env) (EP X pins σ Q) X.xe s
def PAp (X : Cx) (es : List Expr) (t : TA) : Prop :=
  ∀ (pos : Pos) (pins : List (Addr × Obj)) (s : Shared) (σ : St) (H : Hp) (Q : List V → Hp → Prop), Inv X pins σ H s → 1 ≤ s.toks → t σ H Q →
    wpAny (model X.prog X.w) X.A (spliced (backTo pos (starEach es X.env))) (fun us s' => ∃ vs H', Inv X pins σ H' s' ∧ Vals vs us ∧ Q vs H') X.xe s
def PSp (X : Cx) (sts : List Stmt) (t : TS) : Prop :=
  ∀ (pins : List (Addr × Obj)) (s : Shared) (σ : St) (H : Hp) (D : Ends), Inv X pins σ H s → 1 ≤ s.toks → t D σ H → wpAny (model X.prog X.w) X.A (execs sts X.env) (SP X pins D) X.xe s
def PS1p (X : Cx) (st : Stmt) (t : TS) : Prop :=
  ∀ (pins : List (Addr × Obj)) (s : Shared) (σ : St) (H : Hp) (D : Ends), Inv X pins σ H s → 1 ≤ s.toks → t D σ H → wpAny (model X.prog X.w) X.A (exec st X.env) (SP X pins D) X.xe s
def PTp (X : Cx) (e : Expr) (t : TT) : Prop :=
  ∀ (pins : List (Addr × Obj)) (s : Shared) (σ : St) (H : Hp) (Q : Bool → Hp → Prop), Inv X pins σ H s → t σ H Q → wpAny (model X.prog X.w) X.A (isTrue e X.env (eval e X.env)) (fun b s' => 1 ≤ s'.toks ∧ TP X pins σ Q b s') X.xe s
def PEk (X : Cx) (e : Expr) (t : TE) : Prop :=
  ∀ (n : Nat) (pins : List (Addr × Obj)) (s : Shared) (σ : St) (H : Hp) (Q : VK), Inv X pins σ H s → n ≤ s.toks → t σ H Q → wpAny (model X.prog X.w) X.A (eval e X.env) (fun u s' => ∃ z k H', u = .str z k ∧ n ≤ k ∧ Inv X pins σ H' s' ∧ Q (.str z) H') X.xe s
theorem PE.p {e : Expr} {t : TE} (h : PE X e t) : PEp X e t := fun pins s σ H Q I _ q => h pins s σ H Q I q
theorem up1 {α : Type} {M : Model} {A : Around} {E : Value → Shared → Prop} {s : Shared} {t : Sem α} {Q Q' : α → Shared → Prop} (hn : 1 ≤ s.toks) (h : wpAny M A t Q E s) (hQ : ∀ a s', 1 ≤ s'.toks → Q a s' → Q' a s') : wpAny M A t Q' E s :=
  wpAny_mono (wpAny_toks_of hn h) (fun a s' z => hQ a s' z.1 z.2) fun _ _ z => z.2
variable {a b e : Expr} {ta tb te : TE} {es : List Expr} {t u : TS} {tA : TA} {pos : Pos} {st : Stmt} {rest : List Stmt}
theorem ptP_cmpC {op : CmpOp} {r : R2} {i : Int} {j : Nat} {p2 : Pos} (ho : OpR X (compareOp op) r) (ha : PE X a ta) (hm : behindInMarks op (.Constant (.int i) j p2) = false) : PTp X (.Compare a [op] [.Constant (.int i) j p2] pos) (tTest (tOp r ta (tC (.int i)))) := by
  intro pins s σ H Q I h
  refine wpAny_isTrue_Compare1 (thn (ha pins s σ H _ I h) fun v s1 ⟨x, H1, I1, r1, q1⟩ => wpAny_Constant_int ?_) hm
  refine up1 (Nat.succ_le_succ (Nat.zero_le _)) (ho pins _ σ H1 x (.int i) v _ _ (I1.tok _) r1 ⟨_, rfl⟩ q1) fun c s3 hn ⟨z, H3, I3, r3, k, e, q3⟩ => ?_
  subst e
  cases r3
  exact wpAny_truthy_bool ⟨hn, H3, I3, q3⟩
theorem ps_ifP {c : Expr} {sa sb : List Stmt} {tc : TT} (hc : PTp X c tc) (ha : PSp X sa t) (hb : PSs X sb u) : PS X (.If c sa sb pos) (tIfS tc t u) := by
  intro pins s σ H D I h
  refine wpAny_If (thn (hc pins s σ H _ I h) fun d s1 ⟨hn, H1, I1, q1⟩ => ?_)
  cases d with
  | true => exact ha pins s1 σ H1 D I1 hn q1
  | false => exact hb pins s1 σ H1 D I1 q1
theorem psp_cons (h1 : PS1p X st t) (h2 : PSp X rest u) : PSp X (st :: rest) (tSeq t u) := by
  intro pins s σ H D I hn h
  refine wpAny_execs_cons (up1 hn (h1 pins s σ H { D with nx := u D } I hn h) fun f s1 hn1 q => ?_)
  cases f with
  | next =>
    obtain ⟨σ', H', I', q⟩ := q
    exact h2 pins s1 σ' H' D I' hn1 q
  | ret v => exact q
  | brk => exact q
  | cont => exact q
theorem psp_one (h1 : PS1p X st t) : PSp X [st] t := by
  intro pins s σ H D I hn h
  refine wpAny_execs_cons (thn (h1 pins s σ H D I hn h) fun f s1 q => ?_)
  cases f with
  | next =>
    obtain ⟨σ', H', I', q⟩ := q
    exact wpAny_execs_nil ⟨σ', H', I', q⟩
  | ret v => exact q
  | brk => exact q
  | cont => exact q
theorem ps1_ret (he : PEp X e te) : PS1p X (.Return (some e) pos) (tRet te) := by
  intro pins s σ H D I hn h
  exact wpAny_Return_some (thn (he pins s σ H _ I hn h) fun v s1 ⟨x, H1, I1, r1, q1⟩ => ⟨x, σ, H1, I1, r1, q1⟩)
theorem ps1_set {i : Nat} {x : Str} {pos' : Pos} (hN : X.N.Nodup) (hi : X.N[i]? = some x) (hx : Loc X.env.scope x) (he : PEp X e te) (hs : swapsWith e (some (.Name x pos')) pos.line X.env = pure false := by rfl)
    (hf : X.fn x = true ∨ X.env.scope.names.lookup x = some .local := by first | exact .inl rfl | exact .inr rfl | assumption) : PS1p X (.Assign [.Name x pos'] e pos) (tAsg te (gName i)) := by
  intro pins s σ H D I hn h
  refine wpAny_Assign_Name (thn (he pins s σ H _ I hn h) fun v s1 ⟨y, H1, I1, r1, q1⟩ => ?_) hs
  exact store_ok I1 hN hi hx r1 (fun s2 I2 => ⟨_, H1, I2, q1⟩) hf
theorem pap_nil : PAp X [] tNil := fun _ _ _ _ H _ I _ h => Calls.spliced_nil ⟨[], H, I, .nil, h⟩
theorem pap_cons (ha : PEp X e te) (hr : PAp X es tA) (hs : starEach (e :: es) X.env = (false, eval e X.env) :: starEach es X.env := by rfl) : PAp X (e :: es) (tCons te tA) := by
  intro pos pins s σ H Q I hn h
  rw [hs]
  show wpAny _ _ (spliced ((false, eval e X.env) :: backTo pos (starEach es X.env))) _ _ s
  refine Calls.spliced_cons (up1 hn (ha pins s σ H _ I hn h) fun u s1 hn1 ⟨x, H1, I1, r1, q1⟩ => ?_)
  exact thn (hr pos pins s1 σ H1 _ I1 hn1 q1) fun us s2 ⟨xs, H2, I2, r2, q2⟩ => ⟨x :: xs, H2, I2, .cons r1 r2, q2⟩
theorem pep_lst (h : PAp X es tA) : PEp X (.List es pos) (tLst tA) := by
  intro pins s σ H Q I hn hq
  refine wpAny_List_spliced (thn (h pos pins s σ H _ I hn hq) fun us s1 ⟨xs, H1, I1, r, z, q⟩ => ⟨by rw [← r.length]; exact z, ?_⟩)
  have hf : H1 s1.heap.objs.size = none := I1.hok.fresh (Nat.le_refl _)
  refine ⟨.ref s1.heap.objs.size, upd H1 s1.heap.objs.size (.lst xs), I1.laid (t' := s1.toks) (fun b u e => Heap.get?_push_of_some _ e) (Nat.le_refl _) ?_, rfl, q _ hf⟩
  exact ⟨z, us, 0, r, Heap.get?_push_size _ rfl⟩
theorem pek_str {x : Str} {j : Nat} : PEk X (.Constant (.str x) j pos) (tC (.str x)) := fun n pins s σ H Q I hn h => Calls.Constant_str ⟨x, _, H, rfl, hn, I.tok _, h⟩
inductive StrsK (n : Nat) : List Str → List Value → Prop where
  | nil : StrsK n [] []
  | cons {z : Str} {k : Tok} {zs : List Str} {us : List Value} (h : n ≤ k) (r : StrsK n zs us) : StrsK n (z :: zs) (.str z k :: us)
theorem StrsK.length {n : Nat} {zs : List Str} {us : List Value} (h : StrsK n zs us) : zs.length = us.length := by
  induction h with
  | nil => rfl
  | cons _ _ ih => rw [List.length_cons, List.length_cons, ih]
theorem StrsK.get {n : Nat} {zs : List Str} {us : List Value} (h : StrsK n zs us) : ∀ {i : Nat} {z : Str}, zs[i]? = some z → ∃ k, us[i]? = some (.str z k) ∧ n ≤ k := by
  induction h with
  | nil => intro i z e; cases e
  | @cons y k zs us hk r ih =>
    intro i z e
    cases i with
    | zero => cases e; exact ⟨k, rfl, hk⟩
    | succ i => exact ih e
inductive StrC : List Expr → List Str → Prop where
  | nil : StrC [] []
  | cons {z : Str} {j : Nat} {p : Pos} {es : List Expr} {zs : List Str} (r : StrC es zs) : StrC (.Constant (.str z) j p :: es) (z :: zs)
theorem strs_k {n : Nat} {pins : List (Addr × Obj)} {σ : St} {H : Hp} : ∀ {es : List Expr} {zs : List Str}, StrC es zs → ∀ (p0 : Pos) (s : Shared), Inv X pins σ H s → n ≤ s.toks →
    wpAny (model X.prog X.w) X.A (spliced (backTo p0 (starEach es X.env))) (fun us s' => Inv X pins σ H s' ∧ StrsK n zs us) X.xe s
  | _, _, .nil, _, _, I, _ => Calls.spliced_nil ⟨I, .nil⟩
  | _, _, @StrC.cons z j p es zs r, p0, s, I, hn => by
    show wpAny _ _ (spliced ((false, eval (.Constant (.str z) j p) X.env) :: backTo p0 (starEach es X.env))) _ _ s
    refine Calls.spliced_cons (Calls.Constant_str ?_)
    exact thn (strs_k r p0 _ (I.tok _) (Nat.le_succ_of_le hn)) fun us s2 q => ⟨q.1, .cons hn q.2⟩
def tItemK (zs : List Str) (ti : TE) : TE := fun σ H Q => ti σ H fun y H1 => ∃ i : Int, ∃ z, y = .int i ∧ 0 ≤ i ∧ zs[i.toNat]? = some z ∧ Q (.str z) H1
theorem pek_item {zs : List Str} {ix : Expr} {ti : TE} {p1 : Pos} (hc : StrC es zs) (hsz : zs.length ≤ 1000) (hi : PE X ix ti) (hs : PlainIx ix) : PEk X (.Subscript (.List es p1) ix pos) (tItemK zs ti) := by
  intro n pins s σ H Q I hn h
  refine Subscript_ (wpAny_List_spliced (thn (strs_k hc p1 s I hn) fun us s1 ⟨I1, hk⟩ => ?_))
  have hl := hk.length
  refine ⟨by rw [← hl]; exact Nat.le_trans hsz (by decide), ?_⟩
  have I2 : Inv X pins σ H { s1 with heap := s1.heap.push { cls := .type "list", data := .seq us.toArray } } := I1.kept (t' := s1.toks) fun b o e => Heap.get?_push_of_some _ e
  have nn : H s1.heap.objs.size = none := I1.fresh
  have I3 : Inv X (pins ++ [(s1.heap.objs.size, { cls := .type "list", data := .seq us.toArray })]) σ H { s1 with heap := s1.heap.push { cls := .type "list", data := .seq us.toArray } } := I2.pins_of fun p hp => by
    rcases List.mem_append.mp hp with z | z
    · exact I2.pin p (List.mem_append_right _ z)
    · obtain rfl := List.mem_singleton.mp z
      exact ⟨Heap.get?_push_size _ rfl, nn, Nat.ne_of_gt I1.lt, I1.nofs (Nat.le_refl _), fun v e => by cases e⟩
  refine thn (hi _ _ σ H _ I3 h) fun u s2 ⟨y, H2, I4, r4, i, z, ey, h0, hz, q⟩ => ?_
  subst ey
  obtain ⟨t, rfl⟩ := r4
  obtain ⟨k, ek, hk2⟩ := hk.get hz
  have hil : i.toNat < zs.length := (List.getElem?_eq_some_iff.mp hz).1
  have ho := (I4.pin (s1.heap.objs.size, { cls := .type "list", data := .seq us.toArray }) (List.mem_append_right _ (List.mem_append_right _ List.mem_cons_self))).1
  have hL : s2.heap.IsList s1.heap.objs.size us.toArray := ⟨_, ho, rfl, _, rfl⟩
  refine item_listR hL h0 (by omega) (by simpa using ek) ⟨z, k, H2, rfl, hk2, I4.pins_of fun p hp => I4.pin p (List.mem_append_right _ (List.mem_append_left _ hp)), q⟩ (hs _ _)
def tRepl (y : Str) (to t2 : TE) : TE := fun σ H Q => to σ H fun x H1 => ∃ w, x = .str w ∧ t2 σ H1 fun z H2 => ∃ v, z = .str v ∧ (y == v) = false ∧ w.length + (w.length + 1) * v.length ≤ 16777216 ∧ Q (.str (Txt.replace w y v)) H2
theorem pep_repl {o e2 : Expr} {to t2 : TE} {y : Str} {j : Nat} {p1 apos cpos : Pos} (ho : PE X o to) (h2 : PEk X e2 t2)
    (hbase : attributeBase o "replace" X.env (eval o X.env) = eval o X.env := by rfl)
    (hfew : ((backTo cpos (starEach [.Constant (.str y) j p1, e2] X.env)).all (fun x => !x.1) && (backToKw cpos (keywordEach [] X.env)).all (fun x => x.1.isSome)
      && decide (([.Constant (.str y) j p1, e2] : List Expr).length + ([] : List Keyword).length + (if ([] : List Keyword).isEmpty then 0 else 1) < 30)) = true := by rfl)
    (hline : (apos.endLine == cpos.line) = true := by rfl) (hs : starEach [.Constant (.str y) j p1, e2] X.env = [(false, eval (.Constant (.str y) j p1) X.env), (false, eval e2 X.env)] := by rfl) :
    PEp X (.Call (.Attribute o "replace" apos) [.Constant (.str y) j p1, e2] [] cpos) (tRepl y to t2) := by
  intro pins s σ H Q I hn h
  refine wpAny_Call_method_late hbase hfew hline rfl (up1 hn (ho pins s σ H _ I h) fun v s1 hn1 ⟨x, H1, I1, r1, w, ex, q1⟩ => ?_)
  subst ex
  obtain ⟨tk, rfl⟩ := r1
  refine ⟨"str", "str.replace", PySem.F.plainAttrs_str, PySem.F.slot_str_replace, PySem.F.type_str_replace, typeIs_str _ _ _, fun _ e => (by cases e), ?_⟩
  rw [hs]
  refine Calls.callWith_builtin rfl (Calls.evalArgs_plain ?_)
  show wpAny _ _ (spliced [(false, eval (.Constant (.str y) j p1) X.env), (false, eval e2 X.env)]) _ _ s1
  refine Calls.spliced_cons (Calls.Constant_str ?_)
  refine Calls.spliced_cons (thn (h2 (s1.toks + 1) pins _ σ H1 _ (I1.tok _) (Nat.le_refl _) q1) fun u s2 ⟨z, k, H2, eu, hk, I2, v', ez, hyv, hb, q2⟩ => ?_)
  subst eu
  cases ez
  refine Calls.spliced_nil ?_
  exact SC.replace (u := s1.toks) (v := k) (Nat.ne_of_gt hn1) (Nat.ne_of_gt (Nat.lt_of_lt_of_le (Nat.succ_pos _) hk)) (Nat.ne_of_lt hk) hyv hb fun t' k' => ⟨.str _, H2, I2.tok _, ⟨_, rfl⟩, q2⟩
def rMulS : R2 := fun x y H Q => ∃ w n, x = .str w ∧ y = .int n ∧ 1 ≤ n ∧ n ≤ 1000 ∧ 0 < w.length ∧ w.length ≤ 1000 ∧ Q (.str (Txt.mul w n)) H
theorem op_mulS : OpR X (binaryOp .Mult) rMulS := by
  intro pins s σ H x y v u Q I rx ry h
  obtain ⟨w, n, rfl, rfl, h1, h2, h3, h4, q⟩ := h
  obtain ⟨t, rfl⟩ := rx
  obtain ⟨t', rfl⟩ := ry
  refine SB.mul ⟨?_, fun _ _ => ?_, fun _ _ => ?_⟩ fun t'' k => ⟨.str _, H, I.tok _, ⟨_, rfl⟩, q⟩
  · rw [decide_eq_false (by omega), decide_eq_false (by omega)]; rfl
  · have : (1000 : Int) ≤ (2 ^ 63 - 1) / n := by
      rw [Int.le_ediv_iff_mul_le (by omega)]
      omega
    omega
  · have : w.length * n.toNat ≤ 1000 * 1000 := Nat.mul_le_mul h4 (by omega)
    unfold Builtin.Str.tooLong
    exact decide_eq_false (Nat.not_lt.mpr (Nat.le_trans this (by decide)))
theorem pjn_repr {rest : List Expr} {n : Nat} {t : St → Hp → Prop} (he : PE X e te) (hr : PJn X rest n t) :
    PJn X (.FormattedValue e 114 none pos :: rest) (100000 + n) (fun σ H => (te σ H fun x H1 => H1 = H ∧ ∃ w, x = .str w ∧ (reprText w).length ≤ 100000) ∧ t σ H) := fun pins s σ H acc I h hz => by
  refine Joins_cons (wpAny_FormattedValue_repr (thn (he pins s σ H _ I h.1) fun u s1 q => ?_))
  obtain ⟨x, H1, I1, r, rfl, w, rfl, hw⟩ := q
  obtain ⟨t', rfl⟩ := r
  have big : (reprText w).length ≤ sizeLine := Nat.le_trans hw (by decide)
  refine wpAny_pyReprObj_str ?_ big
  have fin : ∀ (k : Tok) (s2 : Shared), Inv X pins σ H1 s2 → ∃ y t, Value.str (reprText w) k = .str y t ∧ (acc ++ y).length ≤ sizeLine ∧ Joins (model X.prog X.w) X.A X.xe (evalEach rest X.env) (acc ++ y) (fun out s₁ => Inv X pins σ H1 s₁ ∧ out.length ≤ acc.length + (100000 + n)) s2 := fun k s2 I2 => by
    refine ⟨_, _, rfl, by rw [strLen_append]; omega, Joins.mono (fun o s3 q => ⟨q.1, ?_⟩) _ _ _ (hr pins s2 σ H1 _ I2 h.2 (by rw [strLen_append]; omega))⟩
    have := q.2
    rw [strLen_append] at this
    omega
  exact wpAny_formatField_str (fin _ _ (I1.tok _)) (fin _ _ ((I1.tok _).tok _)) big
end
end L2
namespace RM
open PySem
abbrev blk32 : Str := ⟨#[32]⟩
theorem cut_inj {c : Nat} : ∀ {a b t u : List Nat}, c ∉ a → c ∉ b → a ++ c :: t = b ++ c :: u → a = b ∧ t = u
  | [], [], _, _, _, _, h => ⟨rfl, (List.cons.inj h).2⟩
  | [], _ :: _, _, _, _, hb, h => absurd ((List.cons.inj h).1 ▸ List.mem_cons_self) hb
  | _ :: _, [], _, _, ha, _, h => absurd ((List.cons.inj h).1 ▸ List.mem_cons_self) ha
  | x :: a, y :: b, _, _, ha, hb, h => by
    obtain ⟨h1, h2⟩ := List.cons.inj h
    obtain ⟨e1, e2⟩ := cut_inj (fun z => ha (List.mem_cons_of_mem _ z)) (fun z => hb (List.mem_cons_of_mem _ z)) h2
    exact ⟨by rw [h1, e1], e2⟩
theorem no_cut {c : Nat} {a b t : List Nat} (ha : c ∉ a) (h : a = b ++ c :: t) : False := ha (h ▸ List.mem_append_right _ List.mem_cons_self)
theorem cps_app (x y : Str) : (x ++ y).cps.toList = x.cps.toList ++ y.cps.toList := by
  show (x.cps ++ y.cps).toList = _
  rw [Array.toList_append]
theorem str_of_list {x y : Str} (h : x.cps.toList = y.cps.toList) : x = y := by
  obtain ⟨a⟩ := x
  obtain ⟨b⟩ := y
  exact congrArg Str.mk (Array.toList_inj.mp h)
theorem join_two (y a b : Str) (r : List Str) : Str.join y (a :: b :: r) = a ++ y ++ Str.join y (b :: r) := rfl
theorem join_two_cps (c : Nat) (a b : Str) (r : List Str) : (Str.join ⟨#[c]⟩ (a :: b :: r)).cps.toList = a.cps.toList ++ c :: (Str.join ⟨#[c]⟩ (b :: r)).cps.toList := by
  rw [join_two, cps_app, cps_app, List.append_assoc]
  rfl
theorem join_inj (c : Nat) : ∀ (xs ys : List Str), xs ≠ [] → ys ≠ [] → (∀ x ∈ xs, c ∉ x.cps.toList) → (∀ x ∈ ys, c ∉ x.cps.toList) → Str.join ⟨#[c]⟩ xs = Str.join ⟨#[c]⟩ ys → xs = ys
  | [], _, h, _, _, _, _ => absurd rfl h
  | _, [], _, h, _, _, _ => absurd rfl h
  | [x], [y], _, _, _, _, h => by rw [show x = y from h]
  | [x], y :: z :: r, _, _, hx, _, h => by
    have e := congrArg (fun s : Str => s.cps.toList) h
    rw [join_two_cps] at e
    exact (no_cut (hx x List.mem_cons_self) e).elim
  | x :: z :: r, [y], _, _, _, hy, h => by
    have e := congrArg (fun s : Str => s.cps.toList) h
    rw [join_two_cps] at e
    exact (no_cut (hy y List.mem_cons_self) e.symm).elim
  | x :: x2 :: r, y :: y2 :: q, _, _, hx, hy, h => by
    have e := congrArg (fun s : Str => s.cps.toList) h
    rw [join_two_cps, join_two_cps] at e
    obtain ⟨e1, e2⟩ := cut_inj (hx x List.mem_cons_self) (hy y List.mem_cons_self) e
    have ih := join_inj c (x2 :: r) (y2 :: q) (fun z => nomatch z) (fun z => nomatch z) (fun z hz => hx z (List.mem_cons_of_mem _ hz)) (fun z hz => hy z (List.mem_cons_of_mem _ hz)) (str_of_list e2)
    rw [str_of_list e1, ih]
theorem split_is {c : Nat} {ws : List Str} (hn : ws ≠ []) (hf : ∀ x ∈ ws, c ∉ x.cps.toList) : Txt.split (Str.join ⟨#[c]⟩ ws) ⟨#[c]⟩ = ws :=
  join_inj c _ _ (fun z => by have := PyProof.Rows.split_pos (Str.join ⟨#[c]⟩ ws) ⟨#[c]⟩; rw [z] at this; exact absurd this (by decide)) hn (StrLaws.split_free _ c) hf (StrLaws.join_split _ _)
def dg (n : Nat) : List Nat := if n < 10 then [48 + n] else if n < 100 then [48 + n / 10, 48 + n % 10] else [48 + n / 100, 48 + n / 10 % 10, 48 + n % 10]
theorem intT_dg0 : ∀ n ∈ List.range 101, (Str.ofString (toString (n : Int))).cps.toList = dg n := by decide +kernel
theorem dg_free0 : ∀ n ∈ List.range 101, ∀ x ∈ dg n, 48 ≤ x ∧ x ≤ 57 := by decide +kernel
theorem dg_inj0 : ∀ n ∈ List.range 101, ∀ m ∈ List.range 101, dg n = dg m → n = m := by decide +kernel
theorem intT_dg {x : Int} (h0 : 0 ≤ x) (h1 : x ≤ 100) : (Str.ofString (toString x)).cps.toList = dg x.toNat := by
  have e : x = (x.toNat : Int) := by omega
  rw [e]
  exact intT_dg0 x.toNat (List.mem_range.mpr (by omega))
theorem dg_free {x : Int} (h0 : 0 ≤ x) (h1 : x ≤ 100) : ∀ c ∈ dg x.toNat, 48 ≤ c ∧ c ≤ 57 := dg_free0 x.toNat (List.mem_range.mpr (by omega))
theorem dg_inj {x y : Int} (h0 : 0 ≤ x) (h1 : x ≤ 100) (h2 : 0 ≤ y) (h3 : y ≤ 100) (h : dg x.toNat = dg y.toNat) : x = y := by
  have := dg_inj0 x.toNat (List.mem_range.mpr (by omega)) y.toNat (List.mem_range.mpr (by omega)) h
  omega
end RM
namespace RM
open PySem
def flat (ws : List (List Nat)) : List Nat := ws.flatMap fun w => 32 :: w
theorem flat_cons (w : List Nat) (r : List (List Nat)) : flat (w :: r) = 32 :: (w ++ flat r) := rfl
theorem flat_app (a b : List (List Nat)) : flat (a ++ b) = flat a ++ flat b := List.flatMap_append
theorem flat_head (r : List (List Nat)) : flat r = [] ∨ ∃ t, flat r = 32 :: t := by
  cases r with
  | nil => exact .inl rfl
  | cons w r => exact .inr ⟨_, rfl⟩
theorem flat_inj : ∀ {a b : List (List Nat)}, (∀ w ∈ a, 32 ∉ w) → (∀ w ∈ b, 32 ∉ w) → flat a = flat b → a = b
  | [], [], _, _, _ => rfl
  | [], _ :: _, _, _, h => by cases h
  | _ :: _, [], _, _, h => by cases h
  | x :: a, y :: b, ha, hb, h => by
    rw [flat_cons, flat_cons] at h
    have h' := (List.cons.inj h).2
    have hx := ha x List.mem_cons_self
    have hy := hb y List.mem_cons_self
    have ha' : ∀ w ∈ a, 32 ∉ w := fun w hw => ha w (List.mem_cons_of_mem _ hw)
    have hb' : ∀ w ∈ b, 32 ∉ w := fun w hw => hb w (List.mem_cons_of_mem _ hw)
    rcases flat_head a with ea | ⟨t, ea⟩ <;> rcases flat_head b with eb | ⟨u, eb⟩
    · have : a = b := flat_inj ha' hb' (ea.trans eb.symm)
      rw [ea, eb, List.append_nil, List.append_nil] at h'
      rw [h', this]
    · rw [ea, eb, List.append_nil] at h'
      exact (no_cut hx h').elim
    · rw [ea, eb, List.append_nil] at h'
      exact (no_cut hy h'.symm).elim
    · have h2 := h'
      rw [ea, eb] at h2
      obtain ⟨e1, e2⟩ := cut_inj hx hy h2
      have : a = b := flat_inj ha' hb' (by rw [ea, eb, e2])
      rw [e1, this]
theorem flat_mem {ws : List (List Nat)} {c : Nat} (h : c ∈ flat ws) : c = 32 ∨ ∃ w ∈ ws, c ∈ w := by
  obtain ⟨w, hw, hc⟩ := List.mem_flatMap.mp h
  rcases List.mem_cons.mp hc with z | z
  · exact .inl z
  · exact .inr ⟨w, hw, z⟩
def dgI (x : Int) : List Nat := dg x.toNat
def noteL (p : Int) (rs : List Int) : List Nat := dgI p ++ 58 :: flat (rs.map dgI)
structure NtP (p : Int) (rs : List Int) : Prop where
  mem : p ∈ primesL
  num : ∀ x ∈ rs, 0 ≤ x ∧ x < p
  len : rs.length ≤ 30
theorem dgI_lo {x : Int} (h0 : 0 ≤ x) (h1 : x ≤ 100) : ∀ c ∈ dgI x, 48 ≤ c ∧ c ≤ 57 := dg_free h0 h1
theorem dgI_ne {x : Int} : dgI x ≠ [] := by
  unfold dgI dg
  split
  · simp
  · split <;> simp
theorem NtP.pl {p : Int} {rs : List Int} (h : NtP p rs) : 2 ≤ p ∧ p ≤ 97 := primes_lo p h.mem
theorem NtP.dp {p : Int} {rs : List Int} (h : NtP p rs) : ∀ c ∈ dgI p, 48 ≤ c ∧ c ≤ 57 := dgI_lo (by have := h.pl; omega) (by have := h.pl; omega)
theorem NtP.dr {p : Int} {rs : List Int} (h : NtP p rs) : ∀ w ∈ rs.map dgI, ∀ c ∈ w, 48 ≤ c ∧ c ≤ 57 := fun w hw => by
  obtain ⟨x, hx, rfl⟩ := List.mem_map.mp hw
  have := h.num x hx
  have := h.pl
  exact dgI_lo (by omega) (by omega)
theorem NtP.no58 {p : Int} {rs : List Int} (h : NtP p rs) : 58 ∉ dgI p := fun z => by have := h.dp 58 z; omega
theorem NtP.free {p : Int} {rs : List Int} (h : NtP p rs) : ∀ w ∈ rs.map dgI, 32 ∉ w := fun w hw z => by have := h.dr w hw 32 z; omega
theorem NtP.flat_lo {p : Int} {rs : List Int} (h : NtP p rs) : ∀ c ∈ flat (rs.map dgI), c = 32 ∨ (48 ≤ c ∧ c ≤ 57) := fun c hc => by
  rcases flat_mem hc with z | ⟨w, hw, z⟩
  · exact .inl z
  · exact .inr (h.dr w hw c z)
theorem NtP.flat58 {p : Int} {rs : List Int} (h : NtP p rs) : 58 ∉ flat (rs.map dgI) := fun z => by have := h.flat_lo 58 z; omega
theorem NtP.cut {p : Int} {rs : List Int} (h : NtP p rs) {a t : List Nat} (ha : 58 ∉ a) (e : a ++ 58 :: t = noteL p rs) : a = dgI p ∧ t = flat (rs.map dgI) := cut_inj ha h.no58 e
theorem NtP.words {p : Int} {rs : List Int} (h : NtP p rs) {ws : List (List Nat)} (hw : ∀ w ∈ ws, 32 ∉ w) (e : flat ws = flat (rs.map dgI)) : ws = rs.map dgI := flat_inj hw h.free e
theorem no58_noteL {p : Int} {rs : List Int} {l : List Nat} (h : 58 ∉ l) : l ≠ noteL p rs := fun e => h (by rw [e]; exact List.mem_append_right _ List.mem_cons_self)
theorem dg_primes : ∀ q ∈ primesL, ∀ s ∈ [[49], [52], [48], [48, 50], [], [120], [45, 51], [43, 53], [49, 48, 49], [49, 95, 49], [55, 32], [32, 55], [57], [57, 57]], s ≠ dgI q := by decide +kernel
theorem dg_words : ∀ n ∈ List.range 98, ∀ s ∈ [[45, 49], [43, 49], [48, 48], [48, 49], [], [120], [49, 95, 48], [49, 46], [49, 48, 48], [48, 9], [49, 44]], s ≠ dg n := by decide +kernel
theorem dgI_words {n : Int} (h0 : 0 ≤ n) (h1 : n ≤ 97) : ∀ s ∈ [[45, 49], [43, 49], [48, 48], [48, 49], [], [120], [49, 95, 48], [49, 46], [49, 48, 48], [48, 9], [49, 44]], s ≠ dgI n := dg_words n.toNat (List.mem_range.mpr (by omega))
theorem dgI_inj {x y : Int} (h0 : 0 ≤ x) (h1 : x ≤ 100) (h2 : 0 ≤ y) (h3 : y ≤ 100) (h : dgI x = dgI y) : x = y := dg_inj h0 h1 h2 h3 h
theorem way0 {p : Int} {rs : List Int} (h : NtP p rs) {s t : List Nat} (hs : s ∈ [[49], [52], [48], [48, 50], [], [120], [45, 51], [43, 53], [49, 48, 49], [49, 95, 49], [55, 32], [32, 55], [57], [57, 57]]) : s ++ 58 :: t ≠ noteL p rs := fun e => by
  have h58 : ∀ s ∈ [[49], [52], [48], [48, 50], [], [120], [45, 51], [43, 53], [49, 48, 49], [49, 95, 49], [55, 32], [32, 55], [57], [57, 57]], 58 ∉ s := by decide
  exact dg_primes p h.mem s hs (h.cut (h58 s hs) e).1
theorem way1 {p q : Int} {rs : List Int} (h : NtP p rs) (hq : 0 ≤ q ∧ q ≤ 97) {ws : List (List Nat)} (hw : ∀ w ∈ ws, 32 ∉ w) (hb : ∃ w ∈ ws, ∀ n, 0 ≤ n → n < q → w ≠ dgI n) : dgI q ++ 58 :: flat ws ≠ noteL p rs := fun e => by
  have h58 : 58 ∉ dgI q := fun z => by have := dgI_lo hq.1 (by omega) 58 z; omega
  obtain ⟨e1, e2⟩ := h.cut h58 e
  have hp := h.pl
  have ep := dgI_inj hq.1 (by omega) (by omega) (by omega) e1
  have ew := h.words hw e2
  obtain ⟨w, hw1, hw2⟩ := hb
  rw [ew] at hw1
  obtain ⟨x, hx, rfl⟩ := List.mem_map.mp hw1
  have := h.num x hx
  exact hw2 x (by omega) (by omega) rfl
theorem way4 {p q : Int} {rs : List Int} (h : NtP p rs) (hq : 0 ≤ q ∧ q ≤ 97) {ws : List (List Nat)} (hw : ∀ w ∈ ws, 32 ∉ w) (hb : 30 < ws.length) : dgI q ++ 58 :: flat ws ≠ noteL p rs := fun e => by
  have h58 : 58 ∉ dgI q := fun z => by have := dgI_lo hq.1 (by omega) 58 z; omega
  have ew := h.words hw (h.cut h58 e).2
  have := h.len
  rw [ew, List.length_map] at hb
  omega
theorem wayA {p : Int} {rs : List Int} (h : NtP p rs) {a t : List Nat} (h58 : 58 ∉ a) (hb : ∃ c ∈ a, c < 48 ∨ 57 < c) : a ++ 58 :: t ≠ noteL p rs := fun e => by
  obtain ⟨c, hc, hc'⟩ := hb
  rw [(h.cut h58 e).1] at hc
  have := h.dp c hc
  omega
theorem wayB {p : Int} {rs : List Int} (h : NtP p rs) {a t : List Nat} (h58 : 58 ∉ a) (hb : ∃ c ∈ t, c ≠ 32 ∧ (c < 48 ∨ 57 < c)) : a ++ 58 :: t ≠ noteL p rs := fun e => by
  obtain ⟨c, hc, h1, h2⟩ := hb
  rw [(h.cut h58 e).2] at hc
  have := h.flat_lo c hc
  omega
theorem wayC {p : Int} {rs : List Int} (h : NtP p rs) {a t : List Nat} {c : Nat} (h58 : 58 ∉ a) (hc : c ≠ 32) : a ++ 58 :: c :: t ≠ noteL p rs := fun e => by
  have e2 := (h.cut h58 e).2
  rcases flat_head (rs.map dgI) with z | ⟨u, z⟩
  · rw [z] at e2; cases e2
  · rw [z] at e2; exact hc (List.cons.inj e2).1
end RM
namespace Rf
open PySem L2 RM
def top (i : Nat) : Stmt := PySem.Challenge.pw_rulefound_k17_unread.main.body.getD i (.Pass ⟨0, 0, 0, 0⟩)
abbrev s_written_prime : Stmt := top 12
abbrev s_read_prime : Stmt := top 13
abbrev s_read_number : Stmt := top 14
abbrev s_read : Stmt := top 15
abbrev s__law_cell_at : Stmt := top 17
abbrev s__law_next : Stmt := top 18
abbrev s__law_prime : Stmt := top 19
abbrev s__law_numbers : Stmt := top 20
abbrev s__law_tells : Stmt := top 21
abbrev s__law_on : Stmt := top 23
abbrev s__law_row : Stmt := top 24
abbrev s__law_text : Stmt := top 25
abbrev s__law_kind : Stmt := top 26
abbrev s__law_tried : Stmt := top 27
abbrev s__law_spoiled : Stmt := top 28
abbrev s_law : Stmt := top 29
structure Txt (K : PySem.W.Frag) (mg : Str → Option Value) : Prop where
  len : mg "len" = none
  range : mg "range" = none
  sum : mg "sum" = none
  all : mg "all" = none
  isi : mg "isinstance" = none
  bool : mg "bool" = none
  int : mg "int" = none
  list : mg "list" = none
  min : mg "min" = none
  max : mg "max" = none
  most : ∃ t, mg "MOST" = some (.int 30 t)
  primes : ∃ a, mg "PRIMES" = some (.ref a) ∧ ∀ H, SqT K H a (iL primesL)
structure Rw (p : Int) (ns : List Int) : Prop where
  len : ns.length ≤ 30
  num : ∀ x ∈ ns, 0 ≤ x ∧ x < p
theorem getD_mem {ns : List Int} {k : Nat} (h : k < ns.length) : ns.getD k 0 ∈ ns := by
  rw [List.getD_eq_getElem?_getD, List.getElem?_eq_getElem h]
  exact List.getElem_mem h
section
variable {P : Program} {w : World} {K : PySem.W.Frag} {mg : Str → Option Value} {base : Heap}
end
def spCell (K : PySem.W.Frag) : Sp := fun vs H Q _ => ∃ a ns, ∃ k : Nat, vs = [.ref a, .int k] ∧ SqL K H a (iL ns) ∧ Q (.int (ns.getD k 0)) H
def spNext : Sp := fun vs H Q _ => ∃ x, vs = [.int x] ∧ ∀ v, 0 ≤ v → v < 2147483629 → Q (.int v) H
def spLPrime : Sp := fun vs H Q _ => ∃ x, vs = [.int x] ∧ ∀ p H', p ∈ primesL → Same H H' → Q (.int p) H'
def spNumbers : Sp := fun vs H Q _ => ∃ p x, ∃ m : Nat, vs = [.int p, .int m, .int x] ∧ 0 < p ∧ m ≤ 1000 ∧ ∀ l ns H', H l = none → Same H H' → H' l = some (.lst (iL ns)) → ns.length = m → (∀ x ∈ ns, 0 ≤ x ∧ x < p) → Q (.ref l) H'
def spTells (K : PySem.W.Frag) : Sp := fun vs H Q _ => ∃ p a b rs cs, vs = [.int p, .ref a, .ref b] ∧ SqL K H a (iL rs) ∧ SqL K H b (iL cs) ∧ 0 < p ∧ cs.length ≤ rs.length ∧ rs.length ≤ 1000 ∧
  (∀ c ∈ cs, 0 ≤ c ∧ c < 2 ^ 32) ∧ Q (.int (told p rs cs rs.length)) H
def onL (p : Int) (rs cs : List Int) : Nat → List Int
  | 0 => rs
  | k + 1 => onL p rs cs k ++ [told p (onL p rs cs k) cs (onL p rs cs k).length]
theorem onL_len (p : Int) (rs cs : List Int) : ∀ k, (onL p rs cs k).length = rs.length + k
  | 0 => rfl
  | k + 1 => by
    show (onL p rs cs k ++ [_]).length = _
    rw [List.length_append, onL_len p rs cs k]
    rfl
theorem onL_num {p : Int} {rs cs : List Int} (hp : 0 < p) (h : ∀ x ∈ rs, 0 ≤ x ∧ x < p) : ∀ k, ∀ x ∈ onL p rs cs k, 0 ≤ x ∧ x < p
  | 0 => h
  | k + 1 => fun x hx => by
    rcases List.mem_append.mp (show x ∈ onL p rs cs k ++ [_] from hx) with z | z
    · exact onL_num hp h k x z
    · have e : x = told p (onL p rs cs k) cs (onL p rs cs k).length := by simpa using z
      rw [e]
      exact ⟨Int.emod_nonneg _ (by omega), Int.emod_lt_of_pos _ hp⟩
def spOn (K : PySem.W.Frag) : Sp := fun vs H Q _ => ∃ p a b rs cs, ∃ m : Nat, vs = [.int p, .ref a, .ref b, .int m] ∧ SqL K H a (iL rs) ∧ SqL K H b (iL cs) ∧ 0 < p ∧ cs.length ≤ rs.length ∧ rs.length + m ≤ 1000 ∧ (∀ c ∈ cs, 0 ≤ c ∧ c < 2 ^ 32) ∧
  ∀ l H', H l = none → Same H H' → H' l = some (.lst (iL (onL p rs cs m))) → Q (.ref l) H'
section
variable {P : Program} {w : World} {K : PySem.W.Frag} {mg : Str → Option Value} {base : Heap}
theorem sc_cell : FnScope ["script", "k"] ["script", "k"] (defScope s__law_cell_at) := ⟨rfl, rfl, rfl, by decide +kernel, rfl, by decide +kernel, by decide +kernel⟩
theorem ok_cell {f : Addr} {fd : FuncData} (F : Fun K "_law_cell_at" "_law_cell_at" s__law_cell_at f fd) (T : Txt K mg) : FnOk P w K mg base CX0 1 f fd ["script", "k"] (spCell K) := by
  refine F.ok sc_cell (fun vs H Q E h => ?_) (fun cdv A outer s H vs Q E hr h => ?_)
  · obtain ⟨a, ns, k, rfl, _⟩ := h
    rfl
  · obtain ⟨a, ns, k, rfl, hS, q⟩ := h
    refine ⟨_, pss_cons (ps_if (pt_cmpR op_lt (pv 1) (pe_callB call_lenI rfl T.len PySem.boot_len (pa_cons (pv 0) pa_nil)) (nomark _)) (pss_one (ps_ret (pe_ix ix_ints (pv 0) (pv 1) (fun _ _ => rfl)))) pss_nil) (pss_one (ps_ret pe_int)), ?_⟩
    refine ⟨_, rfl, _, rfl, a, ns, rfl, hS, _, _, rfl, rfl, _, rfl, ?_⟩
    refine ite2 (fun h1 => ?_) (fun h1 => ?_)
    · have h1' : (k : Int) < (ns.length : Int) := of_decide_eq_true h1
      exact ⟨_, rfl, _, rfl, a, ns, _, k, rfl, rfl, hS, rfl, by omega, q⟩
    · have h1' : ¬ (k : Int) < (ns.length : Int) := fun z => h1 (decide_eq_true z)
      have e : ns.getD k 0 = 0 := by
        rw [List.getD_eq_getElem?_getD, List.getElem?_eq_none (by omega)]
        rfl
      rw [e] at q
      exact q
theorem sc_next : FnScope ["seed"] ["seed"] (defScope s__law_next) := ⟨rfl, rfl, rfl, by decide +kernel, rfl, by decide +kernel, by decide +kernel⟩
theorem ok_next {f : Addr} {fd : FuncData} (F : Fun K "_law_next" "_law_next" s__law_next f fd) : FnOk P w K mg base CX0 1 f fd ["seed"] spNext := by
  refine F.ok sc_next (fun vs H Q E h => ?_) (fun cdv A outer s H vs Q E hr h => ?_)
  · obtain ⟨x, rfl, _⟩ := h
    rfl
  · obtain ⟨x, rfl, q⟩ := h
    refine ⟨_, pss_cons (ps_set (i := 0) sc_next.nd rfl (Or.inl rfl) (pe_op op_mod (pe_op op_add (pv 0) pe_int) pe_int)) (pss_one (ps_ret (pe_op op_mod (pe_op op_add (pe_op op_add (pe_op op_mul (pv 0) (pv 0)) (pe_op op_mul pe_int (pv 0))) pe_int) pe_int))), ?_⟩
    refine ⟨_, rfl, _, _, rfl, rfl, _, _, rfl, rfl, (by show (0 : Int) < 2147483647; decide), ?_⟩
    have e1 : 0 ≤ (x + 7919) % 2147483647 := Int.emod_nonneg _ (by decide)
    have e2 : (x + 7919) % 2147483647 < 2147483647 := Int.emod_lt_of_pos _ (by decide)
    refine ⟨_, rfl, _, rfl, _, _, rfl, rfl, .inl ⟨by omega, by omega⟩, _, rfl, _, _, rfl, rfl, .inl ⟨by decide, by decide⟩, _, _, rfl, rfl, _, _, rfl, rfl, _, _, rfl, rfl, (by show (0 : Int) < 2147483629; decide), q _ (Int.emod_nonneg _ (by decide)) (Int.emod_lt_of_pos _ (by decide))⟩
theorem sc_lprime : FnScope ["cell", "primes"] ["cell"] (defScope s__law_prime) := ⟨rfl, rfl, rfl, by decide +kernel, rfl, by decide +kernel, by decide +kernel⟩
abbrev bdy (s : Stmt) (k : Nat) : Stmt := (defBody s).getD k (.Pass ⟨0, 0, 0, 0⟩)
theorem lprime_body : ∃ (es1 es2 : List Expr) (q1 q2 q3 p1 p2 p3 p4 p5 : Pos), defBody s__law_prime = [.Assign [.Name "primes" q1] (.List es1 p1) p2, .Assign [.Name "primes" q2] (.BinOp (.Name "primes" q3) .Add (.List es2 p3) p4) p5, bdy s__law_prime 2, bdy s__law_prime 3] ∧
    intc es1 = some [2, 3, 5, 7, 11, 13, 17, 19, 23, 29, 31, 37, 41] ∧ intc es2 = some [43, 47, 53, 59, 61, 67, 71, 73, 79, 83, 89, 97] := ⟨_, _, _, _, _, _, _, _, _, _, rfl, by decide +kernel, by decide +kernel⟩
theorem ok_lprime {f : Addr} {fd : FuncData} (F : Fun K "_law_prime" "_law_prime" s__law_prime f fd) : FnOk P w K mg base CX0 1 f fd ["cell"] spLPrime := by
  refine F.ok sc_lprime (fun vs H Q E h => ?_) (fun cdv A outer s H vs Q E hr h => ?_)
  · obtain ⟨x, rfl, _⟩ := h
    rfl
  · obtain ⟨x, rfl, q⟩ := h
    obtain ⟨es1, es2, q1, q2, q3, p1, p2, p3, p4, p5, hb, i1, i2⟩ := lprime_body
    rw [hb]
    refine ⟨_, pss_cons (ps_set (i := 1) sc_lprime.nd rfl (Or.inl rfl) (pe_lst (pa_intc _ i1)))
      (pss_cons (ps_set (i := 1) sc_lprime.nd rfl (Or.inl rfl) (pe_op op_cat (pv 1) (pe_lst (pa_intc _ i2))))
      (pss_cons (ps_if (pt_cmpR op_gt (pe_op op_mod (pv 0) pe_int) pe_int (nomark _)) (pss_one (ps_ret (pe_ix ix_ints (pv 1) (pe_op op_mod (pe_op op_fdiv (pv 0) pe_int) pe_int) (fun _ _ => rfl)))) pss_nil)
      (pss_one (ps_ret (pe_ix ix_ints (pv 1) (pe_op op_mod (pe_op op_fdiv (pv 0) pe_int) pe_int) (fun _ _ => rfl)))))), ?_⟩
    refine ⟨by decide, fun l1 h1 => ?_⟩
    refine ⟨_, rfl, by decide, fun l2 h2 => ?_⟩
    have n12 : l1 ≠ l2 := ne_of_none upd_same h2
    refine ⟨l1, l2, _, _, rfl, rfl, (by rw [upd_ne n12]; exact upd_same), upd_same, len_small (by decide), fun l3 h3 => ?_⟩
    have s3 := fun o : HO => ((Same.new h1).upd h2).upd (o := o) h3
    have hl3 : ∀ H', H' l3 = some (.lst (iL primesL)) → SqL K H' l3 (iL primesL) := fun H' h => .inl (.inl h)
    refine ⟨_, rfl, _, _, rfl, rfl, (by show (0 : Int) < 3; decide), _, _, rfl, rfl, _, rfl, ?_⟩
    have fin : ∀ (m : Int) (k : Nat), (k : Int) = x / 3 % m → k < primesL.length → primesL.getD k 0 ∈ primesL := fun m k _ h => getD_mem h
    refine ite2 (fun _ => ?_) (fun _ => ?_)
    · have e1 : 0 ≤ x / 3 % 4 := Int.emod_nonneg _ (by decide)
      have e2 : x / 3 % 4 < 4 := Int.emod_lt_of_pos _ (by decide)
      refine ⟨_, rfl, _, rfl, _, _, rfl, rfl, ⟨by decide, by decide⟩, _, _, rfl, rfl, (by show (0 : Int) < 4; decide), l3, primesL, _, (x / 3 % 4).toNat, rfl, rfl, hl3 _ upd_same, by omega, (by show _ < 25; omega), q _ _ (getD_mem (by show _ < 25; omega)) (s3 _)⟩
    · have e1 : 0 ≤ x / 3 % 25 := Int.emod_nonneg _ (by decide)
      have e2 : x / 3 % 25 < 25 := Int.emod_lt_of_pos _ (by decide)
      refine ⟨_, rfl, _, rfl, _, _, rfl, rfl, ⟨by decide, by decide⟩, _, _, rfl, rfl, (by show (0 : Int) < 25; decide), l3, primesL, _, (x / 3 % 25).toNat, rfl, rfl, hl3 _ upd_same, by omega, (by show _ < 25; omega), q _ _ (getD_mem (by show _ < 25; omega)) (s3 _)⟩
theorem sc_numbers : FnScope ["p", "many", "cell", "found", "k"] ["p", "many", "cell"] (defScope s__law_numbers) := ⟨rfl, rfl, rfl, by decide +kernel, rfl, by decide +kernel, by decide +kernel⟩
theorem ok_numbers {f : Addr} {fd : FuncData} (F : Fun K "_law_numbers" "_law_numbers" s__law_numbers f fd) (T : Txt K mg) (GN : Has P w K mg base 1 "_law_next" ["seed"] spNext) : FnOk P w K mg base CX0 2 f fd ["p", "many", "cell"] spNumbers := by
  refine F.ok sc_numbers (fun vs H Q E h => ?_) (fun cdv A outer s H vs Q E hr h => ?_)
  · obtain ⟨p, x, m, rfl, _⟩ := h
    rfl
  · obtain ⟨p, x, m, rfl, hp, hm, q⟩ := h
    refine ⟨_, pss_cons (ps_set (i := 3) sc_numbers.nd rfl (Or.inl rfl) (pe_lst pa_nil))
      (pss_cons (ps_for PassesOwn.never rfl (pi_range1 rfl T.range (pa_cons (pv 1) pa_nil)) (pg_name (i := 4) sc_numbers.nd rfl (Or.inl rfl))
        (pss_cons (ps_set (i := 2) sc_numbers.nd rfl (Or.inl rfl) (pe_callH GN hr (Nat.le_refl _) rfl (pa_cons (pe_op op_add (pe_op op_mod (pv 2) pe_int) (pe_op op_mul pe_int (pv 4))) pa_nil)))
        (pss_one (ps_expr (pe_bm PySem.F.plainAttrs_list PySem.F.slot_list_append PySem.F.type_list_append mt_append (pv 3) (pa_cons (pe_op op_mod (pe_op op_fdiv (pv 2) pe_int) (pv 0)) pa_nil))))))
      (pss_one (ps_ret (pv 3)))), ?_⟩
    refine ⟨Nat.zero_le _, fun l hl => ?_⟩
    refine ⟨_, rfl, _, rfl, by omega, by omega, for_range (n := ((m : Nat) : Int).toNat) (fun i σ H' => ∃ (c : Int) (ns : List Int) (k : Option V), σ = [some (.int p), some (.int m), some (.int c), some (.ref l), k] ∧ H' l = some (.lst (iL ns)) ∧ Same H H' ∧ ns.length = i ∧ ∀ x ∈ ns, 0 ≤ x ∧ x < p)
      ⟨x, [], none, rfl, upd_same, Same.new hl, rfl, fun x hx => by cases hx⟩ ?_ ?_⟩
    · rintro i σ H' hi ⟨c, ns, k, rfl, h1, s1, h2, h3⟩
      refine ⟨_, rfl, _, _, rfl, rfl, (by show (0 : Int) < 1000003; decide), _, rfl, _, _, rfl, rfl, .inl ⟨by decide, by decide⟩, _, _, rfl, rfl, _, rfl, fun v v0 v1 => ?_⟩
      refine ⟨_, rfl, .inl ⟨rfl, _, SqL.of h1⟩, _, rfl, _, _, rfl, rfl, ⟨by decide, by decide⟩, _, rfl, _, _, rfl, rfl, hp, l, _, _, rfl, rfl, h1, small1000 (by rw [List.length_map]; omega), ?_⟩
      refine ⟨v, ns ++ [v / 7 % p], _, rfl, upd_same.trans (by simp), ?_, by simp [h2], fun y hy => ?_⟩
      · exact fun b o e => by
          rw [upd_ne (ne_of_none e hl)]
          exact s1 b o e
      · rcases List.mem_append.mp hy with z | z
        · exact h3 y z
        · have e : y = v / 7 % p := by simpa using z
          rw [e]
          exact ⟨Int.emod_nonneg _ (by omega), Int.emod_lt_of_pos _ hp⟩
    · rintro σ H' ⟨c, ns, k, rfl, h1, s1, h2, h3⟩
      refine ⟨_, rfl, q l ns H' hl s1 h1 (by rw [h2]; simp) h3⟩
theorem sc_tells : FnScope ["p", "row", "rule", "total", "k"] ["p", "row", "rule"] (defScope s__law_tells) := ⟨rfl, rfl, rfl, by decide +kernel, rfl, by decide +kernel, by decide +kernel⟩
theorem ok_tells {f : Addr} {fd : FuncData} (F : Fun K "_law_tells" "_law_tells" s__law_tells f fd) (T : Txt K mg) : FnOk P w K mg base CX0 1 f fd ["p", "row", "rule"] (spTells K) := by
  refine F.ok sc_tells (fun vs H Q E h => ?_) (fun cdv A outer s H vs Q E hr h => ?_)
  · obtain ⟨p, a, b, rs, cs, rfl, _⟩ := h
    rfl
  · obtain ⟨p, a, b, rs, cs, rfl, hA, hB, hp, h1, h2, hc, q⟩ := h
    refine ⟨_, pss_cons (ps_set (i := 3) sc_tells.nd rfl (Or.inl rfl) pe_int)
      (pss_cons (ps_for PassesOwn.never rfl (pi_range1 rfl T.range (pa_cons (pe_callB call_lenI rfl T.len PySem.boot_len (pa_cons (pv 2) pa_nil)) pa_nil)) (pg_name (i := 4) sc_tells.nd rfl (Or.inl rfl))
        (pss_one (ps_set (i := 3) sc_tells.nd rfl (Or.inl rfl) (pe_op op_add (pv 3) (pe_op op_mul (pe_ix ix_ints (pv 2) (pv 4) (fun _ _ => rfl)) (pe_ix ix_ints (pv 1) (pe_op op_sub (pe_op op_sub (pe_callB call_lenI rfl T.len PySem.boot_len (pa_cons (pv 1) pa_nil)) pe_int) (pv 4)) (fun _ _ => rfl)))))))
      (pss_one (ps_ret (pe_op op_mod (pv 3) (pv 0))))), ?_⟩
    refine ⟨_, rfl, b, cs, rfl, hB, _, rfl, by omega, by omega, for_range (n := ((cs.length : Nat) : Int).toNat) (fun i σ H' => ∃ k : Option V, σ = [some (.int p), some (.ref a), some (.ref b), some (.int (RM.S i fun k => cs.getD k 0 * rs.getD (rs.length - 1 - k) 0)), k] ∧ H' = H) ⟨none, rfl, rfl⟩ ?_ ?_⟩
    · rintro i σ H' hi ⟨k, rfl, rfl⟩
      have hi' : i < cs.length := by omega
      have hci := hc _ (getD_mem (ns := cs) (k := i) hi')
      refine ⟨_, rfl, _, rfl, _, rfl, b, cs, _, i, rfl, rfl, hB, by omega, hi', _, rfl, _, rfl, a, rs, rfl, hA, _, _, rfl, rfl, _, rfl, _, _, rfl, rfl, a, rs, _, rs.length - 1 - i, rfl, rfl, hA, by omega, by omega, _, _, rfl, rfl, .inl ⟨by omega, by omega⟩, _, _, rfl, rfl, _, rfl, rfl⟩
    · rintro σ H' ⟨k, rfl, rfl⟩
      refine ⟨_, rfl, _, rfl, _, _, rfl, rfl, hp, ?_⟩
      rw [show ((cs.length : Nat) : Int).toNat = cs.length by omega]
      exact q
theorem sc_on : FnScope ["p", "row", "rule", "many", "found", "k"] ["p", "row", "rule", "many"] (defScope s__law_on) := ⟨rfl, rfl, rfl, by decide +kernel, rfl, by decide +kernel, by decide +kernel⟩
theorem ok_on {f : Addr} {fd : FuncData} (F : Fun K "_law_on" "_law_on" s__law_on f fd) (T : Txt K mg) (GT : Has P w K mg base 1 "_law_tells" ["p", "row", "rule"] (spTells K)) : FnOk P w K mg base CX0 2 f fd ["p", "row", "rule", "many"] (spOn K) := by
  refine F.ok sc_on (fun vs H Q E h => ?_) (fun cdv A outer s H vs Q E hr h => ?_)
  · obtain ⟨p, a, b, rs, cs, m, rfl, _⟩ := h
    rfl
  · obtain ⟨p, a, b, rs, cs, m, rfl, hA, hB, hp, h1, h2, hc, q⟩ := h
    refine ⟨_, pss_cons (ps_set (i := 4) sc_on.nd rfl (Or.inl rfl) (pe_callTy call_listI rfl T.list PyProof.Rows.boot_list (pa_cons (pv 1) pa_nil)))
      (pss_cons (ps_for PassesOwn.never rfl (pi_range1 rfl T.range (pa_cons (pv 3) pa_nil)) (pg_name (i := 5) sc_on.nd rfl (Or.inl rfl))
        (pss_one (ps_expr (pe_bm PySem.F.plainAttrs_list PySem.F.slot_list_append PySem.F.type_list_append mt_append (pv 4) (pa_cons (pe_callH GT hr (Nat.le_refl _) rfl (pa_cons (pv 0) (pa_cons (pv 4) (pa_cons (pv 2) pa_nil)))) pa_nil)))))
      (pss_one (ps_ret (pv 4)))), ?_⟩
    refine ⟨_, rfl, a, _, rfl, hA, fun l hl => ?_⟩
    refine ⟨_, rfl, _, rfl, by omega, by omega, for_range (n := ((m : Nat) : Int).toNat) (fun i σ H' => ∃ k : Option V, σ = [some (.int p), some (.ref a), some (.ref b), some (.int m), some (.ref l), k] ∧ H' l = some (.lst (iL (onL p rs cs i))) ∧ Same H H')
      ⟨none, rfl, upd_same, Same.new hl⟩ ?_ ?_⟩
    · rintro i σ H' hi ⟨k, rfl, e1, s1⟩
      have hlen := onL_len p rs cs i
      refine ⟨_, rfl, .inl ⟨rfl, _, SqL.of e1⟩, _, rfl, _, rfl, _, rfl, p, l, b, onL p rs cs i, cs, rfl, SqL.of e1, s1.seq hB, hp, by omega, by omega, hc, l, _, _, rfl, rfl, e1, small1000 (by rw [List.length_map]; omega), ?_⟩
      refine ⟨_, rfl, upd_same.trans ?_, fun b' o e => ?_⟩
      · show _ = some (HO.lst (iL (onL p rs cs i ++ [told p (onL p rs cs i) cs (onL p rs cs i).length])))
        simp [iL]
      · rw [upd_ne (ne_of_none e hl)]
        exact s1 b' o e
    · rintro σ H' ⟨k, rfl, e1, s1⟩
      refine ⟨_, rfl, q l H' hl s1 ?_⟩
      rw [e1, show ((m : Nat) : Int).toNat = m by omega]
end
theorem iL_get {ns : List Int} {i : Nat} {x : V} (h : (iL ns)[i]? = some x) : ∃ n, ns[i]? = some n ∧ x = .int n := by
  rw [List.getElem?_map] at h
  cases e : ns[i]? with
  | none => rw [e] at h; cases h
  | some n => rw [e] at h; exact ⟨n, rfl, (Option.some.inj h).symm⟩
section
variable {P : Program} {w : World} {K : PySem.W.Frag} {mg : Str → Option Value} {base : Heap}
end
def spRow24 (K : PySem.W.Frag) : Sp := fun vs H Q _ => ∃ a ns p, vs = [.ref a, .int p, .int 24] ∧ SqL K H a (iL ns) ∧ p ∈ primesL ∧ ∀ l rs H', H l = none → Same H H' → H' l = some (.lst (iL rs)) → Rw p rs → Q (.ref l) H'
def RowSt (a : Addr) (p : Int) (m : Nat) (H0 : Hp) (Wl : Option V → Option V → Prop) : TS := fun D σ H' => ∃ l rs, ∃ wv lv av : Option V, σ = [some (.ref a), some (.int p), some (.int 24), some (.int (m : Int)), some (.ref l), wv, lv, av] ∧ Wl wv lv ∧
  Same H0 H' ∧ H0 l = none ∧ H' l = some (.lst (iL rs)) ∧ rs.length = m ∧ (∀ x ∈ rs, 0 ≤ x ∧ x < p) ∧ ∀ l rs H'', H0 l = none → Same H0 H'' → H'' l = some (.lst (iL rs)) → rs.length = m → (∀ x ∈ rs, 0 ≤ x ∧ x < p) → D.rt (.ref l) H''
section
variable {P : Program} {w : World} {K : PySem.W.Frag} {mg : Str → Option Value} {base : Heap}
theorem sc_row : FnScope ["script", "p", "most", "many", "row", "way", "long", "at"] ["script", "p", "most"] (defScope s__law_row) := ⟨rfl, rfl, rfl, by decide +kernel, rfl, by decide +kernel, by decide +kernel⟩
theorem ok_row {f : Addr} {fd : FuncData} (F : Fun K "_law_row" "_law_row" s__law_row f fd) (T : Txt K mg) (GC : Has P w K mg base 1 "_law_cell_at" ["script", "k"] (spCell K)) (GN : Has P w K mg base 2 "_law_numbers" ["p", "many", "cell"] spNumbers)
    (GO : Has P w K mg base 2 "_law_on" ["p", "row", "rule", "many"] (spOn K)) : FnOk P w K mg base CX0 3 f fd ["script", "p", "most"] (spRow24 K) := by
  refine F.ok sc_row (fun vs H Q E h => ?_) (fun cdv A outer s H vs Q E hr h => ?_)
  · obtain ⟨a, ns, p, rfl, _⟩ := h
    rfl
  · obtain ⟨a, ns, p, rfl, hS, hp, q⟩ := h
    have hp2 := primes_lo p hp
    have hr1 : Room 1 _ := hr.mono (by decide)
    refine ⟨_, pss_cons (ps_set (i := 3) sc_row.nd rfl (Or.inl rfl) (pe_op op_modR (pe_callH GC hr (by decide) rfl (pa_cons (pv 0) (pa_cons pe_int pa_nil))) (pe_op op_add (pv 2) pe_int)))
      (pss_cons (ps_set (i := 4) sc_row.nd rfl (Or.inl rfl) (pe_callH GN hr (by decide) rfl (pa_cons (pv 1) (pa_cons (pv 3) (pa_cons (pe_callH GC hr (by decide) rfl (pa_cons (pv 0) (pa_cons pe_int pa_nil))) pa_nil)))))
      (pss_cut (fun D σ H' => ∃ m : Nat, m ≤ 30 ∧ RowSt a p m H (fun _ _ => True) D σ H') (pss_cons
        (ps_if (pt_cmpR op_eq (pe_op op_modR (pe_callH GC hr (by decide) rfl (pa_cons (pv 0) (pa_cons pe_int pa_nil))) pe_int) pe_int (nomark _))
          (pss_one (ps_setComp (i := 4) ["k"] rfl sc_row.nd rfl (Or.inl rfl) (CompScope.of rfl) (pi_range1 rfl T.range (pa_cons (pv 3) pa_nil))
            (fun _ _ _ _ _ _ => pg_name (i := 0) (show (["k", "script", "p", "most", "many", "row", "way", "long", "at"] : List Str).Nodup by decide +kernel) rfl (Or.inl rfl)) (fun _ _ _ _ _ _ => .no)
            (fun _ _ _ _ _ _ => pe_op op_mod (pe_callH GC hr (by decide) rfl (pa_cons (pv 1) (pa_cons (pe_op op_add pe_int (pv 0)) pa_nil))) (pv 2)))) pss_nil)
      (pss_cut (fun D σ H' => ∃ m : Nat, m ≤ 30 ∧ RowSt a p m H (fun _ _ => True) D σ H') (pss_cons
        (ps_set (i := 5) sc_row.nd rfl (Or.inl rfl) (pe_op op_modR (pe_callH GC hr (by decide) rfl (pa_cons (pv 0) (pa_cons pe_int pa_nil))) pe_int))
      (pss_cons (ps_set (i := 6) sc_row.nd rfl (Or.inl rfl) (pe_op op_modR (pe_callH GC hr (by decide) rfl (pa_cons (pv 0) (pa_cons pe_int pa_nil))) pe_int))
      (pss_cons (ps_if (PW.pt (pw_and (pt_cmpR op_gt (pv 5) pe_int (nomark _)) (pw_and1 (pt_cmpR op_le (pv 6) (pv 3) (nomark _)))))
          (pss_one (ps_set (i := 4) sc_row.nd rfl (Or.inl rfl) (pe_callH GO hr (by decide) rfl (pa_cons (pv 1) (pa_cons (pe_slice sl_ints (pv 4) po_none (po_some (pv 6)))
            (pa_cons (pe_callH GN hr (by decide) rfl (pa_cons (pv 1) (pa_cons (pv 6) (pa_cons (pe_callH GC hr (by decide) rfl (pa_cons (pv 0) (pa_cons pe_int pa_nil))) pa_nil)))) (pa_cons (pe_op op_sub (pv 3) (pv 6)) pa_nil)))))))
          pss_nil)
      (pss_cut (fun D σ H' => ∃ m : Nat, m ≤ 30 ∧ RowSt a p m H (fun wv _ => ∃ wy : Nat, wv = some (.int (wy : Int))) D σ H') (pss_cons
        (ps_if (PW.pt (pw_and (pt_cmpR op_eq (pv 5) pe_int (nomark _)) (pw_and1 (pt_cmpR op_gt (pv 3) pe_int (nomark _)))))
          (pss_cons (ps_set (i := 7) sc_row.nd rfl (Or.inl rfl) (pe_op op_modR (pe_callH GC hr (by decide) rfl (pa_cons (pv 0) (pa_cons pe_int pa_nil))) (pv 3)))
          (pss_one (ps_set (i := 4) sc_row.nd rfl (Or.inl rfl) (pe_op op_cat (pe_op op_cat (pe_slice sl_ints (pv 4) po_none (po_some (pv 7))) (pe_lst (pa_cons (pe_op op_mod (pe_op op_add (pe_ix ix_ints (pv 4) (pv 7) (fun _ _ => rfl)) pe_int) (pv 1)) pa_nil)))
            (pe_slice sl_ints (pv 4) (po_some (pe_op op_add (pv 7) pe_int)) po_none)))))
          pss_nil)
      (pss_cut (fun D σ H' => ∃ m : Nat, m ≤ 30 ∧ RowSt a p m H (fun _ _ => True) D σ H') (pss_cons
        (ps_if (pt_cmpR op_eq (pe_op op_modR (pe_op op_fdiv (pe_callH GC hr (by decide) rfl (pa_cons (pv 0) (pa_cons pe_int pa_nil))) pe_int) pe_int) pe_int (nomark _))
          (pss_cons (ps_set (i := 7) sc_row.nd rfl (Or.inl rfl) (pe_op op_modR (pe_callH GC hr (by decide) rfl (pa_cons (pv 0) (pa_cons pe_int pa_nil))) (pe_op op_add (pv 3) pe_int)))
          (pss_one (ps_set (i := 4) sc_row.nd rfl (Or.inl rfl) (pe_op op_cat (pe_comp ["k"] rfl (CompScope.of rfl) (pi_range1 rfl T.range (pa_cons (pv 7) pa_nil))
              (fun _ _ _ _ _ _ => pg_name (i := 0) (show (["k", "script", "p", "most", "many", "row", "way", "long", "at"] : List Str).Nodup by decide +kernel) rfl (Or.inl rfl)) (fun _ _ _ _ _ _ => .no) (fun _ _ _ _ _ _ => pe_int))
            (pe_slice sl_ints (pv 4) (po_some (pv 7)) po_none)))))
          pss_nil)
      (pss_one (ps_ret (pv 4)))) ?c4)) ?c3)))) ?c2)) ?c1)), ?go⟩
    case go =>
      refine ⟨_, rfl, a, ns, 1, rfl, hS, _, rfl, _, _, rfl, rfl, _, 25, rfl, rfl, by decide, fun m hm _ => ?_⟩
      refine ⟨_, rfl, _, rfl, _, rfl, a, ns, 2, rfl, hS, p, _, m, rfl, by omega, by omega, fun l rs H' hl s1 e1 e2 e3 => ?_⟩
      exact ⟨m, by omega, l, rs, _, _, _, rfl, trivial, s1, hl, e1, e2, e3, fun l rs H'' a1 a2 a3 a4 a5 => q l rs H'' a1 a2 a3 ⟨by omega, a5⟩⟩
    case c1 =>
      rintro D σ H' ⟨m, hm, l, rs, wv, lv, av, rfl, _, s1, hl, e1, e2, e3, k⟩
      refine ⟨_, rfl, a, ns, 19, rfl, s1.seq hS, _, 4, rfl, rfl, by decide, fun r _ _ => ⟨rfl, _, rfl, ?_⟩⟩
      refine ite2 (fun _ => ?_) (fun _ => ?_)
      · refine ⟨_, rfl, _, rfl, by omega, by omega, comp_range (n := ((m : Nat) : Int).toNat) (fun i ys H2 => Same H H2 ∧ ∃ zs : List Int, ys = iL zs ∧ zs.length = i ∧ ∀ x ∈ zs, 0 ≤ x ∧ x < p) ⟨s1, [], rfl, rfl, fun x hx => by cases hx⟩ ?_ ?_⟩
        · rintro i ys H2 hi ⟨s2, zs, rfl, z1, z2⟩
          refine ⟨small1000 (by rw [List.length_map]; omega), rfl, ?_⟩
          refine ⟨_, rfl, _, rfl, _, _, rfl, rfl, a, ns, 20 + i, (by simp), s2.seq hS, _, rfl, _, _, rfl, rfl, by omega, s2, zs ++ [ns.getD (20 + i) 0 % p], by simp [iL], by simp [z1], fun y hy => ?_⟩
          rcases List.mem_append.mp hy with z | z
          · exact z2 y z
          · have e : y = ns.getD (20 + i) 0 % p := by simpa using z
            rw [e]
            exact ⟨Int.emod_nonneg _ (by omega), Int.emod_lt_of_pos _ (by omega)⟩
        · rintro ys H2 ⟨s2, zs, rfl, z1, z2⟩ l2 hl2
          exact ⟨m, hm, l2, zs, _, _, _, rfl, trivial, s2.upd hl2, s2.free hl2, upd_same, by omega, z2, k⟩
      · exact ⟨m, hm, l, rs, _, _, _, rfl, trivial, s1, hl, e1, e2, e3, k⟩
    case c2 =>
      rintro D σ H' ⟨m, hm, l, rs, wv, lv, av, rfl, _, s1, hl, e1, e2, e3, k⟩
      refine ⟨_, rfl, a, ns, 3, rfl, s1.seq hS, _, 4, rfl, rfl, by decide, fun wy _ _ => ?_⟩
      refine ⟨_, rfl, a, ns, 4, rfl, s1.seq hS, _, 8, rfl, rfl, by decide, fun lg hlg _ => ?_⟩
      have same : RowSt a p m H (fun wv _ => ∃ wy : Nat, wv = some (.int (wy : Int))) D [some (.ref a), some (.int p), some (.int 24), some (.int (m : Int)), some (.ref l), some (.int (wy : Int)), some (.int (lg : Int)), av] H' := ⟨l, rs, _, _, _, rfl, ⟨wy, rfl⟩, s1, hl, e1, e2, e3, k⟩
      refine ⟨_, rfl, _, _, rfl, rfl, _, rfl, ?_⟩
      refine ite2 (fun _ => ?_) (fun _ => ?_)
      · refine ⟨_, rfl, _, rfl, _, _, rfl, rfl, _, rfl, ?_⟩
        refine ite2 (fun h1 => ?_) (fun _ => ?_)
        · have h1' : (lg : Int) ≤ (m : Int) := of_decide_eq_true h1
          refine ⟨_, rfl, _, rfl, _, rfl, _, rfl, l, rs, rfl, SqL.of e1, lg, .inl ⟨rfl, rfl, fun l2 hl2 => ?_⟩⟩
          have s2 : Same H (upd H' l2 (.lst (iL (rs.take lg)))) := s1.upd hl2
          refine ⟨_, rfl, _, rfl, _, rfl, a, ns, 5, rfl, s2.seq hS, p, _, lg, rfl, by omega, by omega, fun l3 cs H3 hl3 s3 f1 f2 f3 => ?_⟩
          have s23 := s2.trans s3
          refine ⟨_, rfl, _, rfl, _, _, rfl, rfl, p, l2, l3, rs.take lg, cs, m - lg, ?_, SqL.of (s3 _ _ upd_same), SqL.of f1, by omega, (by rw [List.length_take]; omega), (by rw [List.length_take]; omega), fun c hc => ?_, fun l4 H4 hl4 s4 g1 => ?_⟩
          · rw [Int.natCast_sub (by omega)]; rfl
          · have := f3 c hc
            omega
          · refine ⟨m, hm, l4, onL p (rs.take lg) cs (m - lg), _, _, _, rfl, ⟨wy, rfl⟩, s23.trans s4, s23.free hl4, g1, ?_, onL_num (by omega) (fun x hx => e3 x (List.mem_of_mem_take hx)) _, k⟩
            rw [onL_len, List.length_take]
            omega
        · exact ⟨m, hm, same⟩
      · exact ⟨m, hm, same⟩
    case c3 =>
      rintro D σ H' ⟨m, hm, l, rs, wv, lv, av, rfl, ⟨wy, rfl⟩, s1, hl, e1, e2, e3, k⟩
      have same : ∀ av, RowSt a p m H (fun _ _ => True) D [some (.ref a), some (.int p), some (.int 24), some (.int (m : Int)), some (.ref l), some (.int (wy : Int)), lv, av] H' := fun av => ⟨l, rs, _, _, _, rfl, trivial, s1, hl, e1, e2, e3, k⟩
      refine ⟨_, rfl, rfl, _, rfl, ?_⟩
      refine ite2 (fun _ => ?_) (fun _ => ?_)
      · refine ⟨_, rfl, _, _, rfl, rfl, _, rfl, ?_⟩
        refine ite2 (fun h1 => ?_) (fun _ => ?_)
        · have h1' : (0 : Int) < (m : Int) := of_decide_eq_true h1
          refine ⟨_, rfl, a, ns, 6, rfl, s1.seq hS, _, rfl, _, m, rfl, rfl, by omega, fun t ht _ => ?_⟩
          refine ⟨_, rfl, _, rfl, _, rfl, l, rs, rfl, SqL.of e1, t, .inl ⟨rfl, rfl, fun l2 hl2 => ?_⟩⟩
          have s2 : Same H' (upd H' l2 (.lst (iL (rs.take t)))) := Same.new hl2
          refine ⟨_, rfl, _, rfl, l, rs, _, t, rfl, rfl, SqL.of (s2 _ _ e1), rfl, by omega, _, _, rfl, rfl, _, rfl, _, _, rfl, rfl, by omega, (show 1 ≤ sizeLine by decide), fun l3 hl3 => ?_⟩
          have s3 := s2.upd (o := .lst [.int ((rs.getD t 0 + 1) % p)]) hl3
          refine ⟨l2, l3, _, _, rfl, rfl, (by rw [upd_ne (ne_of_none upd_same hl3)]; exact upd_same), upd_same, (by rw [List.length_map, List.length_take]; exact len_small (by show _ + 1 ≤ _; omega)), fun l4 hl4 => ?_⟩
          have s4 := s3.upd (o := .lst (iL (rs.take t) ++ [.int ((rs.getD t 0 + 1) % p)])) hl4
          refine ⟨_, rfl, _, rfl, _, _, rfl, rfl, _, rfl, l, rs, rfl, SqL.of (s4 _ _ e1), t + 1, .inr ⟨by rw [Int.natCast_add]; rfl, rfl, fun l5 hl5 => ?_⟩⟩
          have s5 := s4.upd (o := .lst (iL (rs.drop (t + 1)))) hl5
          refine ⟨l4, l5, _, _, rfl, rfl, (by rw [upd_ne (ne_of_none upd_same hl5)]; exact upd_same), upd_same, (by rw [List.length_append, List.length_map, List.length_map, List.length_take, List.length_drop]; exact len_small (by show _ + 1 + _ ≤ _; omega)), fun l6 hl6 => ?_⟩
          have s6 := s1.trans (s5.upd (o := .lst (iL (rs.take t) ++ [.int ((rs.getD t 0 + 1) % p)] ++ iL (rs.drop (t + 1)))) hl6)
          refine ⟨m, hm, l6, rs.take t ++ [(rs.getD t 0 + 1) % p] ++ rs.drop (t + 1), _, _, _, rfl, trivial, s6, ?_, upd_same.trans (by simp [iL]), (by simp; omega), fun x hx => ?_, k⟩
          · exact (s1.trans s5).free hl6
          · rcases List.mem_append.mp hx with z | z
            · rcases List.mem_append.mp z with z | z
              · exact e3 x (List.mem_of_mem_take z)
              · have e : x = (rs.getD t 0 + 1) % p := by simpa using z
                rw [e]
                exact ⟨Int.emod_nonneg _ (by omega), Int.emod_lt_of_pos _ (by omega)⟩
            · exact e3 x (List.mem_of_mem_drop z)
        · exact ⟨m, hm, same _⟩
      · exact ⟨m, hm, same _⟩
    case c4 =>
      rintro D σ H' ⟨m, hm, l, rs, wv, lv, av, rfl, _, s1, hl, e1, e2, e3, k⟩
      refine ⟨_, rfl, a, ns, 3, rfl, s1.seq hS, _, _, rfl, rfl, ⟨by decide, by decide⟩, _, 5, rfl, rfl, by decide, fun r _ _ => ⟨rfl, _, rfl, ?_⟩⟩
      refine ite2 (fun _ => ?_) (fun _ => ?_)
      · refine ⟨_, rfl, a, ns, 6, rfl, s1.seq hS, _, rfl, _, _, rfl, rfl, _, m + 1, rfl, (by rw [Int.natCast_add]; rfl), by omega, fun t ht _ => ?_⟩
        refine ⟨_, rfl, _, rfl, by omega, by omega, comp_range (n := ((t : Nat) : Int).toNat) (fun i ys H2 => H2 = H' ∧ ys = iL (List.replicate i 0)) ⟨rfl, rfl⟩ ?_ ?_⟩
        · rintro i ys H2 hi ⟨rfl, rfl⟩
          refine ⟨small1000 (by rw [List.length_map, List.length_replicate]; omega), rfl, rfl, ?_⟩
          rw [List.replicate_succ']
          simp [iL]
        · rintro ys H2 ⟨rfl, rfl⟩ l2 hl2
          have s2 : Same H2 (upd H2 l2 (.lst (iL (List.replicate ((t : Nat) : Int).toNat 0)))) := Same.new hl2
          refine ⟨_, rfl, _, rfl, _, rfl, l, rs, rfl, SqL.of (s2 _ _ e1), t, .inr ⟨rfl, rfl, fun l3 hl3 => ?_⟩⟩
          have s3 := s2.upd (o := .lst (iL (rs.drop t))) hl3
          refine ⟨l2, l3, _, _, rfl, rfl, (by rw [upd_ne (ne_of_none upd_same hl3)]; exact upd_same), upd_same, (by rw [List.length_map, List.length_map, List.length_replicate, List.length_drop]; exact len_small (by omega)), fun l4 hl4 => ?_⟩
          refine ⟨_, rfl, k l4 (List.replicate ((t : Nat) : Int).toNat 0 ++ rs.drop t) _ ((s1.trans s3).free hl4) ((s1.trans s3).upd hl4) (upd_same.trans (by simp [iL])) (by simp; omega) fun x hx => ?_⟩
          rcases List.mem_append.mp hx with z | z
          · have e : x = 0 := (List.mem_replicate.mp z).2
            omega
          · exact e3 x (List.mem_of_mem_drop z)
      · exact ⟨_, rfl, k l rs H' hl s1 e1 e2 e3⟩
end
end Rf
namespace Rf
open PySem L2 RM
structure Errs (K : PySem.W.Frag) (mg : Str → Option Value) (R : Addr) (c : Nat → Addr) : Prop where
  r : mg "RuleError" = some (.ref R)
  b0 : mg "NoPrime" = some (.ref (c 0))
  b1 : mg "NoRow" = some (.ref (c 1))
  b2 : mg "NoRule" = some (.ref (c 2))
  b3 : mg "NoPlace" = some (.ref (c 3))
  b4 : mg "TooLarge" = some (.ref (c 4))
  b5 : mg "NoTurn" = some (.ref (c 5))
  b6 : mg "NoNote" = some (.ref (c 6))
  ec : ∀ i, i < 7 → ExcCls K (c i)
  kk : ∀ i j, i < 7 → j < 7 → PySem.W.kitOne K (.ref (c i)) (.ref (c j)) = some (i == j)
  kv : ∀ i, i < 7 → PySem.W.kitOne K (.ref (c i)) (.type "ValueError") = some true
  ex : ∀ i, i < 7 → PySem.W.exmOne K (.ref (c i)) (.ref R) = some true
theorem smallI {i : Int} (h : i.natAbs < 2 ^ 200) : SmallI i := by
  unfold SmallI
  by_cases z : i.natAbs = 0
  · rw [z]; decide
  · exact Nat.lt_trans ((Nat.log2_lt (k := 200) z).mpr h) (by decide)
theorem small30 : SmallI 30 := smallI (by decide)
section
variable {P : Program} {w : World} {K : PySem.W.Frag} {mg : Str → Option Value} {base : Heap}
end
def intT (x : Int) : Str := toString x
def primeT (p : Int) : Str := intT p ++ ":"
def shownT (p : Int) (rs : List Int) : Str := Txt.join " " (primeT p :: rs.map intT)
def spWP : Sp := fun vs H Q _ => ∃ p, vs = [.int p] ∧ SmallI p ∧ Q (.str (primeT p)) H
theorem str_nil (x : Str) : Str.empty ++ x = x := by
  obtain ⟨c⟩ := x
  show (⟨#[] ++ c⟩ : Str) = ⟨c⟩
  rw [Array.empty_append]
theorem intT_len {x : Int} (h : SmallI x) : (intT x).length ≤ 1921 := toks_len h
theorem primeT_len {p : Int} (h : SmallI p) : (primeT p).length ≤ 1922 := by
  unfold primeT
  rw [strLen_append]
  have := intT_len h
  have : (":" : Str).length = 1 := by decide
  omega
theorem sum_le {B : Nat} : ∀ {l : List Nat}, (∀ x ∈ l, x ≤ B) → l.sum ≤ l.length * B
  | [], _ => Nat.zero_le _
  | x :: l, h => by
    have a := h x List.mem_cons_self
    have b := sum_le (l := l) fun y hy => h y (List.mem_cons_of_mem _ hy)
    rw [List.sum_cons, List.length_cons, Nat.succ_mul]
    omega
section
variable {P : Program} {w : World} {K : PySem.W.Frag} {mg : Str → Option Value} {base : Heap}
theorem sc_written_prime : FnScope ["p"] ["p"] (defScope s_written_prime) := ⟨rfl, rfl, rfl, by decide +kernel, rfl, by decide +kernel, by decide +kernel⟩
theorem ok_written_prime {f : Addr} {fd : FuncData} (F : Fun K "written_prime" "written_prime" s_written_prime f fd) : FnOk P w K mg base CX0 1 f fd ["p"] spWP := by
  refine F.ok sc_written_prime (fun vs H Q E h => ?_) (fun cdv A outer s H vs Q E hr h => ?_)
  · obtain ⟨p, rfl, _⟩ := h
    rfl
  · obtain ⟨p, rfl, hs, k⟩ := h
    refine ⟨_, pss_one (ps_ret (pe_joinS (pj_cons (pe_fmtI (pv 0)) (pj_cons pe_str pj_nil)))), ?_⟩
    have e1 : Str.empty ++ (Str.ofString (toString p)) = intT p := str_nil _
    have l1 := primeT_len hs
    have l0 := intT_len hs
    refine ⟨_, rfl, p, rfl, hs, _, rfl, ?_⟩
    rw [e1]
    exact ⟨Nat.le_trans l0 (by decide), _, rfl, Nat.le_trans l1 (by decide), Nat.le_trans l1 (by decide), k⟩
end
theorem intT_cps {x : Int} (h0 : 0 ≤ x) (h1 : x ≤ 100) : (intT x).cps.toList = dg x.toNat := intT_dg h0 h1
theorem primeT_cps {p : Int} (h0 : 0 ≤ p) (h1 : p ≤ 100) : (primeT p).cps.toList = dg p.toNat ++ [58] := by
  unfold primeT
  rw [cps_app, intT_cps h0 h1]
  rfl
theorem primeT_inj {x y : Int} (h0 : 0 ≤ x) (h1 : x ≤ 100) (h2 : 0 ≤ y) (h3 : y ≤ 100) (h : primeT x = primeT y) : x = y := by
  have e := congrArg (fun s : Str => s.cps.toList) h
  simp only [primeT_cps h0 h1, primeT_cps h2 h3] at e
  exact dg_inj h0 h1 h2 h3 (List.append_cancel_right e)
theorem intT_free {x : Int} (h0 : 0 ≤ x) (h1 : x ≤ 100) : 32 ∉ (intT x).cps.toList := fun z => by
  rw [intT_cps h0 h1] at z
  have := dg_free h0 h1 32 z
  omega
theorem primeT_free {x : Int} (h0 : 0 ≤ x) (h1 : x ≤ 100) : 32 ∉ (primeT x).cps.toList := fun z => by
  rw [primeT_cps h0 h1, List.mem_append] at z
  rcases z with z | z
  · have := dg_free h0 h1 32 z
    omega
  · exact absurd (List.mem_singleton.mp z) (by decide)
theorem dg_len (n : Nat) : (dg n).length ≤ 3 := by
  unfold dg
  split
  · simp
  · split <;> simp
theorem intT_len3 {x : Int} (h0 : 0 ≤ x) (h1 : x ≤ 100) : (intT x).length ≤ 3 := by
  have e := congrArg List.length (intT_cps h0 h1)
  have := dg_len x.toNat
  rw [Array.length_toList] at e
  show (intT x).cps.size ≤ 3
  omega
theorem primeT_len4 {x : Int} (h0 : 0 ≤ x) (h1 : x ≤ 100) : (primeT x).length ≤ 4 := by
  unfold primeT
  rw [strLen_append]
  have := intT_len3 h0 h1
  have : (":" : Str).length = 1 := by decide
  omega
def wordsT (p : Int) (rs : List Int) : List Str := primeT p :: rs.map intT
theorem blank_is : (" " : Str) = blk32 := by decide
theorem shownT_join (p : Int) (rs : List Int) : shownT p rs = Str.join blk32 (wordsT p rs) := by
  unfold shownT wordsT
  rw [blank_is]
  exact StrLaws.glued_eq_join _ _
theorem wordsT_free {p : Int} {rs : List Int} (hp : p ∈ primesL) (hR : ∀ x ∈ rs, 0 ≤ x ∧ x < p) : ∀ x ∈ wordsT p rs, 32 ∉ x.cps.toList := fun x hx => by
  have := primes_lo p hp
  rcases List.mem_cons.mp hx with rfl | hx
  · exact primeT_free (by omega) (by omega)
  · obtain ⟨y, hy, rfl⟩ := List.mem_map.mp hx
    have := hR y hy
    exact intT_free (by omega) (by omega)
theorem split_shown {p : Int} {rs : List Int} (hp : p ∈ primesL) (hR : ∀ x ∈ rs, 0 ≤ x ∧ x < p) : Txt.split (shownT p rs) " " = wordsT p rs := by
  rw [shownT_join, blank_is]
  exact split_is (fun z => List.cons_ne_nil _ _ z) (wordsT_free hp hR)
theorem join_len {B : Nat} : ∀ ws : List Str, (∀ x ∈ ws, x.length ≤ B) → (Str.join blk32 ws).length ≤ ws.length * (B + 1)
  | [], _ => Nat.zero_le _
  | [x], h => by
    have := h x List.mem_cons_self
    show x.length ≤ 1 * (B + 1)
    omega
  | x :: y :: r, h => by
    have a := h x List.mem_cons_self
    have b := join_len (y :: r) fun z hz => h z (List.mem_cons_of_mem _ hz)
    rw [join_two, strLen_append, strLen_append, List.length_cons, Nat.succ_mul]
    have : blk32.length = 1 := by decide
    omega
theorem shown_len {p : Int} {rs : List Int} (hp : p ∈ primesL) (hR : ∀ x ∈ rs, 0 ≤ x ∧ x < p) : (shownT p rs).length ≤ (rs.length + 1) * 5 := by
  have := primes_lo p hp
  have h := join_len (B := 4) (wordsT p rs) fun x hx => by
    rcases List.mem_cons.mp hx with rfl | hx
    · exact primeT_len4 (by omega) (by omega)
    · obtain ⟨y, hy, rfl⟩ := List.mem_map.mp hx
      have := hR y hy
      have := intT_len3 (x := y) (by omega) (by omega)
      omega
  rw [shownT_join]
  unfold wordsT at h ⊢
  rw [List.length_cons, List.length_map] at h
  exact h
theorem sm100 {x : Int} (h0 : 0 ≤ x) (h1 : x ≤ 100) : SmallI x := smallI (Nat.lt_of_lt_of_le (show x.natAbs < 101 by omega) (by decide))
theorem cut_one (x : V) (xs : List V) : cutV (x :: xs) (some 1) none = xs := by
  unfold cutV HT.sIx
  simp
section
variable {P : Program} {w : World} {K : PySem.W.Frag} {mg : Str → Option Value} {base : Heap}
end
end Rf
namespace Rf
open PySem L2 RM
def ShT (w : Str) : Prop := w.length ≤ 1000 ∧ ∀ c ∈ w.cps.toList, c < 1000
theorem ShT.repr {w : Str} (h : ShT w) : (reprText w).length ≤ 100000 := by
  have a := PySem.StrLaws.reprText_len w fun c hc => Nat.lt_of_lt_of_le (h.2 c hc) (by decide)
  have := h.1
  omega
def Note (t : Str) (p : Int) (rs : List Int) : Prop := p ∈ primesL ∧ Rw p rs ∧ t = shownT p rs
def spRPX (c : Nat → Addr) : Sp := fun vs H Q E => ∃ w, vs = [.str w] ∧ ShT w ∧ (∀ p ∈ primesL, w = primeT p → Q (.int p) H) ∧ ((∀ p ∈ primesL, w ≠ primeT p) → E (.ref (c 6)) none H)
def spRNX (c : Nat → Addr) : Sp := fun vs H Q E => ∃ p w, vs = [.int p, .str w] ∧ 0 ≤ p ∧ p ≤ 97 ∧ ShT w ∧ (∀ n, 0 ≤ n → n < p → w = intT n → Q (.int n) H) ∧ ((∀ n, 0 ≤ n → n < p → w ≠ intT n) → E (.ref (c 6)) none H)
def spReadX (c : Nat → Addr) : Sp := fun vs H Q E => ∃ t, vs = [.str t] ∧ ShT t ∧ (∀ p rs, Note t p rs → ∀ t' l H', Same H H' → H' l = some (.lst (iL rs)) → H' t' = some (.tup [.int p, .ref l]) → Q (.ref t') H') ∧
  ((∀ p rs, ¬ Note t p rs) → ∀ H', Same H H' → E (.ref (c 6)) none H')
theorem join_mem {c : Nat} {x : Nat} : ∀ {ws : List Str} {w : Str}, w ∈ ws → x ∈ w.cps.toList → x ∈ (Str.join ⟨#[c]⟩ ws).cps.toList
  | [], _, h, _ => absurd h (by simp)
  | [y], w, h, hx => by
    obtain rfl := List.mem_singleton.mp h
    exact hx
  | y :: z :: r, w, h, hx => by
    rw [join_two_cps, List.mem_append]
    rcases List.mem_cons.mp h with rfl | h
    · exact .inl hx
    · exact .inr (List.mem_cons_of_mem _ (join_mem h hx))
theorem ShT.part {t w : Str} (h : ShT t) (hw : w ∈ Txt.split t " ") : ShT w := by
  refine ⟨Nat.le_trans (PyProof.Rows.part_short hw) h.1, fun c hc => h.2 c ?_⟩
  have e := PySem.StrLaws.join_split t blk32
  rw [blank_is] at hw
  rw [← e]
  exact join_mem hw hc
theorem note_split {t : Str} {p : Int} {rs : List Int} (hp : p ∈ primesL) (hR : Rw p rs) (h : Txt.split t " " = wordsT p rs) : t = shownT p rs := by
  rw [shownT_join, ← h, blank_is]
  exact (PySem.StrLaws.join_split t blk32).symm
section
variable {P : Program} {w : World} {K : PySem.W.Frag} {mg : Str → Option Value} {base : Heap}
theorem sc_x_read_prime : FnScope ["word", "p"] ["word"] (defScope s_read_prime) := ⟨rfl, rfl, rfl, by decide +kernel, rfl, by decide +kernel, by decide +kernel⟩
theorem okX_read_prime {f : Addr} {fd : FuncData} {R : Addr} {c : Nat → Addr} (F : Fun K "read_prime" "read_prime" s_read_prime f fd) (T : Txt K mg) (Er : Errs K mg R c) (G_written_prime : Has P w K mg base 1 "written_prime" ["p"] spWP) : FnOk P w K mg base (CX1 P w) 2 f fd ["word"] (spRPX c) := by
  refine F.okX sc_x_read_prime (fun vs H Q E h => ?_) (fun cdv A outer s H vs Q E hr h => ?_)
  · obtain ⟨t, rfl, _⟩ := h
    rfl
  · obtain ⟨t, rfl, hS, k1, k2⟩ := h
    obtain ⟨a, ha, hP⟩ := T.primes
    refine ⟨_, (pss_cons (PS.nox (ps_for PassesOwn.never rfl (pi_tup (pe_glob (v := .ref a) rfl ha rfl)) (pg_name (i := 1) sc_x_read_prime.nd rfl (Or.inl rfl)) (pss_one (ps_if (pt_cmpR op_eq (pv 0) (pe_callH G_written_prime hr (by decide) rfl (pa_cons (pv 1) pa_nil)) (nomark _)) (pss_one (ps_ret (pv 1))) pss_nil))))
      (pss_one (ps_raiseM xok_def rfl rfl Er.b6 (Er.ec 6 (by decide)).made (pjn_repr (pv 0) (pjn_str pjn_nil)) (by decide +kernel)))), ?_⟩
    refine ⟨a, rfl, ⟨_, hP H⟩, for_tup (K := K) (a := a) (xs := iL primesL) (fun i σ H' => ∃ v, σ = [some (.str t), v] ∧ H' = H ∧ ∀ j q, j < i → primesL[j]? = some q → t ≠ primeT q) ⟨none, rfl, rfl, fun j q hj => absurd hj (Nat.not_lt_zero _)⟩ (fun _ _ H' _ _ => hP H') ?_ ?_⟩
    · rintro i v σ H' hi ⟨v0, rfl, rfl, hall⟩
      obtain ⟨q, en, rfl⟩ := iL_get hi
      have hm := List.mem_of_getElem? en
      have hq := primes_lo q hm
      refine ⟨_, rfl, _, rfl, q, rfl, sm100 (by omega) (by omega), rfl, _, rfl, ite2 (fun h => ?_) (fun h => ?_)⟩
      · exact ⟨_, rfl, k1 q hm (V.str.inj (of_decide_eq_true h))⟩
      · refine ⟨_, rfl, rfl, fun j q' hj hq' => ?_⟩
        by_cases hji : j = i
        · subst hji
          rw [en] at hq'
          cases hq'
          exact fun z => h (decide_eq_true (by rw [z]))
        · exact hall j q' (by omega) hq'
    · rintro σ H' ⟨v0, rfl, rfl, hall⟩
      refine ⟨⟨⟨_, rfl, rfl, _, rfl, hS.repr⟩, trivial⟩, k2 fun p hp => ?_⟩
      obtain ⟨j, hj⟩ := List.getElem?_of_mem hp
      have hl := (List.getElem?_eq_some_iff.mp hj).1
      exact hall j p (by rw [List.length_map]; exact hl) hj
theorem sc_x_read_number : FnScope ["p", "word", "number"] ["p", "word"] (defScope s_read_number) := ⟨rfl, rfl, rfl, by decide +kernel, rfl, by decide +kernel, by decide +kernel⟩
theorem okX_read_number {f : Addr} {fd : FuncData} {R : Addr} {c : Nat → Addr} (F : Fun K "read_number" "read_number" s_read_number f fd) (T : Txt K mg) (Er : Errs K mg R c) (TStr : mg "str" = none) : FnOk P w K mg base (CX1 P w) 1 f fd ["p", "word"] (spRNX c) := by
  refine F.okX sc_x_read_number (fun vs H Q E h => ?_) (fun cdv A outer s H vs Q E hr h => ?_)
  · obtain ⟨p, t, rfl, _⟩ := h
    rfl
  · obtain ⟨p, t, rfl, hp0, hp, hS, k1, k2⟩ := h
    refine ⟨_, (pss_cons (PS.nox (ps_for PassesOwn.never rfl (pi_range1 rfl T.range (pa_cons (pv 0) pa_nil)) (pg_name (i := 2) sc_x_read_number.nd rfl (Or.inl rfl)) (pss_one (ps_if (pt_cmpR op_eq (pv 1) (pe_callTy call_str_int rfl TStr PyProof.Rows.boot_str (pa_cons (pv 2) pa_nil)) (nomark _)) (pss_one (ps_ret (pv 2))) pss_nil))))
      (pss_one (ps_raiseM xok_def rfl rfl Er.b6 (Er.ec 6 (by decide)).made (pjn_repr (pv 1) (pjn_str (pjn_int (pv 0) pjn_nil))) (by decide +kernel)))), ?_⟩
    refine ⟨_, rfl, _, rfl, by omega, by omega, for_range (n := p.toNat) (fun i σ H' => ∃ v, σ = [some (.int p), some (.str t), v] ∧ H' = H ∧ ∀ j : Nat, j < i → t ≠ intT j) ⟨none, rfl, rfl, fun j hj => absurd hj (Nat.not_lt_zero _)⟩ ?_ ?_⟩
    · rintro i σ H' hi ⟨v0, rfl, rfl, hall⟩
      have ei : (0 : Int) + (i : Int) = i := Int.zero_add _
      rw [ei]
      refine ⟨_, rfl, _, rfl, (i : Int), rfl, sm100 (by omega) (by omega), rfl, _, rfl, ite2 (fun h => ?_) (fun h => ?_)⟩
      · exact ⟨_, rfl, k1 i (by omega) (by omega) (V.str.inj (of_decide_eq_true h))⟩
      · refine ⟨_, rfl, rfl, fun j hj z => ?_⟩
        by_cases hji : j = i
        · subst hji
          exact h (decide_eq_true (congrArg V.str z))
        · exact hall j (by omega) z
    · rintro σ H' ⟨v0, rfl, rfl, hall⟩
      refine ⟨⟨⟨_, rfl, rfl, _, rfl, hS.repr⟩, ⟨_, rfl, rfl, _, rfl, sm100 hp0 (by omega)⟩, trivial⟩, k2 fun n h0 h1 => ?_⟩
      have := hall n.toNat (by omega)
      rwa [show ((n.toNat : Nat) : Int) = n by omega] at this
theorem sc_x_read : FnScope ["text", "words", "p", "row"] ["text"] (defScope s_read) := ⟨rfl, rfl, rfl, by decide +kernel, rfl, by decide +kernel, by decide +kernel⟩
set_option maxHeartbeats 1000000 in
theorem okX_read {f : Addr} {fd : FuncData} {R : Addr} {c : Nat → Addr} (F : Fun K "read" "read" s_read f fd) (T : Txt K mg) (Er : Errs K mg R c) (G_read_prime : HasX P w K mg base 2 "read_prime" ["word"] (spRPX c)) (G_read_number : HasX P w K mg base 1 "read_number" ["p", "word"] (spRNX c)) : FnOk P w K mg base (CX1 P w) 3 f fd ["text"] (spReadX c) := by
  refine F.okX sc_x_read (fun vs H Q E h => ?_) (fun cdv A outer s H vs Q E hr h => ?_)
  · obtain ⟨t, rfl, _⟩ := h
    rfl
  · obtain ⟨t, rfl, hS, k1, k2⟩ := h
    obtain ⟨tM, hM⟩ := T.most
    refine ⟨_, (pss_cons (ps_set (i := 1) sc_x_read.nd rfl (Or.inl rfl) (pe_bm PySem.F.plainAttrs_str PySem.F.slot_str_split PySem.F.type_str_split mt_split (pv 0) (pa_cons pe_str pa_nil)))
      (pss_cons (ps_set (i := 2) sc_x_read.nd rfl (Or.inr rfl) (pe_callX xok_def G_read_prime hr (by decide) rfl (pa_cons (pe_ix ix_list (pv 1) pe_int (fun _ _ => rfl)) pa_nil)))
      (pss_cons (ps_setCompX (i := 3) xokV_def rfl ⟨rfl, rfl⟩ ["word"] rfl sc_x_read.nd rfl (Or.inl rfl) (CompScope.of rfl) (pi_list (pe_slice sl_list (pv 1) (po_some pe_int) po_none)) (fun _ _ _ _ _ _ _ => (pg_name (i := 0) (show (["word", "text", "words", "p", "row"] : List Str).Nodup by decide +kernel) rfl (Or.inl rfl))) (fun _ _ _ _ _ _ _ => .no) (fun _ _ _ _ _ _ _ hx => (pe_callC hx G_read_number hr (by decide) rfl (pa_cons (pv 3) (pa_cons (pv 0) pa_nil)))))
      (pss_cons (ps_if (pt_cmpR op_gt (pe_callB call_lenI rfl T.len PySem.boot_len (pa_cons (pv 3) pa_nil)) (pe_glob (v := .int 30) rfl hM ⟨_, rfl⟩) (nomark _)) (pss_one (ps_raiseM xok_def rfl rfl Er.b6 (Er.ec 6 (by decide)).made (pjn_str (pjn_int (pe_glob (v := .int 30) rfl hM ⟨_, rfl⟩) (pjn_str pjn_nil))) (by decide +kernel))) pss_nil)
      (pss_one (ps_ret (pe_tup (pa_cons (pv 2) (pa_cons (pv 3) pa_nil))))))))), ?_⟩
    refine ⟨_, rfl, rfl, _, _, rfl, rfl, by decide, Nat.le_trans (Nat.add_le_add_right hS.1 2) (by decide), fun l0 n0 => ?_⟩
    obtain ⟨w0, rest, hw⟩ : ∃ w0 rest, Txt.split t " " = w0 :: rest := by
      cases e : Txt.split t " " with
      | nil => have := PyProof.Rows.split_pos t " "; rw [e] at this; exact absurd this (by decide)
      | cons x y => exact ⟨x, y, rfl⟩
    have hlen : (w0 :: rest).length ≤ 1002 := hw ▸ Nat.le_trans (PyProof.Rows.split_le t " ") (Nat.add_le_add_right hS.1 2)
    have hpart : ∀ x ∈ w0 :: rest, ShT x := fun x hx => hS.part (hw ▸ hx)
    have noteW : ∀ p rs, Note t p rs → w0 = primeT p ∧ rest = rs.map intT := fun p rs hN => by
      have e := hw.symm.trans (congrArg (fun z => Txt.split z " ") hN.2.2)
      rw [split_shown hN.1 hN.2.1.num] at e
      exact List.cons.inj e
    rw [hw]
    have s1 := Same.new (o := .lst ((w0 :: rest).map V.str)) n0
    generalize hH1 : upd H l0 (.lst ((w0 :: rest).map V.str)) = H1 at s1
    have e1 : H1 l0 = some (.lst ((w0 :: rest).map V.str)) := by rw [← hH1]; exact upd_same
    refine ⟨_, rfl, l0, _, _, _, rfl, rfl, SqL.of e1, atI_nat (j := 0) rfl, w0, rfl, hpart w0 List.mem_cons_self, fun p hp ep => ?_, fun hno => k2 (fun p rs hN => hno p hN.1 (noteW p rs hN).1) _ s1⟩
    have hp2 := primes_lo p hp
    have noteP : ∀ p' rs, Note t p' rs → Note t p rs ∧ rest = rs.map intT := fun p' rs hN => by
      have := primes_lo p' hN.1
      obtain ⟨ea, eb⟩ := noteW p' rs hN
      have e := primeT_inj (x := p') (y := p) (by omega) (by omega) (by omega) (by omega) (ea.symm.trans ep)
      exact ⟨e ▸ hN, eb⟩
    refine ⟨_, rfl, _, rfl, l0, _, rfl, SqL.of e1, fun l1 n1 => ?_⟩
    have ec : cutV ((w0 :: rest).map V.str) (some 1) none = rest.map V.str := cut_one _ _
    rw [ec]
    have s2 := s1.upd (o := .lst (rest.map V.str)) n1
    generalize hH2 : upd H1 l1 (.lst (rest.map V.str)) = H2 at s2
    have e2 : H2 l1 = some (.lst (rest.map V.str)) := by rw [← hH2]; exact upd_same
    refine ⟨l1, rfl, ⟨_, SqL.of e2⟩, comp_list (K := K) (a := l1) (xs := rest.map V.str) (fun i ys H' => H' = H2 ∧ ∃ ns, ys = iL ns ∧ rest.take i = ns.map intT ∧ ∀ x ∈ ns, 0 ≤ x ∧ x < p) ⟨rfl, [], rfl, rfl, fun x hx => absurd hx (by simp)⟩ (fun i ys H' _ h => h.1 ▸ SqL.of e2) ?_ ?_⟩
    · rintro i x ys H' hi ⟨rfl, ns, rfl, hns, hin⟩
      rw [List.getElem?_map] at hi
      cases en : rest[i]? with
      | none => rw [en] at hi; cases hi
      | some wd =>
        rw [en] at hi
        cases hi
        have hil : i < rest.length := (List.getElem?_eq_some_iff.mp en).1
        have hln : ns.length = i := by
          have := congrArg List.length hns
          rw [List.length_take, List.length_map] at this
          omega
        have e3 : rest.take (i + 1) = rest.take i ++ [wd] := by rw [List.take_succ, en]; rfl
        refine ⟨?_, rfl, _, rfl, _, rfl, p, wd, rfl, by omega, by omega, hpart wd (List.mem_cons_of_mem _ (List.mem_of_getElem? en)), fun n h0 h1 en' => ⟨rfl, ns ++ [n], ?_, ?_, fun x hx => ?_⟩, fun hno => k2 (fun p' rs hN => ?_) _ s2⟩
        · rw [List.length_map, hln]
          rw [List.length_cons] at hlen
          exact Nat.lt_of_lt_of_le (Nat.lt_trans hil hlen) (by decide)
        · rw [iL, iL, List.map_append]; rfl
        · rw [e3, hns, List.map_append, en']; rfl
        · rcases List.mem_append.mp hx with z | z
          · exact hin x z
          · obtain rfl := List.mem_singleton.mp z
            exact ⟨h0, h1⟩
        · obtain ⟨hN', er⟩ := noteP p' rs hN
          rw [er, List.getElem?_map] at en
          cases e4 : rs[i]? with
          | none => rw [e4] at en; cases en
          | some n =>
            rw [e4] at en
            have := hN'.2.1.num n (List.mem_of_getElem? e4)
            exact hno n this.1 this.2 (Option.some.inj en).symm
    · rintro ys H' ⟨rfl, ns, rfl, hns, hin⟩
      rw [List.length_map, List.take_of_length_le (Nat.le_refl _)] at hns
      intro l2 n2
      have s3 := s2.upd (o := .lst (iL ns)) n2
      generalize hH3 : upd H' l2 (.lst (iL ns)) = H3 at s3
      have e3 : H3 l2 = some (.lst (iL ns)) := by rw [← hH3]; exact upd_same
      refine ⟨_, rfl, l2, ns, rfl, SqL.of e3, _, _, rfl, rfl, _, rfl, ite2 (fun h => ?_) (fun h => ?_)⟩
      · have h30 := of_decide_eq_true h
        refine ⟨⟨⟨rfl, _, rfl, small30⟩, trivial⟩, k2 (fun p' rs hN => ?_) _ s3⟩
        obtain ⟨hN', er⟩ := noteP p' rs hN
        have := congrArg List.length (hns.symm.trans er)
        rw [List.length_map, List.length_map] at this
        have := hN'.2.1.len
        omega
      · have h30 : ¬ (30 : Int) < ns.length := fun z => h (decide_eq_true z)
        refine ⟨_, rfl, _, rfl, show 2 ≤ sizeLine by decide, fun t' nt => ?_⟩
        have s4 := s3.upd (o := .tup [.int p, .ref l2]) nt
        have hne : l2 ≠ t' := ne_of_none e3 nt
        have hR : Rw p ns := ⟨by omega, hin⟩
        exact k1 p ns ⟨hp, hR, note_split hp hR (by rw [hw, ep, hns]; rfl)⟩ t' l2 _ s4 (by rw [upd_ne hne]; exact e3) upd_same
end
end Rf
namespace Rf
open PySem L2 RM
def kindsL : List Str := ["prime", "row", "rule", "place", "large", "turn", "note"]
def spKind (c : Nat → Addr) : Sp := fun vs H Q _ => ∃ x i, vs = [.ref x] ∧ i < 7 ∧ H x = some (.ext (ObAt x (.ref (c i)))) ∧ ∀ H', Same H H' → Q (.str (kindsL.getD i "")) H'
theorem kind_count : ∀ i, i < 7 → List.countP (fun z => eqV z (.bl true)) ([V.bl (i == 0), .bl (i == 1), .bl (i == 2), .bl (i == 3)] ++ [.bl (i == 4), .bl (i == 5), .bl (i == 6)]) = 1
  | 0, _ => by decide | 1, _ => by decide | 2, _ => by decide | 3, _ => by decide | 4, _ => by decide | 5, _ => by decide | 6, _ => by decide
  | n + 7, h => by omega
theorem kind_index : ∀ i, i < 7 → (∃ z, ([V.bl (i == 0), .bl (i == 1), .bl (i == 2), .bl (i == 3)] ++ [.bl (i == 4), .bl (i == 5), .bl (i == 6)])[i]? = some z ∧ eqV z (.bl true) = true) ∧
    ∀ m z, m < i → ([V.bl (i == 0), .bl (i == 1), .bl (i == 2), .bl (i == 3)] ++ [.bl (i == 4), .bl (i == 5), .bl (i == 6)])[m]? = some z → eqV z (.bl true) = false := by
  intro i hi
  have e : ∀ m, m < 7 → ([V.bl (i == 0), .bl (i == 1), .bl (i == 2), .bl (i == 3)] ++ [.bl (i == 4), .bl (i == 5), .bl (i == 6)])[m]? = some (.bl (i == m)) := fun m hm =>
    match m, hm with
    | 0, _ => rfl | 1, _ => rfl | 2, _ => rfl | 3, _ => rfl | 4, _ => rfl | 5, _ => rfl | 6, _ => rfl
    | n + 7, h => absurd h (by omega)
  refine ⟨⟨_, e i hi, by simp [eqV]⟩, fun m z hm hz => ?_⟩
  rw [e m (by omega)] at hz
  cases hz
  have : (i == m) = false := by simp; omega
  simp [eqV, this]
theorem kind_at : ∀ i, i < 7 → (kindsL.map V.str)[i]? = some (.str (kindsL.getD i ""))
  | 0, _ => rfl | 1, _ => rfl | 2, _ => rfl | 3, _ => rfl | 4, _ => rfl | 5, _ => rfl | 6, _ => rfl
  | n + 7, h => absurd h (by omega)
def strc : List Expr → Option (List Str)
  | [] => some []
  | .Constant (.str i) _ _ :: r => (strc r).map (i :: ·)
  | _ => none
theorem pa_strc {X : Cx} : ∀ {es : List Expr} (ns : List Str), strc es = some ns → PA X es (fun _ H Q => Q (ns.map V.str) H)
  | [], ns, h => by
    cases h
    exact pa_nil
  | .Constant (.str i) j pos :: r, ns, h => by
    have h' : (strc r).map (i :: ·) = some ns := h
    obtain ⟨ms, h1, rfl⟩ := Option.map_eq_some_iff.mp h'
    have ih := pa_strc (X := X) ms h1
    intro pos pins s σ H Q I q
    exact pa_cons (te := tC (.str i)) pe_str ih rfl pos pins s σ H Q I q
def idxOf : Stmt → Expr
  | .Return (some (.Subscript _ i _)) _ => i
  | _ => .Constant .none 0 ⟨0, 0, 0, 0⟩
theorem boot_ValueError : bootBuiltins "ValueError" = some (.type "ValueError") := by decide +kernel
theorem catch_kind {K : PySem.W.Frag} {mg : Str → Option Value} {R : Addr} {c : Nat → Addr} (Er : Errs K mg R c) {β : St} {n i : Nat} {D : Ends} {H1 : Hp} (hi : i < 7) (hβ : ∀ x : Addr, (β.set n (some (.ref x)))[n]? = some (some (.ref x))) (k : ∀ H', Same H1 H' → D.rt (.str (kindsL.getD i "")) H') :
    catchE K β R n (tRet (tCall (spKind c) [] E0 (tCons (tVar n) tNil))) D (.ref (c i)) none H1 :=
  ⟨Er.ex i hi, fun x hx => ⟨_, hβ x, x, i, rfl, hi, upd_same, fun H' s' => k H' ((Same.new hx).trans s')⟩⟩
section
variable {P : Program} {w : World} {K : PySem.W.Frag} {mg : Str → Option Value} {base : Heap}
theorem sc_kind : FnScope ["e", "kinds"] ["e"] (defScope s__law_kind) := ⟨rfl, rfl, rfl, by decide +kernel, rfl, by decide +kernel, by decide +kernel⟩
theorem kind_body : ∃ (es : List Expr) (p1 p2 p3 : Pos), defBody s__law_kind = [bdy s__law_kind 0, bdy s__law_kind 1, bdy s__law_kind 2, .Return (some (.Subscript (.List es p1) (idxOf (bdy s__law_kind 3)) p2)) p3] ∧ strc es = some kindsL := ⟨_, _, _, _, rfl, by decide +kernel⟩
theorem ok_kind {f : Addr} {fd : FuncData} {R : Addr} {c : Nat → Addr} (F : Fun K "_law_kind" "_law_kind" s__law_kind f fd) (T : Txt K mg) (TV : mg "ValueError" = none) (Er : Errs K mg R c) : FnOkN P w K mg base CX0 1 f fd ["e"] (spKind c) := by
  refine F.okN sc_kind (fun vs H Q E h => ?_) (fun cdv A outer s H vs Q E hr h => ?_)
  · obtain ⟨x, i, rfl, _⟩ := h
    rfl
  · obtain ⟨x, i, rfl, hi, hx, k⟩ := h
    obtain ⟨es, p1, p2, p3, hb, hes⟩ := kind_body
    rw [hb]
    refine ⟨_, (pss_cons (ps_set (i := 1) sc_kind.nd rfl (Or.inl rfl) (pe_lst (pa_cons (pe_callB call_isiX rfl T.isi PyProof.Rows.boot_isinstance (pa_cons (pv 0) (pa_cons (pe_glob (v := .ref (c 0)) rfl Er.b0 rfl) pa_nil))) (pa_cons (pe_callB call_isiX rfl T.isi PyProof.Rows.boot_isinstance (pa_cons (pv 0) (pa_cons (pe_glob (v := .ref (c 1)) rfl Er.b1 rfl) pa_nil))) (pa_cons (pe_callB call_isiX rfl T.isi PyProof.Rows.boot_isinstance (pa_cons (pv 0) (pa_cons (pe_glob (v := .ref (c 2)) rfl Er.b2 rfl) pa_nil))) (pa_cons (pe_callB call_isiX rfl T.isi PyProof.Rows.boot_isinstance (pa_cons (pv 0) (pa_cons (pe_glob (v := .ref (c 3)) rfl Er.b3 rfl) pa_nil))) pa_nil))))))
      (pss_cons (ps_set (i := 1) sc_kind.nd rfl (Or.inl rfl) (pe_op op_cat (pv 1) (pe_lst (pa_cons (pe_callB call_isiX rfl T.isi PyProof.Rows.boot_isinstance (pa_cons (pv 0) (pa_cons (pe_glob (v := .ref (c 4)) rfl Er.b4 rfl) pa_nil))) (pa_cons (pe_callB call_isiX rfl T.isi PyProof.Rows.boot_isinstance (pa_cons (pv 0) (pa_cons (pe_glob (v := .ref (c 5)) rfl Er.b5 rfl) pa_nil))) (pa_cons (pe_callB call_isiX rfl T.isi PyProof.Rows.boot_isinstance (pa_cons (pv 0) (pa_cons (pe_glob (v := .ref (c 6)) rfl Er.b6 rfl) pa_nil))) pa_nil))))))
      (pss_cons (ps_if (PW.pt (pw_or (pt_not (pt_val (pe_callB call_isiX rfl T.isi PyProof.Rows.boot_isinstance (pa_cons (pv 0) (pa_cons (pe_bltn (v := .ty "ValueError") rfl TV boot_ValueError rfl) pa_nil))))) (pw_or1 (pt_cmpR op_ne (pe_bm PySem.F.plainAttrs_list PySem.F.slot_list_count PySem.F.type_list_count mt_count (pv 1) (pa_cons pe_bl pa_nil)) pe_int (nomark _))))) (pss_one (ps_ret pe_str)) pss_nil)
      (pss_one (ps_ret (pe_ix ix_list (pe_lst (pa_strc _ hes)) (pe_bm PySem.F.plainAttrs_list PySem.F.slot_list_index PySem.F.type_list_index mt_index (pv 1) (pa_cons pe_bl pa_nil)) (fun _ _ => rfl))))))), ?_⟩
    have ec := Er.ec i hi
    have cx : ∀ H', Same H H' → H' x = some (.ext (ObAt x (.ref (c i)))) := fun H' s => s _ _ hx
    refine ⟨_, rfl, x, c i, _, _, _, rfl, hx, ec, Er.kk i 0 hi (by decide), fun v h => h, _, rfl, x, c i, _, _, _, rfl, hx, ec, Er.kk i 1 hi (by decide), fun v h => h, _, rfl, x, c i, _, _, _, rfl, hx, ec, Er.kk i 2 hi (by decide), fun v h => h,
      _, rfl, x, c i, _, _, _, rfl, hx, ec, Er.kk i 3 hi (by decide), fun v h => h, show 4 ≤ sizeLine by decide, fun l1 n1 => ?_⟩
    have s1 := Same.new (o := .lst [V.bl (i == 0), .bl (i == 1), .bl (i == 2), .bl (i == 3)]) n1
    refine ⟨_, rfl, _, rfl, x, c i, _, _, _, rfl, cx _ s1, ec, Er.kk i 4 hi (by decide), fun v h => h, _, rfl, x, c i, _, _, _, rfl, cx _ s1, ec, Er.kk i 5 hi (by decide), fun v h => h, _, rfl, x, c i, _, _, _, rfl, cx _ s1, ec, Er.kk i 6 hi (by decide), fun v h => h,
      show 3 ≤ sizeLine by decide, fun l2 n2 => ?_⟩
    have s2 := s1.upd (o := .lst [V.bl (i == 4), .bl (i == 5), .bl (i == 6)]) n2
    refine ⟨l1, l2, [V.bl (i == 0), .bl (i == 1), .bl (i == 2), .bl (i == 3)], _, rfl, rfl, (by rw [upd_ne (ne_of_none upd_same n2)]; exact upd_same), upd_same, show 7 ≤ sizeLine by decide, fun l3 n3 => ?_⟩
    have s3 := s2.upd (o := .lst ([V.bl (i == 0), .bl (i == 1), .bl (i == 2), .bl (i == 3)] ++ [V.bl (i == 4), .bl (i == 5), .bl (i == 6)])) n3
    generalize hH3 : upd (upd (upd H l1 (.lst [V.bl (i == 0), .bl (i == 1), .bl (i == 2), .bl (i == 3)])) l2 (.lst [V.bl (i == 4), .bl (i == 5), .bl (i == 6)])) l3 (.lst ([V.bl (i == 0), .bl (i == 1), .bl (i == 2), .bl (i == 3)] ++ [V.bl (i == 4), .bl (i == 5), .bl (i == 6)])) = H3 at s3
    have e3 : H3 l3 = some (.lst ([V.bl (i == 0), .bl (i == 1), .bl (i == 2), .bl (i == 3)] ++ [V.bl (i == 4), .bl (i == 5), .bl (i == 6)])) := by rw [← hH3]; exact upd_same
    refine ⟨_, rfl, x, c i, _, _, _, rfl, cx _ s3, ec, Er.kv i hi, fun v h => h, _, rfl, iteF ?_⟩
    refine ⟨_, rfl, .inl ⟨rfl, _, SqL.of e3⟩, l3, _, _, rfl, rfl, SqL.of e3, rfl, rfl, rfl, _, rfl, ?_⟩
    rw [kind_count i hi]
    refine iteF ?_
    refine ⟨show 7 ≤ sizeLine by decide, fun l4 n4 => ?_⟩
    have s4 := s3.upd (o := .lst (kindsL.map V.str)) n4
    have e4 : ∀ u, upd H3 l4 u l3 = some (.lst ([V.bl (i == 0), .bl (i == 1), .bl (i == 2), .bl (i == 3)] ++ [V.bl (i == 4), .bl (i == 5), .bl (i == 6)])) := fun u => by rw [upd_ne (ne_of_none e3 n4)]; exact e3
    exact ⟨_, rfl, .inl ⟨rfl, _, SqL.of (e4 _)⟩, l3, _, _, i, rfl, rfl, SqL.of (e4 _), rfl, rfl, (kind_index i hi).1, (kind_index i hi).2, l4, _, i, _, rfl, rfl, SqL.of upd_same, atI_nat (kind_at i hi), k _ s4⟩
end
def spText (K : PySem.W.Frag) : Sp := fun vs H Q _ => ∃ p a rs, vs = [.int p, .ref a] ∧ SqL K H a (iL rs) ∧ p ∈ primesL ∧ Rw p rs ∧ Q (.str (shownT p rs)) H
theorem shown_snoc (p : Int) (rs : List Int) (x : Int) : shownT p (rs ++ [x]) = shownT p rs ++ " " ++ intT x := by
  rw [shownT_join, shownT_join]
  unfold wordsT
  rw [List.map_append, ← List.cons_append]
  show Str.join blk32 ((primeT p :: rs.map intT) ++ [intT x]) = _
  rw [PyProof.Rows.FinIter.join_snoc, if_neg (fun z => List.cons_ne_nil _ _ z), blank_is]
section
variable {P : Program} {w : World} {K : PySem.W.Frag} {mg : Str → Option Value} {base : Heap}
theorem sc_text : FnScope ["p", "row", "text", "number"] ["p", "row"] (defScope s__law_text) := ⟨rfl, rfl, rfl, by decide +kernel, rfl, by decide +kernel, by decide +kernel⟩
theorem ok_text {f : Addr} {fd : FuncData} (F : Fun K "_law_text" "_law_text" s__law_text f fd) (TStr : mg "str" = none) : FnOk P w K mg base CX0 1 f fd ["p", "row"] (spText K) := by
  refine F.ok sc_text (fun vs H Q E h => ?_) (fun cdv A outer s H vs Q E hr h => ?_)
  · obtain ⟨p, a, rs, rfl, _⟩ := h
    rfl
  · obtain ⟨p, a, rs, rfl, hA, hp, hR, k⟩ := h
    have hp2 := primes_lo p hp
    have hl := hR.len
    have hd : 1000 ≤ sizeLine := by decide
    refine ⟨_, (pss_cons (ps_set (i := 2) sc_text.nd rfl (Or.inl rfl) (pe_op op_add_str (pe_callTy call_str_int rfl TStr PyProof.Rows.boot_str (pa_cons (pv 0) pa_nil)) pe_str))
      (pss_cons (ps_for PassesOwn.never rfl (pi_list (pv 1)) (pg_name (i := 3) sc_text.nd rfl (Or.inl rfl)) (pss_one (ps_set (i := 2) sc_text.nd rfl (Or.inl rfl) (pe_op op_add_str (pe_op op_add_str (pv 2) pe_str) (pe_callTy call_str_int rfl TStr PyProof.Rows.boot_str (pa_cons (pv 3) pa_nil))))))
      (pss_one (ps_ret (pv 2))))), ?_⟩
    have i3 := intT_len3 (x := p) (by omega) (by omega)
    have c1 : (":" : Str).length = 1 := by decide
    have b1 : (" " : Str).length = 1 := by decide
    refine ⟨_, rfl, p, rfl, sm100 (by omega) (by omega), intT p, ":", rfl, rfl, by omega, ?_⟩
    refine ⟨_, rfl, a, rfl, ⟨_, hA⟩, for_list (K := K) (a := a) (xs := iL rs) (fun i σ H' => ∃ v, σ = [some (.int p), some (.ref a), some (.str (shownT p (rs.take i))), v] ∧ H' = H) ⟨none, rfl, rfl⟩ (fun _ _ H' _ h => by obtain ⟨_, _, rfl⟩ := h; exact hA) ?_ ?_⟩
    · rintro i v σ H' hi ⟨v0, rfl, rfl⟩
      obtain ⟨num, en, rfl⟩ := iL_get hi
      have hn := hR.num num (List.mem_of_getElem? en)
      have n3 := intT_len3 (x := num) (by omega) (by omega)
      have tl := shown_len (rs := rs.take i) hp (fun x hx => hR.num x (List.mem_of_mem_take hx))
      have tl2 : (rs.take i).length ≤ 30 := Nat.le_trans (List.length_take_le' _ _) hl
      have e3 : rs.take (i + 1) = rs.take i ++ [num] := by rw [List.take_succ, en]; rfl
      refine ⟨_, rfl, shownT p (rs.take i), " ", rfl, rfl, by omega, _, rfl, num, rfl, sm100 (by omega) (by omega), shownT p (rs.take i) ++ " ", intT num, rfl, rfl, by rw [strLen_append]; omega, ?_⟩
      refine ⟨some (.int num), ?_, rfl⟩
      rw [e3, shown_snoc]
      rfl
    · rintro σ H' ⟨v0, rfl, rfl⟩
      refine ⟨_, rfl, ?_⟩
      rw [List.length_map, List.take_of_length_le (Nat.le_refl _)]
      exact k
end
end Rf
namespace Rf
open PySem L2 RM
def spTriedT : Sp := fun vs H Q _ => ∃ t, vs = [.str t] ∧ ShT t ∧ (∀ p rs, Note t p rs → ∀ H', Same H H' → Q (.str "read") H') ∧ ((∀ p rs, ¬ Note t p rs) → ∀ H', Same H H' → Q (.str "note") H')
section
variable {P : Program} {w : World} {K : PySem.W.Frag} {mg : Str → Option Value} {base : Heap}
theorem sc_tried : FnScope ["text", "e"] ["text"] (defScope s__law_tried) := ⟨rfl, rfl, rfl, by decide +kernel, rfl, by decide +kernel, by decide +kernel⟩
theorem ok_tried {f : Addr} {fd : FuncData} {R : Addr} {c : Nat → Addr} (F : Fun K "_law_tried" "_law_tried" s__law_tried f fd) (Er : Errs K mg R c) (G__law_kind : HasN P w K mg base 1 "_law_kind" ["e"] (spKind c)) (G_read : HasX P w K mg base 3 "read" ["text"] (spReadX c)) : FnOk P w K mg base CX0 4 f fd ["text"] spTriedT := by
  refine F.ok sc_tried (fun vs H Q E h => ?_) (fun cdv A outer s H vs Q E hr h => ?_)
  · obtain ⟨t, rfl, _⟩ := h
    rfl
  · obtain ⟨t, rfl, hS, k1, k2⟩ := h
    refine ⟨_, (pss_cons (ps_tryAs (i := 1) (C := R) rfl ⟨rfl, rfl⟩ (fun pins E => (pss_one (ps_expr (pe_callY (xold_tried rfl) G_read hr (by decide) rfl (pa_cons (pv 0) pa_nil)))))
      (fun x => (pss_one (ps_ret (pe_callN G__law_kind (hr.n _) (by decide) rfl (pa_cons (pv 1) pa_nil))))) rfl Er.r sc_tried.nd rfl rfl rfl)
      (pss_one (ps_ret pe_str))), ?_⟩
    refine ⟨_, rfl, t, rfl, hS, fun p rs hN t' l H' s' _ _ => k1 p rs hN H' s', fun hno H' s' => ?_⟩
    exact catch_kind Er (by decide) (fun _ => rfl) fun H'' s3 => k2 hno H'' (s'.trans s3)
end
end Rf
namespace Rf
open PySem L2 RM
def LtT (n : Nat) (w : Str) : Prop := w.length ≤ n ∧ ∀ c ∈ w.cps.toList, c < 1000
theorem LtT.sh {n : Nat} {w : Str} (h : LtT n w) (hn : n ≤ 1000) : ShT w := ⟨Nat.le_trans h.1 hn, h.2⟩
theorem LtT.app {n m : Nat} {a b : Str} (ha : LtT n a) (hb : LtT m b) : LtT (n + m) (a ++ b) := by
  refine ⟨?_, fun c hc => ?_⟩
  · rw [strLen_append]; exact Nat.add_le_add ha.1 hb.1
  · rw [cps_app] at hc
    rcases List.mem_append.mp hc with z | z
    · exact ha.2 c z
    · exact hb.2 c z
theorem LtT.mono {n m : Nat} {w : Str} (h : LtT n w) (hn : n ≤ m) : LtT m w := ⟨Nat.le_trans h.1 hn, h.2⟩
theorem lt_of_cps {n : Nat} {w : Str} {l : List Nat} (e : w.cps.toList = l) (h1 : l.length ≤ n) (h2 : ∀ c ∈ l, c < 1000) : LtT n w := by
  refine ⟨?_, fun c hc => h2 c (e ▸ hc)⟩
  have := congrArg List.length e
  rw [Array.length_toList] at this
  show w.cps.size ≤ n
  omega
theorem join_flat (x : Str) : ∀ (ws : List Str), (Str.join blk32 (x :: ws)).cps.toList = x.cps.toList ++ flat (ws.map fun w => w.cps.toList)
  | [] => by
    show x.cps.toList = x.cps.toList ++ []
    rw [List.append_nil]
  | y :: ws => by
    rw [join_two_cps, join_flat y ws, List.map_cons, flat_cons]
theorem intT_cpsI {x : Int} (h0 : 0 ≤ x) (h1 : x ≤ 100) : (intT x).cps.toList = dgI x := intT_cps h0 h1
theorem map_cps {p : Int} (hp : p ≤ 97) {rs : List Int} (h : ∀ x ∈ rs, 0 ≤ x ∧ x < p) : (rs.map intT).map (fun w => w.cps.toList) = rs.map dgI := by
  rw [List.map_map]
  refine List.map_congr_left fun x hx => ?_
  have := h x hx
  exact intT_cpsI (by omega) (by omega)
theorem shown_cps {p : Int} {rs : List Int} (hp : p ∈ primesL) (h : ∀ x ∈ rs, 0 ≤ x ∧ x < p) : (shownT p rs).cps.toList = noteL p rs := by
  have := primes_lo p hp
  rw [shownT_join, wordsT, join_flat, map_cps (by omega) h, primeT_cps (by omega) (by omega), List.append_assoc]
  rfl
theorem Note.cps {t : Str} {p : Int} {rs : List Int} (h : Note t p rs) : NtP p rs ∧ t.cps.toList = noteL p rs := ⟨⟨h.1, h.2.1.num, h.2.1.len⟩, by rw [h.2.2]; exact shown_cps h.1 h.2.1.num⟩
theorem no_note {t : Str} (h : ∀ p rs, NtP p rs → t.cps.toList ≠ noteL p rs) : ∀ p rs, ¬ Note t p rs := fun p rs hN => h p rs hN.cps.1 hN.cps.2
theorem join_nil_cps : ∀ ys : List Str, (Str.join ⟨#[]⟩ ys).cps.toList = ys.flatMap fun y => y.cps.toList
  | [] => rfl
  | [y] => by
    show y.cps.toList = y.cps.toList ++ []
    rw [List.append_nil]
  | x :: y :: r => by
    rw [join_two, cps_app, cps_app, join_nil_cps (y :: r), List.flatMap_cons (x := x)]
    show x.cps.toList ++ [] ++ _ = _
    rw [List.append_nil]
def tailT (ws : List Str) : Str := Txt.join "" (ws.map fun w => " " ++ w)
theorem empty_is : ("" : Str) = ⟨#[]⟩ := by decide
theorem tail_cps (ws : List Str) : (tailT ws).cps.toList = flat (ws.map fun w => w.cps.toList) := by
  have e : tailT ws = Str.join ⟨#[]⟩ (ws.map fun w => " " ++ w) := by unfold tailT; rw [empty_is]; exact PySem.StrLaws.glued_eq_join _ _
  rw [e, join_nil_cps, List.flatMap_map, flat, List.flatMap_map]
  refine congrArg (List.flatMap · ws) (funext fun w => ?_)
  rw [cps_app]
  rfl
theorem flat_len {B : Nat} : ∀ {ws : List (List Nat)}, (∀ w ∈ ws, w.length ≤ B) → (flat ws).length ≤ ws.length * (B + 1)
  | [], _ => Nat.zero_le _
  | w :: r, h => by
    have a := h w List.mem_cons_self
    have b := flat_len (ws := r) fun z hz => h z (List.mem_cons_of_mem _ hz)
    rw [flat_cons, List.length_cons, List.length_append, List.length_cons, Nat.succ_mul]
    omega
theorem tail_lt {ws : List Str} (hl : ws.length ≤ 30) (h : ∀ w ∈ ws, LtT 4 w) : LtT 150 (tailT ws) := by
  refine lt_of_cps (tail_cps ws) ?_ fun c hc => ?_
  · have := flat_len (B := 4) (ws := ws.map fun w => w.cps.toList) fun w hw => by
      obtain ⟨x, hx, rfl⟩ := List.mem_map.mp hw
      have := (h x hx).1
      rw [Array.length_toList]
      exact this
    rw [List.length_map] at this
    omega
  · rcases flat_mem hc with z | ⟨w, hw, z⟩
    · omega
    · obtain ⟨x, hx, rfl⟩ := List.mem_map.mp hw
      exact (h x hx).2 c z
theorem int_lt {x : Int} (h0 : 0 ≤ x) (h1 : x ≤ 100) : LtT 4 (intT x) := by
  have a := intT_len3 h0 h1
  refine ⟨by omega, fun c hc => ?_⟩
  rw [intT_cpsI h0 h1] at hc
  have := dgI_lo h0 h1 c hc
  omega
theorem shown_lt {p : Int} {rs : List Int} (hp : p ∈ primesL) (hR : Rw p rs) : LtT 155 (shownT p rs) := by
  have a := shown_len hp hR.num
  have b := hR.len
  have hp2 := primes_lo p hp
  refine ⟨by omega, fun c hc => ?_⟩
  rw [shown_cps hp hR.num] at hc
  have N : NtP p rs := ⟨hp, hR.num, hR.len⟩
  rcases List.mem_append.mp hc with z | z
  · have := N.dp c z; omega
  · rcases List.mem_cons.mp z with z | z
    · omega
    · have := N.flat_lo c z; omega
def some0 : List Str := ["1", "4", "0", "02", "", "x", "-3", "+5", "101", "1_1", "7 ", " 7", "9", "99"]
def some1 : List Str := ["-1", "+1", "00", "01", "", "x", "1_0", "1.", "100", "0\t", "1,"]
def some2 : List Str := ["", ";", "::", " :"]
def some5 : List Str := ["", ":", " ", "2", "2 1", "2:1", "2:0 1", "2: 0  1", "2::", "2: 2", "3: 0 1 2 3"]
theorem some0_in : ∀ s ∈ some0, s.cps.toList ∈ [[49], [52], [48], [48, 50], [], [120], [45, 51], [43, 53], [49, 48, 49], [49, 95, 49], [55, 32], [32, 55], [57], [57, 57]] ∧ s.length ≤ 3 ∧ ∀ c ∈ s.cps.toList, c < 1000 := by decide
theorem some1_in : ∀ s ∈ some1, s.cps.toList ∈ [[45, 49], [43, 49], [48, 48], [48, 49], [], [120], [49, 95, 48], [49, 46], [49, 48, 48], [48, 9], [49, 44]] ∧ s.length ≤ 3 ∧ 32 ∉ s.cps.toList ∧ ∀ c ∈ s.cps.toList, c < 1000 := by decide
theorem some2_in : ∀ s ∈ some2, s.length ≤ 2 ∧ ∀ c ∈ s.cps.toList, c < 1000 := by decide
theorem some5_in : ∀ s ∈ some5, s.length ≤ 100 ∧ ∀ c ∈ s.cps.toList, c < 1000 := by decide
theorem bad0 {s : Str} {ws : List Str} (hs : s ∈ some0) : ∀ p rs, ¬ Note (s ++ ":" ++ tailT ws) p rs := no_note fun p rs hN e => by
  rw [cps_app, cps_app, List.append_assoc] at e
  exact way0 hN (some0_in s hs).1 e
theorem bad1 {q : Int} {ws : List Str} (hq : 0 ≤ q ∧ q ≤ 97) (hw : ∀ w ∈ ws, 32 ∉ w.cps.toList) (hb : ∃ w ∈ ws, ∀ n, 0 ≤ n → n < q → w.cps.toList ≠ dgI n) : ∀ p rs, ¬ Note (intT q ++ ":" ++ tailT ws) p rs := no_note fun p rs hN e => by
  rw [cps_app, cps_app, List.append_assoc, tail_cps, intT_cpsI hq.1 (by omega)] at e
  refine way1 hN hq (fun w h => ?_) ?_ e
  · obtain ⟨x, hx, rfl⟩ := List.mem_map.mp h
    exact hw x hx
  · obtain ⟨w, h1, h2⟩ := hb
    exact ⟨_, List.mem_map.mpr ⟨w, h1, rfl⟩, h2⟩
theorem repl_colon {p : Int} {rs : List Int} (hp : p ∈ primesL) (hR : Rw p rs) (z : Str) : Txt.replace (shownT p rs) ":" z = intT p ++ z ++ tailT (rs.map intT) := by
  have hp2 := primes_lo p hp
  have N : NtP p rs := ⟨hp, hR.num, hR.len⟩
  have ec : (":" : Str) = ⟨#[58]⟩ := by decide
  have et : (tailT (rs.map intT)).cps.toList = flat (rs.map dgI) := by rw [tail_cps, map_cps (by omega) hR.num]
  have ej : shownT p rs = Str.join ⟨#[58]⟩ [intT p, tailT (rs.map intT)] := str_of_list (by
    rw [shown_cps hp hR.num, join_two_cps, intT_cpsI (by omega) (by omega)]
    show _ = dgI p ++ 58 :: (tailT (rs.map intT)).cps.toList
    rw [et]
    rfl)
  rw [ec, PySem.StrLaws.replace_one, ej, split_is (fun z => List.cons_ne_nil _ _ z)]
  · rfl
  · intro x hx
    rcases List.mem_cons.mp hx with rfl | hx
    · rw [intT_cpsI (by omega) (by omega)]; exact N.no58
    · obtain rfl := List.mem_singleton.mp hx
      rw [et]; exact N.flat58
section
variable {q : Int} {ss : List Int} (hq : q ∈ primesL) (hS : Rw q ss)
theorem tail_dg (hq : q ∈ primesL) (hS : Rw q ss) : (tailT (ss.map intT)).cps.toList = flat (ss.map dgI) := by
  have := primes_lo q hq
  rw [tail_cps, map_cps (by omega) hS.num]
theorem dq58 (hq : q ∈ primesL) : 58 ∉ dgI q := fun z => by
  have := primes_lo q hq
  have := dgI_lo (by omega) (by omega) 58 z
  omega
theorem bad2 (hq : q ∈ primesL) (hS : Rw q ss) {z : Str} (hz : z ∈ some2) : ∀ p rs, ¬ Note (intT q ++ z ++ tailT (ss.map intT)) p rs := no_note fun p rs hN e => by
  have hq2 := primes_lo q hq
  have N : NtP q ss := ⟨hq, hS.num, hS.len⟩
  rw [cps_app, cps_app, tail_dg hq hS, intT_cpsI (by omega) (by omega), List.append_assoc] at e
  have hz' : z = "" ∨ z = ";" ∨ z = "::" ∨ z = " :" := by simpa [some2] using hz
  rcases hz' with rfl | rfl | rfl | rfl
  · refine no58_noteL (fun m => ?_) e
    rcases List.mem_append.mp m with m | m
    · exact N.no58 m
    · exact N.flat58 m
  · refine no58_noteL (fun m => ?_) e
    rcases List.mem_append.mp m with m | m
    · exact N.no58 m
    · rcases List.mem_cons.mp m with m | m
      · exact absurd m (by decide)
      · exact N.flat58 m
  · exact wayC hN (c := 58) (dq58 hq) (by decide) e
  · refine wayA hN (a := dgI q ++ [32]) (t := flat (ss.map dgI)) (fun m => ?_) ⟨32, List.mem_append_right _ List.mem_cons_self, .inl (by decide)⟩ (by rw [← e, List.append_assoc]; rfl)
    rcases List.mem_append.mp m with m | m
    · exact dq58 hq m
    · exact absurd (List.mem_singleton.mp m) (by decide)
end
def six (q : Int) (ss : List Int) : List Str := [" " ++ shownT q ss, shownT q ss ++ " ", shownT q ss ++ "\n", "\t" ++ shownT q ss, Txt.replace (shownT q ss) ":" ": ", "(" ++ shownT q ss ++ ")"]
theorem bad3 {q : Int} {ss : List Int} (hq : q ∈ primesL) (hS : Rw q ss) {z : Str} (hz : z ∈ six q ss) : (∀ p rs, ¬ Note z p rs) ∧ LtT 200 z := by
  have hq2 := primes_lo q hq
  have N : NtP q ss := ⟨hq, hS.num, hS.len⟩
  have L := shown_lt hq hS
  have c1 : ∀ x ∈ ([" ", "\n", "\t", "(", ")", ": "] : List Str), LtT 2 x := by unfold LtT; decide
  have esh : (shownT q ss).cps.toList = dgI q ++ 58 :: flat (ss.map dgI) := shown_cps hq hS.num
  have hfree : ∀ w ∈ ss.map dgI, 32 ∉ w := N.free
  unfold six at hz
  rcases List.mem_cons.mp hz with rfl | hz
  · refine ⟨no_note fun p rs hN e => ?_, ((c1 " " (by decide)).app L).mono (by decide)⟩
    rw [cps_app, esh] at e
    refine wayA hN (a := 32 :: dgI q) (t := flat (ss.map dgI)) (fun m => ?_) ⟨32, List.mem_cons_self, .inl (by decide)⟩ e
    rcases List.mem_cons.mp m with m | m
    · exact absurd m (by decide)
    · exact dq58 hq m
  rcases List.mem_cons.mp hz with rfl | hz
  · refine ⟨no_note fun p rs hN e => ?_, (L.app (c1 " " (by decide))).mono (by decide)⟩
    rw [cps_app, esh, List.append_assoc] at e
    have e2 := (hN.cut (dq58 hq) e).2
    have ew := hN.words (ws := ss.map dgI ++ [[]]) (fun w hw => ?_) (by rw [flat_app]; exact e2)
    · have hm : [] ∈ rs.map dgI := by rw [← ew]; exact List.mem_append_right _ List.mem_cons_self
      obtain ⟨x, _, hx⟩ := List.mem_map.mp hm
      exact dgI_ne hx
    · rcases List.mem_append.mp hw with z | z
      · exact hfree w z
      · obtain rfl := List.mem_singleton.mp z
        simp
  rcases List.mem_cons.mp hz with rfl | hz
  · refine ⟨no_note fun p rs hN e => ?_, (L.app (c1 "\n" (by decide))).mono (by decide)⟩
    rw [cps_app, esh, List.append_assoc] at e
    exact wayB hN (dq58 hq) ⟨10, List.mem_append_right _ List.mem_cons_self, by decide, .inl (by decide)⟩ e
  rcases List.mem_cons.mp hz with rfl | hz
  · refine ⟨no_note fun p rs hN e => ?_, ((c1 "\t" (by decide)).app L).mono (by decide)⟩
    rw [cps_app, esh] at e
    refine wayA hN (a := 9 :: dgI q) (t := flat (ss.map dgI)) (fun m => ?_) ⟨9, List.mem_cons_self, .inl (by decide)⟩ e
    rcases List.mem_cons.mp m with m | m
    · exact absurd m (by decide)
    · exact dq58 hq m
  rcases List.mem_cons.mp hz with rfl | hz
  · rw [repl_colon hq hS]
    have tl : LtT 150 (tailT (ss.map intT)) := tail_lt (by rw [List.length_map]; exact hS.len) fun w hw => by
      obtain ⟨x, hx, rfl⟩ := List.mem_map.mp hw
      have := hS.num x hx
      exact int_lt (by omega) (by omega)
    refine ⟨no_note fun p rs hN e => ?_, (((int_lt (x := q) (by omega) (by omega)).app (c1 ": " (by decide))).app tl).mono (by decide)⟩
    rw [cps_app, cps_app, tail_dg hq hS, intT_cpsI (by omega) (by omega), List.append_assoc] at e
    have e2 := (hN.cut (t := 32 :: flat (ss.map dgI)) (dq58 hq) e).2
    have ew := hN.words (ws := [] :: ss.map dgI) (fun w hw => ?_) (by rw [← e2]; rfl)
    · have hm : [] ∈ rs.map dgI := by rw [← ew]; exact List.mem_cons_self
      obtain ⟨x, _, hx⟩ := List.mem_map.mp hm
      exact dgI_ne hx
    · rcases List.mem_cons.mp hw with rfl | z
      · simp
      · exact hfree w z
  · obtain rfl := List.mem_singleton.mp hz
    refine ⟨no_note fun p rs hN e => ?_, (((c1 "(" (by decide)).app L).app (c1 ")" (by decide))).mono (by decide)⟩
    rw [cps_app, cps_app, esh] at e
    refine wayA hN (a := 40 :: dgI q) (t := flat (ss.map dgI) ++ [41]) (fun m => ?_) ⟨40, List.mem_cons_self, .inl (by decide)⟩ (by rw [← e]; simp; rfl)
    rcases List.mem_cons.mp m with m | m
    · exact absurd m (by decide)
    · exact dq58 hq m
theorem mul_cps {w : Str} {n : Int} (hn : 1 ≤ n) (hw : 0 < w.length) : (Txt.mul w n).cps.toList = (List.replicate n.toNat w.cps.toList).flatten := by
  by_cases h1 : n = 1
  · subst h1
    show w.cps.toList = [w.cps.toList].flatten
    simp
  unfold Txt.mul
  rw [if_neg (by omega), if_neg (by simp; omega)]
  have h : ∀ (k : Nat) (acc : Array Nat), ((List.replicate k w.cps).foldl (· ++ ·) acc).toList = acc.toList ++ (List.replicate k w.cps.toList).flatten := by
    intro k
    induction k with
    | zero => intro acc; simp
    | succ k ih =>
      intro acc
      rw [List.replicate_succ, List.foldl_cons, ih, List.replicate_succ, List.flatten_cons, Array.toList_append, List.append_assoc]
  show ((List.replicate n.toNat w.cps).foldl (· ++ ·) #[]).toList = _
  rw [h]
  rfl
theorem bad4 {q : Int} {ss : List Int} (hq : q ∈ primesL) (hS : Rw q ss) {n : Int} (hn : 1 ≤ n) (h30 : 30 < ss.length + n.toNat) (h1000 : n ≤ 100) : (∀ p rs, ¬ Note (shownT q ss ++ Txt.mul " 0" n) p rs) ∧ LtT 400 (shownT q ss ++ Txt.mul " 0" n) := by
  have hq2 := primes_lo q hq
  have N : NtP q ss := ⟨hq, hS.num, hS.len⟩
  have em : (Txt.mul " 0" n).cps.toList = flat (List.replicate n.toNat [48]) := by
    rw [mul_cps hn (by decide)]
    have h : ∀ k : Nat, (List.replicate k (" 0" : Str).cps.toList).flatten = flat (List.replicate k [48]) := by
      intro k
      induction k with
      | zero => rfl
      | succ k ih => rw [List.replicate_succ, List.flatten_cons, ih, List.replicate_succ, flat_cons]; rfl
    exact h _
  constructor
  · refine no_note fun p rs hN e => ?_
    rw [cps_app, shown_cps hq hS.num, em, noteL, List.append_assoc] at e
    refine way4 (q := q) (ws := ss.map dgI ++ List.replicate n.toNat [48]) hN ⟨by omega, by omega⟩ (fun w hw => ?_) (by rw [List.length_append, List.length_map, List.length_replicate]; exact h30) (by rw [← e, flat_app]; rfl)
    rcases List.mem_append.mp hw with z | z
    · exact N.free w z
    · rw [List.eq_of_mem_replicate z]; decide
  · refine ((shown_lt hq hS).app (lt_of_cps (n := 200) em ?_ fun c hc => ?_)).mono (by decide)
    · have := flat_len (B := 1) (ws := List.replicate n.toNat [48]) fun w hw => by rw [List.eq_of_mem_replicate hw]; decide
      rw [List.length_replicate] at this
      omega
    · rcases flat_mem hc with z | ⟨w, hw, z⟩
      · omega
      · rw [List.eq_of_mem_replicate hw] at z
        have := List.mem_singleton.mp z
        omega
theorem bad5 : ∀ z ∈ some5, ∀ p rs, ¬ Note z p rs := by
  intro z hz
  have h : z = "" ∨ z = ":" ∨ z = " " ∨ z = "2" ∨ z = "2 1" ∨ z = "2:1" ∨ z = "2:0 1" ∨ z = "2: 0  1" ∨ z = "2::" ∨ z = "2: 2" ∨ z = "3: 0 1 2 3" := by simpa [some5] using hz
  have d2 : dgI 2 = [50] := by decide
  have d3 : dgI 3 = [51] := by decide
  rcases h with rfl | rfl | rfl | rfl | rfl | rfl | rfl | rfl | rfl | rfl | rfl
  · exact no_note fun p rs hN e => no58_noteL (by decide) e
  · exact no_note fun p rs hN e => dgI_ne (hN.cut (a := []) (t := []) (by simp) e).1.symm
  · exact no_note fun p rs hN e => no58_noteL (by decide) e
  · exact no_note fun p rs hN e => no58_noteL (by decide) e
  · exact no_note fun p rs hN e => no58_noteL (by decide) e
  · exact no_note fun p rs hN e => wayC hN (a := [50]) (c := 49) (t := []) (by decide) (by decide) e
  · exact no_note fun p rs hN e => wayC hN (a := [50]) (c := 48) (t := [32, 49]) (by decide) (by decide) e
  · refine no_note fun p rs hN e => ?_
    have e2 := (hN.cut (a := [50]) (t := [32, 48, 32, 32, 49]) (by decide) e).2
    have ew := hN.words (ws := [[48], [], [49]]) (by decide) e2
    have hm : [] ∈ rs.map dgI := by rw [← ew]; decide
    obtain ⟨x, _, hx⟩ := List.mem_map.mp hm
    exact dgI_ne hx
  · exact no_note fun p rs hN e => wayC hN (a := [50]) (c := 58) (t := []) (by decide) (by decide) e
  · refine no_note fun p rs hN e => way1 (q := 2) (ws := [[50]]) hN (by decide) (by decide) ⟨[50], by decide, fun n h0 h1 => ?_⟩ (by rw [d2]; exact e)
    rw [← d2]
    exact fun z => absurd (dgI_inj (by decide) (by decide) h0 (by omega) z) (by omega)
  · refine no_note fun p rs hN e => way1 (q := 3) (ws := [[48], [49], [50], [51]]) hN (by decide) (by decide) ⟨[51], by decide, fun n h0 h1 => ?_⟩ (by rw [d3]; exact e)
    rw [← d3]
    exact fun z => absurd (dgI_inj (by decide) (by decide) h0 (by omega) z) (by omega)
def spSpoil (K : PySem.W.Frag) : Sp := fun vs H Q _ => ∃ p a rs way cell, vs = [.int p, .ref a, .int way, .int cell] ∧ SqL K H a (iL rs) ∧ p ∈ primesL ∧ Rw p rs ∧ 0 ≤ way ∧ way < 6 ∧ 0 ≤ cell ∧ ∀ t H', Same H H' → ShT t → (∀ p rs, ¬ Note t p rs) → Q (.str t) H'
def ifT : Stmt → Expr
  | .If c _ _ _ => c
  | _ => .Constant .none 0 ⟨0, 0, 0, 0⟩
def ifN (k : Nat) : Stmt → Stmt
  | .If _ a _ _ => a.getD k (.Pass ⟨0, 0, 0, 0⟩)
  | _ => .Pass ⟨0, 0, 0, 0⟩
def asgE : Stmt → Expr
  | .Assign _ e _ => e
  | _ => .Constant .none 0 ⟨0, 0, 0, 0⟩
def lstH : Expr → Expr
  | .List (e :: _) _ => e
  | _ => .Constant .none 0 ⟨0, 0, 0, 0⟩
theorem spoil_body : ∃ (es0 es1 es5 : List Expr) (q0 q1 q5 p0 p1 p5 r0 r1 r5 z0 z1 : Pos), defBody s__law_spoiled = [bdy s__law_spoiled 0, bdy s__law_spoiled 1, bdy s__law_spoiled 2, .If (ifT (bdy s__law_spoiled 3)) [.Assign [.Name "some" q0] (.List es0 p0) r0, ifN 1 (bdy s__law_spoiled 3)] [] z0,
    .If (ifT (bdy s__law_spoiled 4)) [.Assign [.Name "some" q1] (.List (lstH (asgE (ifN 0 (bdy s__law_spoiled 4))) :: es1) p1) r1, ifN 1 (bdy s__law_spoiled 4), ifN 2 (bdy s__law_spoiled 4)] [] z1, bdy s__law_spoiled 5, bdy s__law_spoiled 6, bdy s__law_spoiled 7, .Assign [.Name "some" q5] (.List es5 p5) r5, bdy s__law_spoiled 9] ∧
    strc es0 = some some0 ∧ strc es1 = some some1 ∧ strc es5 = some some5 := ⟨_, _, _, _, _, _, _, _, _, _, _, _, _, _, rfl, by decide +kernel, by decide +kernel, by decide +kernel⟩
def R5 (p : Int) (a : Addr) (rs : List Int) (way cell : Int) (H0 : Hp) : TS := fun D σ H1 => (∃ w4 w6 w7 : Option V, σ = [some (.int p), some (.ref a), some (.int way), some (.int cell), w4, some (.str (shownT p rs)), w6, w7]) ∧ Same H0 H1 ∧ ∀ t H', Same H0 H' → ShT t → (∀ p rs, ¬ Note t p rs) → D.rt (.str t) H'
theorem tail_read {K : PySem.W.Frag} {σ : St} {H : Hp} {Q : VK} {lw : Addr} {ws : List Str} (h4 : σ[4]? = some (some (.ref lw))) (hW : H lw = some (.lst (ws.map V.str))) (hl : ws.length ≤ 30) (hs : ∀ w ∈ ws, LtT 4 w) (k : ∀ H', Same H H' → Q (.str (tailT ws)) H') :
    tBM K "str" (rJoin K) (tC (.str "")) (tCons (tComp 1 (iList K (tVar 4)) (gName 0) none (tOp (fun x y H Q => ∃ i j, x = V.str i ∧ y = V.str j ∧ i.length + j.length ≤ sizeLine ∧ Q (V.str (i ++ j)) H) (tC (.str " ")) (tVar 0))) tNil) σ H Q := by
  have hd : 1000 ≤ sizeLine := by decide
  have b1 : (" " : Str).length = 1 := by decide
  refine ⟨rfl, _, h4, lw, rfl, ⟨_, SqL.of hW⟩, comp_list (xs := ws.map V.str) (fun i ys H' => Same H H' ∧ ys = ((ws.map fun w : Str => (" " : Str) ++ w).take i).map V.str) ⟨Same.refl _, rfl⟩ (fun i ys H' _ h => h.1.seq (SqL.of hW)) ?_ ?_⟩
  · rintro i x ys H' hx ⟨s7, rfl⟩
    rw [List.getElem?_map] at hx
    cases en : ws[i]? with
    | none => rw [en] at hx; cases hx
    | some wd =>
      rw [en] at hx
      cases hx
      have hwd := (hs wd (List.mem_of_getElem? en)).1
      refine ⟨by rw [List.length_map, List.length_take, List.length_map]; omega, rfl, _, rfl, " ", wd, rfl, rfl, by omega, s7, ?_⟩
      rw [List.take_succ, List.map_append, List.getElem?_map, en]
      rfl
  · rintro ys H' ⟨s7, rfl⟩ l nl
    rw [List.length_map, List.take_of_length_le (by simp)] at *
    refine ⟨"", l, ws.map fun w : Str => (" " : Str) ++ w, rfl, rfl, SqL.of upd_same, ?_, k _ (s7.upd nl)⟩
    have b0 : ("" : Str).length = 0 := by decide
    rw [b0, Nat.mul_zero, List.map_map]
    have : (ws.map (fun w : Str => ((" " : Str) ++ w).length)).sum ≤ (ws.map (fun w : Str => ((" " : Str) ++ w).length)).length * 5 := sum_le fun x hx => by
      obtain ⟨w, hw, rfl⟩ := List.mem_map.mp hx
      have := (hs w hw).1
      rw [strLen_append]
      omega
    rw [List.length_map] at this
    exact Nat.le_trans this (by omega)
theorem ixN_of {n : Nat} {i : Int} (h0 : 0 ≤ i) (h1 : i < n) : ixN n i = some i.toNat := by
  unfold ixN
  rw [if_pos h0, if_pos h1]
theorem get_some {α : Type} (l : List α) {i : Nat} (h : i < l.length) : ∃ z, l[i]? = some z ∧ z ∈ l := ⟨l[i], List.getElem?_eq_getElem h, List.getElem_mem h⟩
theorem idx_at {zs : List Str} {i : Int} {n : Nat} (hz : zs.length = n) (h0 : 0 ≤ i) (h1 : i < n) : ∃ z ∈ zs, zs[i.toNat]? = some z ∧ atI (zs.map V.str) i = some (.str z) := by
  obtain ⟨z, e, m⟩ := get_some zs (i := i.toNat) (by omega)
  refine ⟨z, m, e, ?_⟩
  have : atI (zs.map V.str) ((i.toNat : Nat) : Int) = some (.str z) := atI_nat (by rw [List.getElem?_map, e]; rfl)
  rwa [show ((i.toNat : Nat) : Int) = i by omega] at this
section
variable {P : Program} {w : World} {K : PySem.W.Frag} {mg : Str → Option Value} {base : Heap}
theorem sc_spoil : FnScope ["p", "row", "way", "cell", "words", "text", "at", "some"] ["p", "row", "way", "cell"] (defScope s__law_spoiled) := ⟨rfl, rfl, rfl, by decide +kernel, rfl, by decide +kernel, by decide +kernel⟩
set_option maxHeartbeats 2000000 in
theorem ok_spoil {f : Addr} {fd : FuncData} (F : Fun K "_law_spoiled" "_law_spoiled" s__law_spoiled f fd) (T : Txt K mg) (TStr : mg "str" = none) (G__law_text : Has P w K mg base 1 "_law_text" ["p", "row"] (spText K)) : FnOk P w K mg base CX0 2 f fd ["p", "row", "way", "cell"] (spSpoil K) := by
  refine F.ok sc_spoil (fun vs H Q E h => ?_) (fun cdv A outer s H vs Q E hr h => ?_)
  · obtain ⟨p, a, rs, way, cell, rfl, _⟩ := h
    rfl
  · obtain ⟨p, a, rs, way, cell, rfl, hA, hp, hR, hw0, hw6, hc0, k⟩ := h
    have hp2 := primes_lo p hp
    have hl := hR.len
    obtain ⟨es0, es1, es5, q0, q1, q5, p0, p1, p5, r0, r1, r5, z0, z1, hb, hes0, hes1, hes5⟩ := spoil_body
    rw [hb]
    refine ⟨_, (pss_cons (ps_setComp (i := 4) ["number"] rfl sc_spoil.nd rfl (Or.inl rfl) (CompScope.of rfl) (pi_list (pv 1)) (fun _ _ _ _ _ _ => (pg_name (i := 0) (show (["number", "p", "row", "way", "cell", "words", "text", "at", "some"] : List Str).Nodup by decide +kernel) rfl (Or.inl rfl))) (fun _ _ _ _ _ _ => .no) (fun _ _ _ _ _ _ => (pe_callTy call_str_int rfl TStr PyProof.Rows.boot_str (pa_cons (pv 0) pa_nil))))
      (pss_cons (ps_set (i := 5) sc_spoil.nd rfl (Or.inl rfl) (pe_callH G__law_text hr (by decide) rfl (pa_cons (pv 0) (pa_cons (pv 1) pa_nil))))
      (pss_cons (ps_set (i := 6) sc_spoil.nd rfl (Or.inl rfl) (pe_op op_mod (pv 3) (pe_callB (call_max2 rfl) rfl T.max PyProof.Rows.boot_max (pa_cons pe_int (pa_cons (pe_callB call_lenI rfl T.len PySem.boot_len (pa_cons (pv 1) pa_nil)) pa_nil)))))
      (pss_cons (ps_if (pt_cmpR op_eq (pv 2) pe_int (nomark _)) (pss_cons (ps_set (i := 7) sc_spoil.nd rfl (Or.inl rfl) (pe_lst (pa_strc _ hes0)))
      (pss_one (ps_ret (pe_op op_add_str (pe_op op_add_str (pe_ix ix_list (pv 7) (pe_op op_mod (pe_op op_fdiv (pv 3) pe_int) pe_int) (fun _ _ => rfl)) pe_str) (pe_bm PySem.F.plainAttrs_str PySem.F.slot_str_join PySem.F.type_str_join mt_join pe_str (pa_cons (pe_comp ["word"] rfl (CompScope.of rfl) (pi_list (pv 4)) (fun _ _ _ _ _ _ => (pg_name (i := 0) (show (["word", "p", "row", "way", "cell", "words", "text", "at", "some"] : List Str).Nodup by decide +kernel) rfl (Or.inl rfl))) (fun _ _ _ _ _ _ => .no) (fun _ _ _ _ _ _ => (pe_op op_add_str pe_str (pv 0)))) pa_nil)))))) pss_nil)
      (pss_cons (ps_if (PW.pt (pw_and (pt_cmpR op_eq (pv 2) pe_int (nomark _)) (pw_and1 (pt_cmpR op_gt (pe_callB call_lenI rfl T.len PySem.boot_len (pa_cons (pv 1) pa_nil)) pe_int (nomark _))))) (pss_cons (ps_set (i := 7) sc_spoil.nd rfl (Or.inl rfl) (pe_lst (pa_cons (pe_callTy call_str_int rfl TStr PyProof.Rows.boot_str (pa_cons (pv 0) pa_nil)) (pa_strc _ hes1))))
      (pss_cons (ps_asg (pe_ix ix_list (pv 7) (pe_op op_mod (pe_op op_fdiv (pv 3) pe_int) pe_int) (fun _ _ => rfl)) (pg_sub (pv 4) (pv 6) set_list))
      (pss_one (ps_ret (pe_op op_add_str (pe_op op_add_str (pe_callTy call_str_int rfl TStr PyProof.Rows.boot_str (pa_cons (pv 0) pa_nil)) pe_str) (pe_bm PySem.F.plainAttrs_str PySem.F.slot_str_join PySem.F.type_str_join mt_join pe_str (pa_cons (pe_comp ["word"] rfl (CompScope.of rfl) (pi_list (pv 4)) (fun _ _ _ _ _ _ => (pg_name (i := 0) (show (["word", "p", "row", "way", "cell", "words", "text", "at", "some"] : List Str).Nodup by decide +kernel) rfl (Or.inl rfl))) (fun _ _ _ _ _ _ => .no) (fun _ _ _ _ _ _ => (pe_op op_add_str pe_str (pv 0)))) pa_nil))))))) pss_nil)
      
      (pss_cut (R5 p a rs way cell H) (pss_cons (ps_ifP (ptP_cmpC op_eq (pv 2) (nomark _)) (psp_one (ps1_ret (pep_repl (pv 5) (pek_item (.cons (.cons (.cons (.cons .nil)))) (by decide) (pe_op op_mod (pe_op op_fdiv (pv 3) pe_int) pe_int) (fun _ _ => rfl))))) pss_nil)
      (pss_cons (ps_ifP (ptP_cmpC op_eq (pv 2) (nomark _)) (psp_cons (ps1_set (i := 7) sc_spoil.nd rfl (Or.inl rfl) (pep_lst (pap_cons (PE.p (pe_op op_add_str pe_str (pv 5))) (pap_cons (PE.p (pe_op op_add_str (pv 5) pe_str)) (pap_cons (PE.p (pe_op op_add_str (pv 5) pe_str)) (pap_cons (PE.p (pe_op op_add_str pe_str (pv 5))) (pap_cons (pep_repl (pv 5) pek_str) (pap_cons (PE.p (pe_op op_add_str (pe_op op_add_str pe_str (pv 5)) pe_str)) pap_nil)))))))) (psp_one (ps1_ret (PE.p (pe_ix ix_list (pv 7) (pe_op op_mod (pe_op op_fdiv (pv 3) pe_int) pe_int) (fun _ _ => rfl)))))) pss_nil)
      (pss_cons (ps_if (pt_cmpR op_eq (pv 2) pe_int (nomark _)) (pss_one (ps_ret (pe_op op_add_str (pv 5) (pe_op op_mulS pe_str (pe_op op_add (pe_op op_sub pe_int (pe_callB call_lenI rfl T.len PySem.boot_len (pa_cons (pv 1) pa_nil))) (pe_op op_mod (pe_op op_fdiv (pv 3) pe_int) pe_int)))))) pss_nil)
      (pss_cons (ps_set (i := 7) sc_spoil.nd rfl (Or.inl rfl) (pe_lst (pa_strc _ hes5)))
      (pss_one (ps_ret (pe_ix ix_list (pv 7) (pe_op op_mod (pe_op op_fdiv (pv 3) pe_int) pe_int) (fun _ _ => rfl)))))))) ?r5)))))), ?main⟩
    case main =>
      refine ⟨_, rfl, a, rfl, ⟨_, hA⟩, comp_list (xs := iL rs) (fun i ys H' => Same H H' ∧ ys = ((rs.map intT).take i).map V.str) ⟨Same.refl _, rfl⟩ (fun i ys H' _ h => h.1.seq hA) ?_ ?_⟩
      · rintro i x ys H' hx ⟨s7, rfl⟩
        obtain ⟨num, en, rfl⟩ := iL_get hx
        have hn := hR.num num (List.mem_of_getElem? en)
        have hil : i < rs.length := (List.getElem?_eq_some_iff.mp en).1
        refine ⟨Nat.lt_of_lt_of_le (show _ < 100 by rw [List.length_map, List.length_take, List.length_map]; omega) (by decide), rfl, _, rfl, _, rfl, sm100 (by omega) (by omega), s7, ?_⟩
        rw [List.take_succ, List.map_append, List.getElem?_map, en]
        rfl
      · rintro ys H' ⟨s7, rfl⟩ lw hlw
        have e3 : (List.take (iL rs).length (rs.map intT)).map V.str = (rs.map intT).map V.str := by rw [List.take_of_length_le (by simp)]
        rw [e3]
        have s8 := s7.upd (o := .lst ((rs.map intT).map V.str)) hlw
        generalize hH1 : upd H' lw (.lst ((rs.map intT).map V.str)) = H1 at s8
        have eW : H1 lw = some (.lst ((rs.map intT).map V.str)) := by rw [← hH1]; exact upd_same
        have hlw0 : H lw = none := by
          cases hh : H lw with
          | none => rfl
          | some o => rw [s7 _ _ hh] at hlw; cases hlw
        have wl : (rs.map intT).length ≤ 30 := by rw [List.length_map]; exact hl
        have wlt : ∀ w ∈ rs.map intT, LtT 4 w := fun w hw => by
          obtain ⟨x, hx, rfl⟩ := List.mem_map.mp hw
          have := hR.num x hx
          exact int_lt (by omega) (by omega)
        have hd : 1000 ≤ sizeLine := by decide
        have c1 : (":" : Str).length = 1 := by decide
        have cl : LtT 1 ":" := by unfold LtT; decide
        refine ⟨_, rfl, _, rfl, p, a, rs, rfl, s8.seq hA, hp, hR, ?_⟩
        have hmx : (0 : Int) < if (rs.length : Int) > 1 then (rs.length : Int) else 1 := by split <;> omega
        have hM2 : 0 < rs.length → (if (rs.length : Int) > 1 then (rs.length : Int) else 1) ≤ rs.length := fun h => by split <;> omega
        have hat : 0 ≤ cell % (if (rs.length : Int) > 1 then (rs.length : Int) else 1) ∧ (0 < rs.length → cell % (if (rs.length : Int) > 1 then (rs.length : Int) else 1) < rs.length) :=
          ⟨Int.emod_nonneg _ (by omega), fun h => Int.lt_of_lt_of_le (Int.emod_lt_of_pos cell hmx) (hM2 h)⟩
        refine ⟨_, rfl, _, rfl, a, rs, rfl, s8.seq hA, 1, (rs.length : Int), rfl, cell, _, rfl, rfl, hmx, ?_⟩
        have i14 : 0 ≤ cell / 32 % 14 ∧ cell / 32 % 14 < 14 := ⟨Int.emod_nonneg _ (by decide), Int.emod_lt_of_pos _ (by decide)⟩
        have i12 : 0 ≤ cell / 32 % 12 ∧ cell / 32 % 12 < 12 := ⟨Int.emod_nonneg _ (by decide), Int.emod_lt_of_pos _ (by decide)⟩
        have fall : R5 p a rs way cell H { nx := fun x H' => Q V.non H', rt := Q } [some (.int p), some (.ref a), some (.int way), some (.int cell), some (.ref lw), some (.str (shownT p rs)), some (.int (cell % (if (rs.length : Int) > 1 then (rs.length : Int) else 1))), none] H1 := ⟨⟨_, _, _, rfl⟩, s8, k⟩
        refine ⟨_, rfl, rfl, _, rfl, ite2 (fun h0 => ?_) (fun h0 => ?_)⟩
        · refine ⟨show 14 ≤ sizeLine by decide, fun ls nls => ?_⟩
          have s9 := s8.upd (o := .lst (some0.map V.str)) nls
          have t9 := Same.new (o := .lst (some0.map V.str)) nls
          generalize hH2 : upd H1 ls (.lst (some0.map V.str)) = H2 at s9 t9
          have eS : H2 ls = some (.lst (some0.map V.str)) := by rw [← hH2]; exact upd_same
          obtain ⟨z, hz, _, ez⟩ := idx_at (zs := some0) (n := 14) rfl i14.1 i14.2
          have zl := some0_in z hz
          have lz : LtT 3 z := ⟨zl.2.1, zl.2.2⟩
          have lt := tail_lt wl wlt
          refine ⟨_, rfl, _, rfl, cell, 32, rfl, rfl, ⟨by decide, by decide⟩, _, 14, rfl, rfl, (show (0 : Int) < 14 by decide), ls, _, _, _, rfl, rfl, SqL.of eS, ez, z, ":", rfl, rfl, by omega, tail_read rfl (t9 _ _ eW) wl wlt fun H3 s10 => ?_⟩
          refine ⟨z ++ ":", tailT (rs.map intT), rfl, rfl, by have := lt.1; rw [strLen_append]; omega, k _ H3 (s9.trans s10) (((lz.app cl).app lt).sh (by decide)) (bad0 hz)⟩
        · refine ⟨_, rfl, rfl, _, rfl, ite2 (fun h1 => ?_) (fun h1 => iteF fall)⟩
          refine ⟨_, rfl, a, rs, rfl, s8.seq hA, _, _, rfl, rfl, _, rfl, ite2 (fun h2 => ?_) (fun h2 => fall)⟩
          have hpos : 0 < rs.length := by have := of_decide_eq_true h2; omega
          have hav := hat.2 hpos
          refine ⟨_, rfl, p, rfl, sm100 (by omega) (by omega), show 12 ≤ sizeLine by decide, fun ls nls => ?_⟩
          have s9 := s8.upd (o := .lst ((intT p :: some1).map V.str)) nls
          have t9 := Same.new (o := .lst ((intT p :: some1).map V.str)) nls
          have eS : upd H1 ls (.lst ((intT p :: some1).map V.str)) ls = some (.lst ((intT p :: some1).map V.str)) := upd_same
          obtain ⟨z, hz, _, ez⟩ := idx_at (zs := intT p :: some1) (n := 12) rfl i12.1 i12.2
          have hz4 : LtT 4 z ∧ 32 ∉ z.cps.toList ∧ ∀ n, 0 ≤ n → n < p → z.cps.toList ≠ dgI n := by
            rcases List.mem_cons.mp hz with rfl | hz
            · refine ⟨int_lt (by omega) (by omega), intT_free (by omega) (by omega), fun n h0 h1 e => ?_⟩
              rw [intT_cpsI (by omega) (by omega)] at e
              have := dgI_inj (by omega) (by omega) h0 (by omega) e
              omega
            · obtain ⟨a1, a2, a3, a4⟩ := some1_in z hz
              exact ⟨⟨by omega, a4⟩, a3, fun n h0 h1 => dgI_words h0 (by omega) _ a1⟩
          have hjl : (cell % (if (rs.length : Int) > 1 then (rs.length : Int) else 1)).toNat < (rs.map intT).length := by rw [List.length_map]; omega
          refine ⟨_, rfl, _, rfl, cell, 32, rfl, rfl, ⟨by decide, by decide⟩, _, 12, rfl, rfl, (show (0 : Int) < 12 by decide), ls, _, _, _, rfl, rfl, SqL.of eS, ez, ?_⟩
          refine ⟨_, rfl, _, rfl, lw, _, _, (cell % (if (rs.length : Int) > 1 then (rs.length : Int) else 1)).toNat, rfl, rfl, t9 _ _ eW, ?_, ?_⟩
          · rw [List.length_map, List.length_map]
            exact ixN_of hat.1 hav
          · rw [← List.map_set]
            have s10 : Same H (upd (upd H1 ls (.lst ((intT p :: some1).map V.str))) lw (.lst (((rs.map intT).set (cell % (if (rs.length : Int) > 1 then (rs.length : Int) else 1)).toNat z).map V.str))) := fun b o e => by
              rw [upd_ne (ne_of_none e hlw0)]
              exact s9 b o e
            have w2 : ∀ w ∈ (rs.map intT).set (cell % (if (rs.length : Int) > 1 then (rs.length : Int) else 1)).toNat z, LtT 4 w ∧ 32 ∉ w.cps.toList := fun w hw => by
              rcases List.mem_or_eq_of_mem_set hw with m | rfl
              · refine ⟨wlt w m, ?_⟩
                obtain ⟨x, hx, rfl⟩ := List.mem_map.mp m
                have := hR.num x hx
                exact intT_free (by omega) (by omega)
              · exact ⟨hz4.1, hz4.2.1⟩
            have wl2 : ((rs.map intT).set (cell % (if (rs.length : Int) > 1 then (rs.length : Int) else 1)).toNat z).length ≤ 30 := by rw [List.length_set]; exact wl
            have lt := tail_lt wl2 fun w hw => (w2 w hw).1
            have i3 := intT_len3 (x := p) (by omega) (by omega)
            refine ⟨_, rfl, p, rfl, sm100 (by omega) (by omega), intT p, ":", rfl, rfl, by omega, tail_read rfl upd_same wl2 (fun w hw => (w2 w hw).1) fun H4 s11 => ?_⟩
            refine ⟨intT p ++ ":", tailT _, rfl, rfl, by have := lt.1; rw [strLen_append]; omega, k _ H4 (s10.trans s11) ((((int_lt (x := p) (by omega) (by omega)).app cl).app lt).sh (by decide)) (bad1 ⟨by omega, by omega⟩ (fun w hw => (w2 w hw).2) ⟨z, ?_, hz4.2.2⟩)⟩
            exact List.mem_of_getElem? (List.getElem?_set_self hjl)
    case r5 =>
      rintro D σ H1 ⟨⟨w4, w6, w7, rfl⟩, s8, k5⟩
      have hd : 1000 ≤ sizeLine := by decide
      have L := shown_lt hp hR
      have L1 := L.1
      have tl : LtT 150 (tailT (rs.map intT)) := tail_lt (by rw [List.length_map]; exact hl) fun w hw => by
        obtain ⟨x, hx, rfl⟩ := List.mem_map.mp hw
        have := hR.num x hx
        exact int_lt (by omega) (by omega)
      have b1 : (" " : Str).length = 1 := by decide
      have b2 : ("\n" : Str).length = 1 := by decide
      have b3 : ("\t" : Str).length = 1 := by decide
      have b4 : ("(" : Str).length = 1 := by decide
      have b5 : (")" : Str).length = 1 := by decide
      have b6 : (": " : Str).length = 2 := by decide
      have i4 : 0 ≤ cell / 32 % 4 ∧ cell / 32 % 4 < 4 := ⟨Int.emod_nonneg _ (by decide), Int.emod_lt_of_pos _ (by decide)⟩
      have i6 : 0 ≤ cell / 32 % 6 ∧ cell / 32 % 6 < 6 := ⟨Int.emod_nonneg _ (by decide), Int.emod_lt_of_pos _ (by decide)⟩
      have i5 : 0 ≤ cell / 32 % 5 ∧ cell / 32 % 5 < 5 := ⟨Int.emod_nonneg _ (by decide), Int.emod_lt_of_pos _ (by decide)⟩
      have i11 : 0 ≤ cell / 32 % 11 ∧ cell / 32 % 11 < 11 := ⟨Int.emod_nonneg _ (by decide), Int.emod_lt_of_pos _ (by decide)⟩
      refine ⟨_, rfl, rfl, _, rfl, ite2 (fun h2 => ?_) (fun h2 => ⟨_, rfl, rfl, _, rfl, ite2 (fun h3 => ?_) (fun h3 => ⟨_, rfl, rfl, _, rfl, ite2 (fun h4 => ?_) (fun h4 => ?_)⟩)⟩)⟩
      · obtain ⟨z, hz, ez, _⟩ := idx_at (zs := some2) (n := 4) rfl i4.1 i4.2
        have hc : ∀ z ∈ some2, ((":" : Str) == z) = false := by decide
        have z2 := some2_in z hz
        have hm : ((shownT p rs).length + 1) * z.length ≤ 156 * 2 := Nat.mul_le_mul (by omega) z2.1
        refine ⟨_, rfl, shownT p rs, rfl, _, rfl, cell, 32, rfl, rfl, ⟨by decide, by decide⟩, _, 4, rfl, rfl, (show (0 : Int) < 4 by decide), _, z, rfl, i4.1, ez, z, rfl, hc z hz, by omega, ?_⟩
        rw [repl_colon hp hR]
        exact k5 _ _ s8 ((((int_lt (x := p) (by omega) (by omega)).app (show LtT 2 z from z2)).app tl).sh (by decide)) (bad2 hp hR hz)
      · have hm : ((shownT p rs).length + 1) * (": " : Str).length ≤ 156 * 2 := Nat.mul_le_mul (by omega) (by omega)
        refine ⟨_, rfl, " ", shownT p rs, rfl, rfl, by omega, _, rfl, shownT p rs, " ", rfl, rfl, by omega, _, rfl, shownT p rs, "\n", rfl, rfl, by omega, _, rfl, "\t", shownT p rs, rfl, rfl, by omega, _, rfl, shownT p rs, rfl, ": ", rfl, by decide, by omega,
          _, rfl, "(", shownT p rs, rfl, rfl, by omega, "(" ++ shownT p rs, ")", rfl, rfl, by rw [strLen_append]; omega, show 6 ≤ sizeLine by decide, fun ls nls => ?_⟩
        obtain ⟨z, hz, _, ez⟩ := idx_at (zs := six p rs) (n := 6) rfl i6.1 i6.2
        have B := bad3 hp hR hz
        exact ⟨_, rfl, _, rfl, cell, 32, rfl, rfl, ⟨by decide, by decide⟩, _, 6, rfl, rfl, (show (0 : Int) < 6 by decide), ls, (six p rs).map V.str, _, _, rfl, rfl, SqL.of upd_same, ez, k5 _ _ (s8.upd nls) (B.2.sh (by decide)) B.1⟩
      · have z2 : (" 0" : Str).length = 2 := by decide
        have B := bad4 hp hR (n := 31 - (rs.length : Int) + cell / 32 % 5) (by omega) (by omega) (by omega)
        have ml := B.2.1
        rw [strLen_append] at ml
        refine ⟨_, rfl, _, rfl, a, rs, rfl, s8.seq hA, _, _, rfl, rfl, _, rfl, cell, 32, rfl, rfl, ⟨by decide, by decide⟩, _, 5, rfl, rfl, (show (0 : Int) < 5 by decide), _, _, rfl, rfl, " 0", 31 - (rs.length : Int) + cell / 32 % 5, rfl, rfl, by omega, by omega, by omega, by omega, shownT p rs, _, rfl, rfl, by omega, ?_⟩
        exact k5 _ _ s8 (B.2.sh (by decide)) B.1
      · refine ⟨show 11 ≤ sizeLine by decide, fun ls nls => ?_⟩
        obtain ⟨z, hz, _, ez⟩ := idx_at (zs := some5) (n := 11) rfl i11.1 i11.2
        have z5 := some5_in z hz
        exact ⟨_, rfl, _, rfl, cell, 32, rfl, rfl, ⟨by decide, by decide⟩, _, 11, rfl, rfl, (show (0 : Int) < 11 by decide), ls, _, _, _, rfl, rfl, SqL.of upd_same, ez, k5 _ _ (s8.upd nls) ⟨Nat.le_trans z5.1 (by decide), z5.2⟩ (bad5 z hz)⟩
end
end Rf
namespace Rf
open PySem L2 RM
def spLaw (K : PySem.W.Frag) : Sp := fun vs H Q _ => ∃ (a : Addr) (ns : List Int), vs = [.ref a] ∧ SqL K H a (iL ns) ∧ ∀ H', Q (.bl true) H'
section
variable {P : Program} {w : World} {K : PySem.W.Frag} {mg : Str → Option Value} {base : Heap}
theorem sc_law : FnScope ["script", "p", "row", "bad"] ["script"] (defScope s_law) := ⟨rfl, rfl, rfl, by decide +kernel, rfl, by decide +kernel, by decide +kernel⟩
theorem ok_law {f : Addr} {fd : FuncData} (F : Fun K "law" "law" s_law f fd) (G__law_cell_at : Has P w K mg base 1 "_law_cell_at" ["script", "k"] (spCell K)) (G__law_prime : Has P w K mg base 1 "_law_prime" ["cell"] spLPrime) (G__law_row : Has P w K mg base 3 "_law_row" ["script", "p", "most"] (spRow24 K))
    (G__law_spoiled : Has P w K mg base 2 "_law_spoiled" ["p", "row", "way", "cell"] (spSpoil K)) (G__law_text : Has P w K mg base 1 "_law_text" ["p", "row"] (spText K)) (G__law_tried : Has P w K mg base 4 "_law_tried" ["text"] spTriedT) : FnOk P w K mg base CX0 5 f fd ["script"] (spLaw K) := by
  refine F.ok sc_law (fun vs H Q E h => ?_) (fun cdv A outer s H vs Q E hr h => ?_)
  · obtain ⟨a, ns, rfl, _⟩ := h
    rfl
  · obtain ⟨a, ns, rfl, hS, q⟩ := h
    refine ⟨_, (pss_cons (ps_set (i := 1) sc_law.nd rfl (Or.inl rfl) (pe_callH G__law_prime hr (by decide) rfl (pa_cons (pe_callH G__law_cell_at hr (by decide) rfl (pa_cons (pv 0) (pa_cons pe_int pa_nil))) pa_nil)))
      (pss_cons (ps_set (i := 2) sc_law.nd rfl (Or.inl rfl) (pe_callH G__law_row hr (by decide) rfl (pa_cons (pv 0) (pa_cons (pv 1) (pa_cons pe_int pa_nil)))))
      (pss_cons (ps_set (i := 3) sc_law.nd rfl (Or.inl rfl) (pe_callH G__law_spoiled hr (by decide) rfl (pa_cons (pv 1) (pa_cons (pv 2) (pa_cons (pe_op op_modR (pe_callH G__law_cell_at hr (by decide) rfl (pa_cons (pv 0) (pa_cons pe_int pa_nil))) pe_int) (pa_cons (pe_op op_modR (pe_callH G__law_cell_at hr (by decide) rfl (pa_cons (pv 0) (pa_cons pe_int pa_nil))) pe_int) pa_nil))))))
      (pss_cons (ps_if (PW.pt (pw_or (pt_cmpR op_ne (pe_callH G__law_tried hr (by decide) rfl (pa_cons (pv 3) pa_nil)) pe_str (nomark _)) (pw_or1 (pt_cmpR op_ne (pe_callH G__law_tried hr (by decide) rfl (pa_cons (pv 3) pa_nil)) pe_str (nomark _))))) (pss_one (ps_ret pe_bl)) pss_nil)
      (pss_one (ps_ret (pe_cmpR op_eq (pe_callH G__law_tried hr (by decide) rfl (pa_cons (pe_callH G__law_text hr (by decide) rfl (pa_cons (pv 1) (pa_cons (pv 2) pa_nil))) pa_nil)) pe_str (nomark _)))))))), ?_⟩
    refine ⟨_, rfl, a, ns, 0, rfl, hS, _, rfl, fun p H1 hp s1 => ?_⟩
    have hp2 := primes_lo p hp
    refine ⟨_, rfl, _, rfl, a, ns, p, rfl, s1.seq hS, hp, fun lr rs H2 _ s2 er hR => ?_⟩
    have s12 := s1.trans s2
    refine ⟨_, rfl, _, rfl, _, rfl, a, ns, 7, rfl, s12.seq hS, _, 6, rfl, rfl, by decide, fun wy hwy _ => ?_⟩
    refine ⟨_, rfl, a, ns, 8, rfl, s12.seq hS, _, 1000003, rfl, rfl, by decide, fun ce hce _ => ?_⟩
    refine ⟨p, lr, rs, _, _, rfl, SqL.of er, hp, hR, by omega, by omega, by omega, fun t H3 s3 hT hno => ?_⟩
    refine ⟨_, rfl, t, rfl, hT, fun p' rs' hN => absurd hN (hno p' rs'), fun _ H4 s4 => ?_⟩
    refine ⟨rfl, _, rfl, iteNS rfl ?_⟩
    refine ⟨_, rfl, t, rfl, hT, fun p' rs' hN => absurd hN (hno p' rs'), fun _ H5 s5 => ?_⟩
    refine ⟨rfl, _, rfl, iteNS rfl ?_⟩
    have er5 := s5 _ _ (s4 _ _ (s3 _ _ er))
    refine ⟨_, rfl, _, rfl, p, lr, rs, rfl, SqL.of er5, hp, hR, _, rfl, (shown_lt hp hR).sh (by decide), fun p' rs' _ H6 s6 => ⟨rfl, q H6⟩, fun hno' => absurd ⟨hp, hR, rfl⟩ (hno' p rs)⟩
end
end Rf
namespace Rf
open PySem L2 RM
theorem lt7 {P : Nat → Prop} (h0 : P 0) (h1 : P 1) (h2 : P 2) (h3 : P 3) (h4 : P 4) (h5 : P 5) (h6 : P 6) (i : Nat) (hi : i < 7) : P i := by
  rcases i with _ | _ | _ | _ | _ | _ | _ | i
  · exact h0
  · exact h1
  · exact h2
  · exact h3
  · exact h4
  · exact h5
  · exact h6
  · omega
set_option maxHeartbeats 4000000 in
theorem all_mk {l : PySem.W.OpenLaw} {w : World} {K : PySem.W.Frag} {h : Heap} {mg : Str → Option Value} {fa : Addr} {f0 : Addr} {od0 an0 : Option Addr} {sl0 : Array (Option Value)} {oc0 kV0 dc0 pm0 cd0 ct0 : Value} {f1 : Addr} {od1 an1 : Option Addr} {sl1 : Array (Option Value)} {oc1 kV1 dc1 pm1 cd1 ct1 : Value} {f2 : Addr} {od2 an2 : Option Addr} {sl2 : Array (Option Value)} {oc2 kV2 dc2 pm2 cd2 ct2 : Value} {f3 : Addr} {od3 an3 : Option Addr} {sl3 : Array (Option Value)} {oc3 kV3 dc3 pm3 cd3 ct3 : Value} {f4 : Addr} {od4 an4 : Option Addr} {sl4 : Array (Option Value)} {oc4 kV4 dc4 pm4 cd4 ct4 : Value} {f5 : Addr} {od5 an5 : Option Addr} {sl5 : Array (Option Value)} {oc5 kV5 dc5 pm5 cd5 ct5 : Value} {f6 : Addr} {od6 an6 : Option Addr} {sl6 : Array (Option Value)} {oc6 kV6 dc6 pm6 cd6 ct6 : Value} {f7 : Addr} {od7 an7 : Option Addr} {sl7 : Array (Option Value)} {oc7 kV7 dc7 pm7 cd7 ct7 : Value} {f8 : Addr} {od8 an8 : Option Addr} {sl8 : Array (Option Value)} {oc8 kV8 dc8 pm8 cd8 ct8 : Value} {f9 : Addr} {od9 an9 : Option Addr} {sl9 : Array (Option Value)} {oc9 kV9 dc9 pm9 cd9 ct9 : Value} {f10 : Addr} {od10 an10 : Option Addr} {sl10 : Array (Option Value)} {oc10 kV10 dc10 pm10 cd10 ct10 : Value} {f11 : Addr} {od11 an11 : Option Addr} {sl11 : Array (Option Value)} {oc11 kV11 dc11 pm11 cd11 ct11 : Value} {f12 : Addr} {od12 an12 : Option Addr} {sl12 : Array (Option Value)} {oc12 kV12 dc12 pm12 cd12 ct12 : Value} {f13 : Addr} {od13 an13 : Option Addr} {sl13 : Array (Option Value)} {oc13 kV13 dc13 pm13 cd13 ct13 : Value} {f14 : Addr} {od14 an14 : Option Addr} {sl14 : Array (Option Value)} {oc14 kV14 dc14 pm14 cd14 ct14 : Value} {f15 : Addr} {od15 an15 : Option Addr} {sl15 : Array (Option Value)} {oc15 kV15 dc15 pm15 cd15 ct15 : Value} {R C0 C1 C2 C3 C4 C5 C6 : Addr} {aP : Addr} {odP : Option Addr} {slP : Array (Option Value)} {itsP : Array Value} {nP : Nat} {tM : Tok}
    (X : K.In h) (G : h.Ns mainGlobals mg) (hfa : mg "law" = some (.ref fa))
    (a0 : PySem.W.nsIn K mainGlobals "_law_cell_at" = some (some (.ref f0))) (l0 : K.lookup f0 = some ⟨oc0, od0, .func (PySem.W.fnOf "_law_cell_at" "_law_cell_at" (defArgs s__law_cell_at) (defBody s__law_cell_at) (defScope s__law_cell_at) .none kV0 dc0 pm0 an0 cd0 ct0), sl0⟩) (c0 : PySem.W.codeIn K cd0 "_law_cell_at" = true) (k0 : PySem.W.keepIn K (.ref f0) = true)
    (a1 : PySem.W.nsIn K mainGlobals "_law_next" = some (some (.ref f1))) (l1 : K.lookup f1 = some ⟨oc1, od1, .func (PySem.W.fnOf "_law_next" "_law_next" (defArgs s__law_next) (defBody s__law_next) (defScope s__law_next) .none kV1 dc1 pm1 an1 cd1 ct1), sl1⟩) (c1 : PySem.W.codeIn K cd1 "_law_next" = true) (k1 : PySem.W.keepIn K (.ref f1) = true)
    (a2 : PySem.W.nsIn K mainGlobals "_law_prime" = some (some (.ref f2))) (l2 : K.lookup f2 = some ⟨oc2, od2, .func (PySem.W.fnOf "_law_prime" "_law_prime" (defArgs s__law_prime) (defBody s__law_prime) (defScope s__law_prime) .none kV2 dc2 pm2 an2 cd2 ct2), sl2⟩) (c2 : PySem.W.codeIn K cd2 "_law_prime" = true) (k2 : PySem.W.keepIn K (.ref f2) = true)
    (a3 : PySem.W.nsIn K mainGlobals "_law_numbers" = some (some (.ref f3))) (l3 : K.lookup f3 = some ⟨oc3, od3, .func (PySem.W.fnOf "_law_numbers" "_law_numbers" (defArgs s__law_numbers) (defBody s__law_numbers) (defScope s__law_numbers) .none kV3 dc3 pm3 an3 cd3 ct3), sl3⟩) (c3 : PySem.W.codeIn K cd3 "_law_numbers" = true) (k3 : PySem.W.keepIn K (.ref f3) = true)
    (a4 : PySem.W.nsIn K mainGlobals "_law_tells" = some (some (.ref f4))) (l4 : K.lookup f4 = some ⟨oc4, od4, .func (PySem.W.fnOf "_law_tells" "_law_tells" (defArgs s__law_tells) (defBody s__law_tells) (defScope s__law_tells) .none kV4 dc4 pm4 an4 cd4 ct4), sl4⟩) (c4 : PySem.W.codeIn K cd4 "_law_tells" = true) (k4 : PySem.W.keepIn K (.ref f4) = true)
    (a5 : PySem.W.nsIn K mainGlobals "_law_on" = some (some (.ref f5))) (l5 : K.lookup f5 = some ⟨oc5, od5, .func (PySem.W.fnOf "_law_on" "_law_on" (defArgs s__law_on) (defBody s__law_on) (defScope s__law_on) .none kV5 dc5 pm5 an5 cd5 ct5), sl5⟩) (c5 : PySem.W.codeIn K cd5 "_law_on" = true) (k5 : PySem.W.keepIn K (.ref f5) = true)
    (a6 : PySem.W.nsIn K mainGlobals "_law_kind" = some (some (.ref f6))) (l6 : K.lookup f6 = some ⟨oc6, od6, .func (PySem.W.fnOf "_law_kind" "_law_kind" (defArgs s__law_kind) (defBody s__law_kind) (defScope s__law_kind) .none kV6 dc6 pm6 an6 cd6 ct6), sl6⟩) (c6 : PySem.W.codeIn K cd6 "_law_kind" = true) (k6 : PySem.W.keepIn K (.ref f6) = true)
    (a7 : PySem.W.nsIn K mainGlobals "_law_row" = some (some (.ref f7))) (l7 : K.lookup f7 = some ⟨oc7, od7, .func (PySem.W.fnOf "_law_row" "_law_row" (defArgs s__law_row) (defBody s__law_row) (defScope s__law_row) .none kV7 dc7 pm7 an7 cd7 ct7), sl7⟩) (c7 : PySem.W.codeIn K cd7 "_law_row" = true) (k7 : PySem.W.keepIn K (.ref f7) = true)
    (a8 : PySem.W.nsIn K mainGlobals "written_prime" = some (some (.ref f8))) (l8 : K.lookup f8 = some ⟨oc8, od8, .func (PySem.W.fnOf "written_prime" "written_prime" (defArgs s_written_prime) (defBody s_written_prime) (defScope s_written_prime) .none kV8 dc8 pm8 an8 cd8 ct8), sl8⟩) (c8 : PySem.W.codeIn K cd8 "written_prime" = true) (k8 : PySem.W.keepIn K (.ref f8) = true)
    (a9 : PySem.W.nsIn K mainGlobals "read_prime" = some (some (.ref f9))) (l9 : K.lookup f9 = some ⟨oc9, od9, .func (PySem.W.fnOf "read_prime" "read_prime" (defArgs s_read_prime) (defBody s_read_prime) (defScope s_read_prime) .none kV9 dc9 pm9 an9 cd9 ct9), sl9⟩) (c9 : PySem.W.codeIn K cd9 "read_prime" = true) (k9 : PySem.W.keepIn K (.ref f9) = true)
    (a10 : PySem.W.nsIn K mainGlobals "read_number" = some (some (.ref f10))) (l10 : K.lookup f10 = some ⟨oc10, od10, .func (PySem.W.fnOf "read_number" "read_number" (defArgs s_read_number) (defBody s_read_number) (defScope s_read_number) .none kV10 dc10 pm10 an10 cd10 ct10), sl10⟩) (c10 : PySem.W.codeIn K cd10 "read_number" = true) (k10 : PySem.W.keepIn K (.ref f10) = true)
    (a11 : PySem.W.nsIn K mainGlobals "read" = some (some (.ref f11))) (l11 : K.lookup f11 = some ⟨oc11, od11, .func (PySem.W.fnOf "read" "read" (defArgs s_read) (defBody s_read) (defScope s_read) .none kV11 dc11 pm11 an11 cd11 ct11), sl11⟩) (c11 : PySem.W.codeIn K cd11 "read" = true) (k11 : PySem.W.keepIn K (.ref f11) = true)
    (a12 : PySem.W.nsIn K mainGlobals "_law_text" = some (some (.ref f12))) (l12 : K.lookup f12 = some ⟨oc12, od12, .func (PySem.W.fnOf "_law_text" "_law_text" (defArgs s__law_text) (defBody s__law_text) (defScope s__law_text) .none kV12 dc12 pm12 an12 cd12 ct12), sl12⟩) (c12 : PySem.W.codeIn K cd12 "_law_text" = true) (k12 : PySem.W.keepIn K (.ref f12) = true)
    (a13 : PySem.W.nsIn K mainGlobals "_law_spoiled" = some (some (.ref f13))) (l13 : K.lookup f13 = some ⟨oc13, od13, .func (PySem.W.fnOf "_law_spoiled" "_law_spoiled" (defArgs s__law_spoiled) (defBody s__law_spoiled) (defScope s__law_spoiled) .none kV13 dc13 pm13 an13 cd13 ct13), sl13⟩) (c13 : PySem.W.codeIn K cd13 "_law_spoiled" = true) (k13 : PySem.W.keepIn K (.ref f13) = true)
    (a14 : PySem.W.nsIn K mainGlobals "_law_tried" = some (some (.ref f14))) (l14 : K.lookup f14 = some ⟨oc14, od14, .func (PySem.W.fnOf "_law_tried" "_law_tried" (defArgs s__law_tried) (defBody s__law_tried) (defScope s__law_tried) .none kV14 dc14 pm14 an14 cd14 ct14), sl14⟩) (c14 : PySem.W.codeIn K cd14 "_law_tried" = true) (k14 : PySem.W.keepIn K (.ref f14) = true)
    (a15 : PySem.W.nsIn K mainGlobals "law" = some (some (.ref f15))) (l15 : K.lookup f15 = some ⟨oc15, od15, .func (PySem.W.fnOf "law" "law" (defArgs s_law) (defBody s_law) (defScope s_law) .none kV15 dc15 pm15 an15 cd15 ct15), sl15⟩) (c15 : PySem.W.codeIn K cd15 "law" = true) (k15 : PySem.W.keepIn K (.ref f15) = true)
    (eR : PySem.W.nsIn K mainGlobals "RuleError" = some (some (.ref R)))
    (e0 : PySem.W.nsIn K mainGlobals "NoPrime" = some (some (.ref C0)))
    (e1 : PySem.W.nsIn K mainGlobals "NoRow" = some (some (.ref C1)))
    (e2 : PySem.W.nsIn K mainGlobals "NoRule" = some (some (.ref C2)))
    (e3 : PySem.W.nsIn K mainGlobals "NoPlace" = some (some (.ref C3)))
    (e4 : PySem.W.nsIn K mainGlobals "TooLarge" = some (some (.ref C4)))
    (e5 : PySem.W.nsIn K mainGlobals "NoTurn" = some (some (.ref C5)))
    (e6 : PySem.W.nsIn K mainGlobals "NoNote" = some (some (.ref C6)))
    (xga0 : PySem.W.findIn K (.ref C0) "__getattribute__" = some (some (.builtin "BaseException.__getattribute__")))
    (xgx0 : PySem.W.findIn K (.ref C0) "__getattr__" = some none)
    (xcl0 : PySem.W.findIn K (.ref C0) "__class__" = some (some (.builtin "object.__class__")))
    (xbe0 : PySem.W.subIn K (.ref C0) (.type "BaseException") = some true)
    (xob0 : PySem.W.mroIn K C0 (.type "object") = some true)
    (xty0 : PySem.W.isClsIn K C0 = true)
    (xmd0 : PySem.W.excIn K C0 mroV "ValueError.__new__" = true)
    (xkv0 : PySem.W.kitOne K (.ref C0) (.type "ValueError") = some true)
    (xex0 : PySem.W.exmOne K (.ref C0) (.ref R) = some true)
    (kk0_0 : PySem.W.kitOne K (.ref C0) (.ref C0) = some true)
    (kk0_1 : PySem.W.kitOne K (.ref C0) (.ref C1) = some false)
    (kk0_2 : PySem.W.kitOne K (.ref C0) (.ref C2) = some false)
    (kk0_3 : PySem.W.kitOne K (.ref C0) (.ref C3) = some false)
    (kk0_4 : PySem.W.kitOne K (.ref C0) (.ref C4) = some false)
    (kk0_5 : PySem.W.kitOne K (.ref C0) (.ref C5) = some false)
    (kk0_6 : PySem.W.kitOne K (.ref C0) (.ref C6) = some false)
    (xga1 : PySem.W.findIn K (.ref C1) "__getattribute__" = some (some (.builtin "BaseException.__getattribute__")))
    (xgx1 : PySem.W.findIn K (.ref C1) "__getattr__" = some none)
    (xcl1 : PySem.W.findIn K (.ref C1) "__class__" = some (some (.builtin "object.__class__")))
    (xbe1 : PySem.W.subIn K (.ref C1) (.type "BaseException") = some true)
    (xob1 : PySem.W.mroIn K C1 (.type "object") = some true)
    (xty1 : PySem.W.isClsIn K C1 = true)
    (xmd1 : PySem.W.excIn K C1 mroV "ValueError.__new__" = true)
    (xkv1 : PySem.W.kitOne K (.ref C1) (.type "ValueError") = some true)
    (xex1 : PySem.W.exmOne K (.ref C1) (.ref R) = some true)
    (kk1_0 : PySem.W.kitOne K (.ref C1) (.ref C0) = some false)
    (kk1_1 : PySem.W.kitOne K (.ref C1) (.ref C1) = some true)
    (kk1_2 : PySem.W.kitOne K (.ref C1) (.ref C2) = some false)
    (kk1_3 : PySem.W.kitOne K (.ref C1) (.ref C3) = some false)
    (kk1_4 : PySem.W.kitOne K (.ref C1) (.ref C4) = some false)
    (kk1_5 : PySem.W.kitOne K (.ref C1) (.ref C5) = some false)
    (kk1_6 : PySem.W.kitOne K (.ref C1) (.ref C6) = some false)
    (xga2 : PySem.W.findIn K (.ref C2) "__getattribute__" = some (some (.builtin "BaseException.__getattribute__")))
    (xgx2 : PySem.W.findIn K (.ref C2) "__getattr__" = some none)
    (xcl2 : PySem.W.findIn K (.ref C2) "__class__" = some (some (.builtin "object.__class__")))
    (xbe2 : PySem.W.subIn K (.ref C2) (.type "BaseException") = some true)
    (xob2 : PySem.W.mroIn K C2 (.type "object") = some true)
    (xty2 : PySem.W.isClsIn K C2 = true)
    (xmd2 : PySem.W.excIn K C2 mroV "ValueError.__new__" = true)
    (xkv2 : PySem.W.kitOne K (.ref C2) (.type "ValueError") = some true)
    (xex2 : PySem.W.exmOne K (.ref C2) (.ref R) = some true)
    (kk2_0 : PySem.W.kitOne K (.ref C2) (.ref C0) = some false)
    (kk2_1 : PySem.W.kitOne K (.ref C2) (.ref C1) = some false)
    (kk2_2 : PySem.W.kitOne K (.ref C2) (.ref C2) = some true)
    (kk2_3 : PySem.W.kitOne K (.ref C2) (.ref C3) = some false)
    (kk2_4 : PySem.W.kitOne K (.ref C2) (.ref C4) = some false)
    (kk2_5 : PySem.W.kitOne K (.ref C2) (.ref C5) = some false)
    (kk2_6 : PySem.W.kitOne K (.ref C2) (.ref C6) = some false)
    (xga3 : PySem.W.findIn K (.ref C3) "__getattribute__" = some (some (.builtin "BaseException.__getattribute__")))
    (xgx3 : PySem.W.findIn K (.ref C3) "__getattr__" = some none)
    (xcl3 : PySem.W.findIn K (.ref C3) "__class__" = some (some (.builtin "object.__class__")))
    (xbe3 : PySem.W.subIn K (.ref C3) (.type "BaseException") = some true)
    (xob3 : PySem.W.mroIn K C3 (.type "object") = some true)
    (xty3 : PySem.W.isClsIn K C3 = true)
    (xmd3 : PySem.W.excIn K C3 mroV "ValueError.__new__" = true)
    (xkv3 : PySem.W.kitOne K (.ref C3) (.type "ValueError") = some true)
    (xex3 : PySem.W.exmOne K (.ref C3) (.ref R) = some true)
    (kk3_0 : PySem.W.kitOne K (.ref C3) (.ref C0) = some false)
    (kk3_1 : PySem.W.kitOne K (.ref C3) (.ref C1) = some false)
    (kk3_2 : PySem.W.kitOne K (.ref C3) (.ref C2) = some false)
    (kk3_3 : PySem.W.kitOne K (.ref C3) (.ref C3) = some true)
    (kk3_4 : PySem.W.kitOne K (.ref C3) (.ref C4) = some false)
    (kk3_5 : PySem.W.kitOne K (.ref C3) (.ref C5) = some false)
    (kk3_6 : PySem.W.kitOne K (.ref C3) (.ref C6) = some false)
    (xga4 : PySem.W.findIn K (.ref C4) "__getattribute__" = some (some (.builtin "BaseException.__getattribute__")))
    (xgx4 : PySem.W.findIn K (.ref C4) "__getattr__" = some none)
    (xcl4 : PySem.W.findIn K (.ref C4) "__class__" = some (some (.builtin "object.__class__")))
    (xbe4 : PySem.W.subIn K (.ref C4) (.type "BaseException") = some true)
    (xob4 : PySem.W.mroIn K C4 (.type "object") = some true)
    (xty4 : PySem.W.isClsIn K C4 = true)
    (xmd4 : PySem.W.excIn K C4 mroV "ValueError.__new__" = true)
    (xkv4 : PySem.W.kitOne K (.ref C4) (.type "ValueError") = some true)
    (xex4 : PySem.W.exmOne K (.ref C4) (.ref R) = some true)
    (kk4_0 : PySem.W.kitOne K (.ref C4) (.ref C0) = some false)
    (kk4_1 : PySem.W.kitOne K (.ref C4) (.ref C1) = some false)
    (kk4_2 : PySem.W.kitOne K (.ref C4) (.ref C2) = some false)
    (kk4_3 : PySem.W.kitOne K (.ref C4) (.ref C3) = some false)
    (kk4_4 : PySem.W.kitOne K (.ref C4) (.ref C4) = some true)
    (kk4_5 : PySem.W.kitOne K (.ref C4) (.ref C5) = some false)
    (kk4_6 : PySem.W.kitOne K (.ref C4) (.ref C6) = some false)
    (xga5 : PySem.W.findIn K (.ref C5) "__getattribute__" = some (some (.builtin "BaseException.__getattribute__")))
    (xgx5 : PySem.W.findIn K (.ref C5) "__getattr__" = some none)
    (xcl5 : PySem.W.findIn K (.ref C5) "__class__" = some (some (.builtin "object.__class__")))
    (xbe5 : PySem.W.subIn K (.ref C5) (.type "BaseException") = some true)
    (xob5 : PySem.W.mroIn K C5 (.type "object") = some true)
    (xty5 : PySem.W.isClsIn K C5 = true)
    (xmd5 : PySem.W.excIn K C5 mroV "ValueError.__new__" = true)
    (xkv5 : PySem.W.kitOne K (.ref C5) (.type "ValueError") = some true)
    (xex5 : PySem.W.exmOne K (.ref C5) (.ref R) = some true)
    (kk5_0 : PySem.W.kitOne K (.ref C5) (.ref C0) = some false)
    (kk5_1 : PySem.W.kitOne K (.ref C5) (.ref C1) = some false)
    (kk5_2 : PySem.W.kitOne K (.ref C5) (.ref C2) = some false)
    (kk5_3 : PySem.W.kitOne K (.ref C5) (.ref C3) = some false)
    (kk5_4 : PySem.W.kitOne K (.ref C5) (.ref C4) = some false)
    (kk5_5 : PySem.W.kitOne K (.ref C5) (.ref C5) = some true)
    (kk5_6 : PySem.W.kitOne K (.ref C5) (.ref C6) = some false)
    (xga6 : PySem.W.findIn K (.ref C6) "__getattribute__" = some (some (.builtin "BaseException.__getattribute__")))
    (xgx6 : PySem.W.findIn K (.ref C6) "__getattr__" = some none)
    (xcl6 : PySem.W.findIn K (.ref C6) "__class__" = some (some (.builtin "object.__class__")))
    (xbe6 : PySem.W.subIn K (.ref C6) (.type "BaseException") = some true)
    (xob6 : PySem.W.mroIn K C6 (.type "object") = some true)
    (xty6 : PySem.W.isClsIn K C6 = true)
    (xmd6 : PySem.W.excIn K C6 mroV "ValueError.__new__" = true)
    (xkv6 : PySem.W.kitOne K (.ref C6) (.type "ValueError") = some true)
    (xex6 : PySem.W.exmOne K (.ref C6) (.ref R) = some true)
    (kk6_0 : PySem.W.kitOne K (.ref C6) (.ref C0) = some false)
    (kk6_1 : PySem.W.kitOne K (.ref C6) (.ref C1) = some false)
    (kk6_2 : PySem.W.kitOne K (.ref C6) (.ref C2) = some false)
    (kk6_3 : PySem.W.kitOne K (.ref C6) (.ref C3) = some false)
    (kk6_4 : PySem.W.kitOne K (.ref C6) (.ref C4) = some false)
    (kk6_5 : PySem.W.kitOne K (.ref C6) (.ref C5) = some false)
    (kk6_6 : PySem.W.kitOne K (.ref C6) (.ref C6) = some true)
    (z_len : PySem.W.nsIn K mainGlobals "len" = some none)
    (z_range : PySem.W.nsIn K mainGlobals "range" = some none)
    (z_sum : PySem.W.nsIn K mainGlobals "sum" = some none)
    (z_all : PySem.W.nsIn K mainGlobals "all" = some none)
    (z_isinstance : PySem.W.nsIn K mainGlobals "isinstance" = some none)
    (z_bool : PySem.W.nsIn K mainGlobals "bool" = some none)
    (z_int : PySem.W.nsIn K mainGlobals "int" = some none)
    (z_list : PySem.W.nsIn K mainGlobals "list" = some none)
    (z_min : PySem.W.nsIn K mainGlobals "min" = some none)
    (z_max : PySem.W.nsIn K mainGlobals "max" = some none)
    (z_reversed : PySem.W.nsIn K mainGlobals "reversed" = some none)
    (z_zip : PySem.W.nsIn K mainGlobals "zip" = some none)
    (z_enumerate : PySem.W.nsIn K mainGlobals "enumerate" = some none)
    (z_str : PySem.W.nsIn K mainGlobals "str" = some none)
    (z_ValueError : PySem.W.nsIn K mainGlobals "ValueError" = some none)
    (zM : PySem.W.nsIn K mainGlobals "MOST" = some (some (.int 30 tM))) (zP : PySem.W.nsIn K mainGlobals "PRIMES" = some (some (.ref aP))) (lP : K.lookup aP = some ⟨.type "tuple", odP, .seq itsP nP, slP⟩) (hPs : itsP.size ≤ sizeLine) (hPv : Vals (iL primesL) itsP.toList) :
    ∃ fd : FuncData, (∀ (s : Shared) (v : Value), BindsTo s fd ⟨[v], []⟩ [("script", v)]) ∧ ∀ base : Heap, K.In base → base.Ns mainGlobals mg → FnOk l.prog w K mg base CX0 5 fa fd ["script"] (spLaw K) := by
  have e := hfa.symm.trans (PySem.W.mg_of X G a15)
  cases e
  have T : Txt K mg := { len := PySem.W.mg_none_of X G z_len, range := PySem.W.mg_none_of X G z_range, sum := PySem.W.mg_none_of X G z_sum, all := PySem.W.mg_none_of X G z_all, isi := PySem.W.mg_none_of X G z_isinstance, bool := PySem.W.mg_none_of X G z_bool, int := PySem.W.mg_none_of X G z_int, list := PySem.W.mg_none_of X G z_list, min := PySem.W.mg_none_of X G z_min, max := PySem.W.mg_none_of X G z_max, most := ⟨tM, PySem.W.mg_of X G zM⟩, primes := ⟨aP, PySem.W.mg_of X G zP, fun H => .inr ⟨_, itsP, nP, lP, rfl, rfl, hPs, hPv⟩⟩ }
  have TV : mg "ValueError" = none := PySem.W.mg_none_of X G z_ValueError
  obtain ⟨c, hc⟩ : ∃ c : Nat → Addr, c = fun n => [C0, C1, C2, C3, C4, C5, C6].getD n 0 := ⟨_, rfl⟩
  have hec : ∀ i, i < 7 → ExcCls K (c i) := by
    subst hc
    exact lt7 ⟨xga0, xgx0, xcl0, xbe0, xob0, xty0, xmd0⟩ ⟨xga1, xgx1, xcl1, xbe1, xob1, xty1, xmd1⟩ ⟨xga2, xgx2, xcl2, xbe2, xob2, xty2, xmd2⟩ ⟨xga3, xgx3, xcl3, xbe3, xob3, xty3, xmd3⟩ ⟨xga4, xgx4, xcl4, xbe4, xob4, xty4, xmd4⟩ ⟨xga5, xgx5, xcl5, xbe5, xob5, xty5, xmd5⟩ ⟨xga6, xgx6, xcl6, xbe6, xob6, xty6, xmd6⟩
  have hkk : ∀ i, i < 7 → ∀ j, j < 7 → PySem.W.kitOne K (.ref (c i)) (.ref (c j)) = some (i == j) := by
    subst hc
    exact lt7 (lt7 kk0_0 kk0_1 kk0_2 kk0_3 kk0_4 kk0_5 kk0_6) (lt7 kk1_0 kk1_1 kk1_2 kk1_3 kk1_4 kk1_5 kk1_6) (lt7 kk2_0 kk2_1 kk2_2 kk2_3 kk2_4 kk2_5 kk2_6) (lt7 kk3_0 kk3_1 kk3_2 kk3_3 kk3_4 kk3_5 kk3_6) (lt7 kk4_0 kk4_1 kk4_2 kk4_3 kk4_4 kk4_5 kk4_6) (lt7 kk5_0 kk5_1 kk5_2 kk5_3 kk5_4 kk5_5 kk5_6) (lt7 kk6_0 kk6_1 kk6_2 kk6_3 kk6_4 kk6_5 kk6_6)
  have hkv : ∀ i, i < 7 → PySem.W.kitOne K (.ref (c i)) (.type "ValueError") = some true := by
    subst hc
    exact lt7 xkv0 xkv1 xkv2 xkv3 xkv4 xkv5 xkv6
  have hex : ∀ i, i < 7 → PySem.W.exmOne K (.ref (c i)) (.ref R) = some true := by
    subst hc
    exact lt7 xex0 xex1 xex2 xex3 xex4 xex5 xex6
  have Er : Errs K mg R c := by
    have g : ∀ i C', c i = C' → ∀ x : Str, PySem.W.nsIn K mainGlobals x = some (some (.ref C')) → mg x = some (.ref (c i)) := fun i C' hc' x e => hc' ▸ PySem.W.mg_of X G e
    exact ⟨PySem.W.mg_of X G eR, g 0 C0 (by rw [hc]; rfl) _ e0, g 1 C1 (by rw [hc]; rfl) _ e1, g 2 C2 (by rw [hc]; rfl) _ e2, g 3 C3 (by rw [hc]; rfl) _ e3, g 4 C4 (by rw [hc]; rfl) _ e4, g 5 C5 (by rw [hc]; rfl) _ e5, g 6 C6 (by rw [hc]; rfl) _ e6, hec, fun i j hi hj => hkk i hi j hj, hkv, hex⟩
  have TStr : mg "str" = none := PySem.W.mg_none_of X G z_str
  have F0 := fun_mk (st := s__law_cell_at) l0 c0 k0
  have F1 := fun_mk (st := s__law_next) l1 c1 k1
  have F2 := fun_mk (st := s__law_prime) l2 c2 k2
  have F3 := fun_mk (st := s__law_numbers) l3 c3 k3
  have F4 := fun_mk (st := s__law_tells) l4 c4 k4
  have F5 := fun_mk (st := s__law_on) l5 c5 k5
  have F6 := fun_mk (st := s__law_kind) l6 c6 k6
  have F7 := fun_mk (st := s__law_row) l7 c7 k7
  have F8 := fun_mk (st := s_written_prime) l8 c8 k8
  have F9 := fun_mk (st := s_read_prime) l9 c9 k9
  have F10 := fun_mk (st := s_read_number) l10 c10 k10
  have F11 := fun_mk (st := s_read) l11 c11 k11
  have F12 := fun_mk (st := s__law_text) l12 c12 k12
  have F13 := fun_mk (st := s__law_spoiled) l13 c13 k13
  have F14 := fun_mk (st := s__law_tried) l14 c14 k14
  have F15 := fun_mk (st := s_law) l15 c15 k15
  refine ⟨PySem.W.fnOf "law" "law" (defArgs s_law) (defBody s_law) (defScope s_law) .none kV15 dc15 pm15 an15 cd15 ct15, fun s v => .of_eq rfl, fun base _ _ => ?_⟩
  have b0 := F0.binds (ps := ["script", "k"]) fun _ _ _ _ _ _ us hl => match us, hl with | [_, _], _ => rfl
  have H__law_cell_at : Has l.prog w K mg base 1 "_law_cell_at" ["script", "k"] (spCell K) := ⟨f0, _, PySem.W.mg_of X G a0, F0.kp, b0, ok_cell F0 T⟩
  have b1 := F1.binds (ps := ["seed"]) fun _ _ _ _ _ _ us hl => match us, hl with | [_], _ => rfl
  have H__law_next : Has l.prog w K mg base 1 "_law_next" ["seed"] spNext := ⟨f1, _, PySem.W.mg_of X G a1, F1.kp, b1, ok_next F1 ⟩
  have b2 := F2.binds (ps := ["cell"]) fun _ _ _ _ _ _ us hl => match us, hl with | [_], _ => rfl
  have H__law_prime : Has l.prog w K mg base 1 "_law_prime" ["cell"] spLPrime := ⟨f2, _, PySem.W.mg_of X G a2, F2.kp, b2, ok_lprime F2 ⟩
  have b3 := F3.binds (ps := ["p", "many", "cell"]) fun _ _ _ _ _ _ us hl => match us, hl with | [_, _, _], _ => rfl
  have H__law_numbers : Has l.prog w K mg base 2 "_law_numbers" ["p", "many", "cell"] spNumbers := ⟨f3, _, PySem.W.mg_of X G a3, F3.kp, b3, ok_numbers F3 T H__law_next⟩
  have b4 := F4.binds (ps := ["p", "row", "rule"]) fun _ _ _ _ _ _ us hl => match us, hl with | [_, _, _], _ => rfl
  have H__law_tells : Has l.prog w K mg base 1 "_law_tells" ["p", "row", "rule"] (spTells K) := ⟨f4, _, PySem.W.mg_of X G a4, F4.kp, b4, ok_tells F4 T⟩
  have b5 := F5.binds (ps := ["p", "row", "rule", "many"]) fun _ _ _ _ _ _ us hl => match us, hl with | [_, _, _, _], _ => rfl
  have H__law_on : Has l.prog w K mg base 2 "_law_on" ["p", "row", "rule", "many"] (spOn K) := ⟨f5, _, PySem.W.mg_of X G a5, F5.kp, b5, ok_on F5 T H__law_tells⟩
  have b6 := F6.binds (ps := ["e"]) fun _ _ _ _ _ _ us hl => match us, hl with | [_], _ => rfl
  have N__law_kind : HasN l.prog w K mg base 1 "_law_kind" ["e"] (spKind c) := ⟨f6, _, PySem.W.mg_of X G a6, F6.kp, b6, ok_kind F6 T TV Er⟩
  have b7 := F7.binds (ps := ["script", "p", "most"]) fun _ _ _ _ _ _ us hl => match us, hl with | [_, _, _], _ => rfl
  have H__law_row : Has l.prog w K mg base 3 "_law_row" ["script", "p", "most"] (spRow24 K) := ⟨f7, _, PySem.W.mg_of X G a7, F7.kp, b7, ok_row F7 T H__law_cell_at H__law_numbers H__law_on⟩
  have b8 := F8.binds (ps := ["p"]) fun _ _ _ _ _ _ us hl => match us, hl with | [_], _ => rfl
  have H_written_prime : Has l.prog w K mg base 1 "written_prime" ["p"] spWP := ⟨f8, _, PySem.W.mg_of X G a8, F8.kp, b8, ok_written_prime F8 ⟩
  have b9 := F9.binds (ps := ["word"]) fun _ _ _ _ _ _ us hl => match us, hl with | [_], _ => rfl
  have X_read_prime : HasX l.prog w K mg base 2 "read_prime" ["word"] (spRPX c) := ⟨f9, _, PySem.W.mg_of X G a9, F9.kp, b9, okX_read_prime F9 T Er H_written_prime⟩
  have b10 := F10.binds (ps := ["p", "word"]) fun _ _ _ _ _ _ us hl => match us, hl with | [_, _], _ => rfl
  have X_read_number : HasX l.prog w K mg base 1 "read_number" ["p", "word"] (spRNX c) := ⟨f10, _, PySem.W.mg_of X G a10, F10.kp, b10, okX_read_number F10 T Er TStr⟩
  have b11 := F11.binds (ps := ["text"]) fun _ _ _ _ _ _ us hl => match us, hl with | [_], _ => rfl
  have X_read : HasX l.prog w K mg base 3 "read" ["text"] (spReadX c) := ⟨f11, _, PySem.W.mg_of X G a11, F11.kp, b11, okX_read F11 T Er X_read_prime X_read_number⟩
  have b12 := F12.binds (ps := ["p", "row"]) fun _ _ _ _ _ _ us hl => match us, hl with | [_, _], _ => rfl
  have H__law_text : Has l.prog w K mg base 1 "_law_text" ["p", "row"] (spText K) := ⟨f12, _, PySem.W.mg_of X G a12, F12.kp, b12, ok_text F12 TStr⟩
  have b13 := F13.binds (ps := ["p", "row", "way", "cell"]) fun _ _ _ _ _ _ us hl => match us, hl with | [_, _, _, _], _ => rfl
  have H__law_spoiled : Has l.prog w K mg base 2 "_law_spoiled" ["p", "row", "way", "cell"] (spSpoil K) := ⟨f13, _, PySem.W.mg_of X G a13, F13.kp, b13, ok_spoil F13 T TStr H__law_text⟩
  have b14 := F14.binds (ps := ["text"]) fun _ _ _ _ _ _ us hl => match us, hl with | [_], _ => rfl
  have H__law_tried : Has l.prog w K mg base 4 "_law_tried" ["text"] spTriedT := ⟨f14, _, PySem.W.mg_of X G a14, F14.kp, b14, ok_tried F14 Er N__law_kind X_read⟩
  exact ok_law F15 H__law_cell_at H__law_prime H__law_row H__law_spoiled H__law_text H__law_tried
theorem walk {l : PySem.W.OpenLaw} {q : Program} {loose : List Str} {XP : (Str → Option Value) → Heap → Prop} {YP : World → Heap → Prop} {d : DefRec} {K : Params → PySem.W.Frag} (hn : l.most = some 63) (hdf : d.params.defaults = [])
    (hY : ∀ (w : World) (h : Heap), YP w h → (K w.params).In h)
    (F : ∀ (w : World) (mg : Str → Option Value) (fa : Addr) (h : Heap), (K w.params).In h → h.Ns mainGlobals mg → mg d.name = some (.ref fa) →
      ∃ fd : FuncData, (∀ (s : Shared) (u : Value), BindsTo s fd ⟨[u], []⟩ [("script", u)]) ∧ ∀ base : Heap, (K w.params).In base → base.Ns mainGlobals mg → FnOk l.prog w (K w.params) mg base CX0 5 fa fd ["script"] (spLaw (K w.params))) :
    PySem.W.WalkO q loose XP YP l.row.toRowW d [] (fun f vs => PySem.call f vs) :=
  L2.walk_of (n := 63) (k := 5) (x := "script") (CX := fun _ => CX0) (sp := fun w => spLaw (K w.params)) hn (by decide) hdf ⟨rfl, by decide, by decide⟩ hY F (fun _ _ a ns hl _ hS => ⟨a, ns, rfl, hS, fun _ => rfl⟩) fun _ _ _ _ _ z => z
end Rf
open PySem PySem.W PyProof.Rows
set_option maxRecDepth 100000 in
set_option maxHeartbeats 0 in
theorem PySem.Challenge.cw_rulefound_k17_unread_holds : PySem.Challenge.rw_rulefound_k17_unread.Holds := by
  w_on; o_law; k_head; (case hw => w_witness2)
  k_fill
  refine Rf.walk (l := PySem.Challenge.rw_rulefound_k17_unread) rfl rfl (fun w h Y => PySem.W.kIn_of Y) ?F
  case F =>
    intro w mg fa h KX G hmg
    refine' Rf.all_mk KX G hmg ?a0 ?l0 ?c0 ?k0 ?a1 ?l1 ?c1 ?k1 ?a2 ?l2 ?c2 ?k2 ?a3 ?l3 ?c3 ?k3 ?a4 ?l4 ?c4 ?k4 ?a5 ?l5 ?c5 ?k5 ?a6 ?l6 ?c6 ?k6 ?a7 ?l7 ?c7 ?k7 ?a8 ?l8 ?c8 ?k8 ?a9 ?l9 ?c9 ?k9 ?a10 ?l10 ?c10 ?k10 ?a11 ?l11 ?c11 ?k11 ?a12 ?l12 ?c12 ?k12 ?a13 ?l13 ?c13 ?k13 ?a14 ?l14 ?c14 ?k14 ?a15 ?l15 ?c15 ?k15 ?eR ?e0 ?e1 ?e2 ?e3 ?e4 ?e5 ?e6 ?xga0 ?xgx0 ?xcl0 ?xbe0 ?xob0 ?xty0 ?xmd0 ?xkv0 ?xex0 ?kk0_0 ?kk0_1 ?kk0_2 ?kk0_3 ?kk0_4 ?kk0_5 ?kk0_6 ?xga1 ?xgx1 ?xcl1 ?xbe1 ?xob1 ?xty1 ?xmd1 ?xkv1 ?xex1 ?kk1_0 ?kk1_1 ?kk1_2 ?kk1_3 ?kk1_4 ?kk1_5 ?kk1_6 ?xga2 ?xgx2 ?xcl2 ?xbe2 ?xob2 ?xty2 ?xmd2 ?xkv2 ?xex2 ?kk2_0 ?kk2_1 ?kk2_2 ?kk2_3 ?kk2_4 ?kk2_5 ?kk2_6 ?xga3 ?xgx3 ?xcl3 ?xbe3 ?xob3 ?xty3 ?xmd3 ?xkv3 ?xex3 ?kk3_0 ?kk3_1 ?kk3_2 ?kk3_3 ?kk3_4 ?kk3_5 ?kk3_6 ?xga4 ?xgx4 ?xcl4 ?xbe4 ?xob4 ?xty4 ?xmd4 ?xkv4 ?xex4 ?kk4_0 ?kk4_1 ?kk4_2 ?kk4_3 ?kk4_4 ?kk4_5 ?kk4_6 ?xga5 ?xgx5 ?xcl5 ?xbe5 ?xob5 ?xty5 ?xmd5 ?xkv5 ?xex5 ?kk5_0 ?kk5_1 ?kk5_2 ?kk5_3 ?kk5_4 ?kk5_5 ?kk5_6 ?xga6 ?xgx6 ?xcl6 ?xbe6 ?xob6 ?xty6 ?xmd6 ?xkv6 ?xex6 ?kk6_0 ?kk6_1 ?kk6_2 ?kk6_3 ?kk6_4 ?kk6_5 ?kk6_6 ?z_len ?z_range ?z_sum ?z_all ?z_isinstance ?z_bool ?z_int ?z_list ?z_min ?z_max ?z_reversed ?z_zip ?z_enumerate ?z_str ?z_ValueError ?zM ?zP ?lP ?hPs ?hPv
    (case a0 => k_is)
    (case l0 => k_is)
    (case c0 => k_is)
    (case k0 => k_is)
    (case a1 => k_is)
    (case l1 => k_is)
    (case c1 => k_is)
    (case k1 => k_is)
    (case a2 => k_is)
    (case l2 => k_is)
    (case c2 => k_is)
    (case k2 => k_is)
    (case a3 => k_is)
    (case l3 => k_is)
    (case c3 => k_is)
    (case k3 => k_is)
    (case a4 => k_is)
    (case l4 => k_is)
    (case c4 => k_is)
    (case k4 => k_is)
    (case a5 => k_is)
    (case l5 => k_is)
    (case c5 => k_is)
    (case k5 => k_is)
    (case a6 => k_is)
    (case l6 => k_is)
    (case c6 => k_is)
    (case k6 => k_is)
    (case a7 => k_is)
    (case l7 => k_is)
    (case c7 => k_is)
    (case k7 => k_is)
    (case a8 => k_is)
    (case l8 => k_is)
    (case c8 => k_is)
    (case k8 => k_is)
    (case a9 => k_is)
    (case l9 => k_is)
    (case c9 => k_is)
    (case k9 => k_is)
    (case a10 => k_is)
    (case l10 => k_is)
    (case c10 => k_is)
    (case k10 => k_is)
    (case a11 => k_is)
    (case l11 => k_is)
    (case c11 => k_is)
    (case k11 => k_is)
    (case a12 => k_is)
    (case l12 => k_is)
    (case c12 => k_is)
    (case k12 => k_is)
    (case a13 => k_is)
    (case l13 => k_is)
    (case c13 => k_is)
    (case k13 => k_is)
    (case a14 => k_is)
    (case l14 => k_is)
    (case c14 => k_is)
    (case k14 => k_is)
    (case a15 => k_is)
    (case l15 => k_is)
    (case c15 => k_is)
    (case k15 => k_is)
    (case eR => k_is)
    (case e0 => k_is)
    (case e1 => k_is)
    (case e2 => k_is)
    (case e3 => k_is)
    (case e4 => k_is)
    (case e5 => k_is)
    (case e6 => k_is)
    (case xga0 => k_is)
    (case xgx0 => k_is)
    (case xcl0 => k_is)
    (case xbe0 => k_is)
    (case xob0 => k_is)
    (case xty0 => k_is)
    (case xmd0 => k_exc)
    (case xkv0 => kit_is)
    (case xex0 => kts_exm)
    (case kk0_0 => kit_is)
    (case kk0_1 => kit_is)
    (case kk0_2 => kit_is)
    (case kk0_3 => kit_is)
    (case kk0_4 => kit_is)
    (case kk0_5 => kit_is)
    (case kk0_6 => kit_is)
    (case xga1 => k_is)
    (case xgx1 => k_is)
    (case xcl1 => k_is)
    (case xbe1 => k_is)
    (case xob1 => k_is)
    (case xty1 => k_is)
    (case xmd1 => k_exc)
    (case xkv1 => kit_is)
    (case xex1 => kts_exm)
    (case kk1_0 => kit_is)
    (case kk1_1 => kit_is)
    (case kk1_2 => kit_is)
    (case kk1_3 => kit_is)
    (case kk1_4 => kit_is)
    (case kk1_5 => kit_is)
    (case kk1_6 => kit_is)
    (case xga2 => k_is)
    (case xgx2 => k_is)
    (case xcl2 => k_is)
    (case xbe2 => k_is)
    (case xob2 => k_is)
    (case xty2 => k_is)
    (case xmd2 => k_exc)
    (case xkv2 => kit_is)
    (case xex2 => kts_exm)
    (case kk2_0 => kit_is)
    (case kk2_1 => kit_is)
    (case kk2_2 => kit_is)
    (case kk2_3 => kit_is)
    (case kk2_4 => kit_is)
    (case kk2_5 => kit_is)
    (case kk2_6 => kit_is)
    (case xga3 => k_is)
    (case xgx3 => k_is)
    (case xcl3 => k_is)
    (case xbe3 => k_is)
    (case xob3 => k_is)
    (case xty3 => k_is)
    (case xmd3 => k_exc)
    (case xkv3 => kit_is)
    (case xex3 => kts_exm)
    (case kk3_0 => kit_is)
    (case kk3_1 => kit_is)
    (case kk3_2 => kit_is)
    (case kk3_3 => kit_is)
    (case kk3_4 => kit_is)
    (case kk3_5 => kit_is)
    (case kk3_6 => kit_is)
    (case xga4 => k_is)
    (case xgx4 => k_is)
    (case xcl4 => k_is)
    (case xbe4 => k_is)
    (case xob4 => k_is)
    (case xty4 => k_is)
    (case xmd4 => k_exc)
    (case xkv4 => kit_is)
    (case xex4 => kts_exm)
    (case kk4_0 => kit_is)
    (case kk4_1 => kit_is)
    (case kk4_2 => kit_is)
    (case kk4_3 => kit_is)
    (case kk4_4 => kit_is)
    (case kk4_5 => kit_is)
    (case kk4_6 => kit_is)
    (case xga5 => k_is)
    (case xgx5 => k_is)
    (case xcl5 => k_is)
    (case xbe5 => k_is)
    (case xob5 => k_is)
    (case xty5 => k_is)
    (case xmd5 => k_exc)
    (case xkv5 => kit_is)
    (case xex5 => kts_exm)
    (case kk5_0 => kit_is)
    (case kk5_1 => kit_is)
    (case kk5_2 => kit_is)
    (case kk5_3 => kit_is)
    (case kk5_4 => kit_is)
    (case kk5_5 => kit_is)
    (case kk5_6 => kit_is)
    (case xga6 => k_is)
    (case xgx6 => k_is)
    (case xcl6 => k_is)
    (case xbe6 => k_is)
    (case xob6 => k_is)
    (case xty6 => k_is)
    (case xmd6 => k_exc)
    (case xkv6 => kit_is)
    (case xex6 => kts_exm)
    (case kk6_0 => kit_is)
    (case kk6_1 => kit_is)
    (case kk6_2 => kit_is)
    (case kk6_3 => kit_is)
    (case kk6_4 => kit_is)
    (case kk6_5 => kit_is)
    (case kk6_6 => kit_is)
    (case z_len => k_is)
    (case z_range => k_is)
    (case z_sum => k_is)
    (case z_all => k_is)
    (case z_isinstance => k_is)
    (case z_bool => k_is)
    (case z_int => k_is)
    (case z_list => k_is)
    (case z_min => k_is)
    (case z_max => k_is)
    (case z_reversed => k_is)
    (case z_zip => k_is)
    (case z_enumerate => k_is)
    (case z_str => k_is)
    (case z_ValueError => k_is)
    (case zM => k_is)
    (case zP => k_is)
    (case lP => k_is)
    (case hPs => decide)
    (case hPv => repeat' (first | exact .nil | refine .cons ⟨_, rfl⟩ ?_))
