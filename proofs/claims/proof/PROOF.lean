import PyProof.Rows.All
import Wide.All
import OpenK.AllK
import Wide.FinOn
import PyProof.EqAt
import PyProof.EqKinds
import PyProof.TupleCall
import KE.BitLaws
import Open.SpecLaws
import KE.OsHead
import KE.OsGo
import PySem.Challenge.RW_wholemint_s01_answers
section
set_option Elab.async false
set_option linter.all false
set_option maxRecDepth 100000
namespace L2
open PySem PySem.Spec PyProof.Rows
abbrev Key := Sum Int Str
def keyIs : Key → Value → Bool
  | .inl k, v => Value.isInt k v
  | .inr x, v => Value.isStrOf x v
def keyH (w : World) : Key → Int
  | .inl k => hashInt k
  | .inr x => hashStr w x
theorem keyIs_shape : ∀ {k : Key} {v : Value}, keyIs k v = true → (∃ i t, k = Sum.inl i ∧ v = Value.int i t) ∨ (∃ x t, k = Sum.inr x ∧ v = Value.str x t)
  | .inl i, v, h => by
    obtain ⟨t, e⟩ := Value.isInt_shape (k := i) (v := v) h
    exact .inl ⟨i, t, rfl, e⟩
  | .inr x, v, h => by
    obtain ⟨t, e⟩ := Value.isStrOf_shape (x := x) (v := v) h
    exact .inr ⟨x, t, rfl, e⟩
theorem key_ll (a b : Int) : decide ((Sum.inl a : Key) = Sum.inl b) = (a == b) := by
  by_cases e : a = b
  · subst e; simp
  · have h : ¬ (Sum.inl a : Key) = Sum.inl b := fun q => e (Sum.inl.inj q)
    rw [decide_eq_false h]
    exact (beq_eq_false_iff_ne.mpr e).symm
theorem key_rr (a b : Str) : decide ((Sum.inr a : Key) = Sum.inr b) = decide (a = b) := by
  by_cases e : a = b
  · subst e; simp
  · have h : ¬ (Sum.inr a : Key) = Sum.inr b := fun q => e (Sum.inr.inj q)
    rw [decide_eq_false h, decide_eq_false e]
theorem key_lr (a : Int) (b : Str) : decide ((Sum.inl a : Key) = Sum.inr b) = false := decide_eq_false (fun q => nomatch q)
theorem key_rl (a : Str) (b : Int) : decide ((Sum.inr a : Key) = Sum.inl b) = false := decide_eq_false (fun q => nomatch q)
def mixKind (prog : Program) (w : World) : PySem.KeyKind prog w Key where
  is := keyIs
  hash := keyH w
  inj := fun v a b ha hb => by
    rcases keyIs_shape ha with ⟨i, t, rfl, rfl⟩ | ⟨x, t, rfl, rfl⟩
    · rcases keyIs_shape hb with ⟨j, u, rfl, e⟩ | ⟨y, u, rfl, e⟩
      · injection e with e1 _; rw [e1]
      · exact nomatch e
    · rcases keyIs_shape hb with ⟨j, u, rfl, e⟩ | ⟨y, u, rfl, e⟩
      · exact nomatch e
      · injection e with e1 _; rw [e1]
  byValue := fun k v h => by
    rcases keyIs_shape h with ⟨i, t, rfl, rfl⟩ | ⟨x, t, rfl, rfl⟩ <;> rfl
  pyHash := fun hv h => by
    rcases keyIs_shape hv with ⟨i, t, rfl, rfl⟩ | ⟨x, t, rfl, rfl⟩
    · exact wpAny_pyHash_int h
    · exact wpAny_pyHash_str h
  eqBool := fun hu hv h => by
    rcases keyIs_shape hu with ⟨i, t, rfl, rfl⟩ | ⟨x, t, rfl, rfl⟩
    · rcases keyIs_shape hv with ⟨j, u, rfl, rfl⟩ | ⟨y, u, rfl, rfl⟩
      · rw [key_ll] at h; exact wpAny_eqBool_int h
      · rw [key_lr] at h; exact SeqAt.EqAt.int_str i t y u _ _ _ _ h
    · rcases keyIs_shape hv with ⟨j, u, rfl, rfl⟩ | ⟨y, u, rfl, rfl⟩
      · rw [key_rl] at h; exact SeqAt.EqAt.str_int x t j u _ _ _ _ h
      · rw [key_rr] at h; exact wpAny_eqBool_str h
  «strs» := fun k x t v h => by
    rcases keyIs_shape h with ⟨i, u, rfl, e⟩ | ⟨y, u, rfl, e⟩
    · exact nomatch e
    · injection e with e1 _
      subst e1
      cases v <;> rfl
end L2
namespace L2
open PySem PySem.Spec PyProof.Rows
inductive V where
  | non | bl (b : Bool) | int (i : Int) | str (x : Str) | byt (b : Array UInt8) | flt (b : UInt64) | ref (a : Addr) | ty (n : String)
  deriving DecidableEq
def RelV : V → Value → Prop
  | .non, u => u = Value.none
  | .bl b, u => u = Value.bool b
  | .int i, u => ∃ t, u = Value.int i t
  | .str x, u => ∃ t, u = Value.str x t
  | .byt b, u => ∃ t, u = Value.bytes b t
  | .flt b, u => ∃ t, u = Value.float b t
  | .ref a, u => u = Value.ref a
  | .ty n, u => u = Value.type n
abbrev Vals : List V → List Value → Prop := Paired RelV
theorem Vals.length {xs : List V} {us : List Value} (r : Vals xs us) : xs.length = us.length := Paired.length r
theorem Vals.get : ∀ {xs : List V} {us : List Value} {i : Nat} {x : V}, Vals xs us → xs[i]? = some x → ∃ u, us[i]? = some u ∧ RelV x u
  | _, _, _, _, .nil, e => by simp at e
  | _, _, 0, _, .cons r _, e => by simp at e; subst e; exact ⟨_, rfl, r⟩
  | _, _, i + 1, x, .cons _ t, e => by
    obtain ⟨u, h1, h2⟩ := Vals.get (i := i) (x := x) t (by simpa using e)
    exact ⟨u, by simpa using h1, h2⟩
theorem Vals.set {x : V} {u : Value} (r : RelV x u) : ∀ {xs : List V} {us : List Value} (i : Nat), Vals xs us → Vals (xs.set i x) (us.set i u)
  | _, _, _, .nil => .nil
  | _, _, 0, .cons _ t => .cons r t
  | _, _, i + 1, .cons q t => .cons q (Vals.set r i t)
theorem Vals.append : ∀ {xs ys : List V} {us ws : List Value}, Vals xs us → Vals ys ws → Vals (xs ++ ys) (us ++ ws)
  | _, _, _, _, .nil, s => s
  | _, _, _, _, .cons r t, s => .cons r (Vals.append t s)
theorem Vals.take : ∀ {xs : List V} {us : List Value} (n : Nat), Vals xs us → Vals (xs.take n) (us.take n)
  | _, _, 0, _ => .nil
  | _, _, _ + 1, .nil => .nil
  | _, _, n + 1, .cons r t => .cons r (Vals.take n t)
theorem Vals.drop : ∀ {xs : List V} {us : List Value} (n : Nat), Vals xs us → Vals (xs.drop n) (us.drop n)
  | _, _, 0, r => r
  | _, _, _ + 1, .nil => .nil
  | _, _, n + 1, .cons _ t => Vals.drop n t
def RelO : Option V → Option Value → Prop
  | some v, some u => RelV v u
  | none, none => True
  | _, _ => False
def KV {κ : Type} : List (κ × V) → List (κ × Value) → Prop := Paired fun (p : κ × V) (q : κ × Value) => p.1 = q.1 ∧ RelV p.2 q.2
def kV : Key → V
  | .inl i => .int i
  | .inr x => .str x
inductive HO where
  /-- a list -/
  | lst (xs : List V)
  /-- a tuple (never changes) -/
  | tup (xs : List V)
  /-- a dict whose keys are ints and texts; one whose keys are tuples of ints and texts (the empty one is both) -/
  | dK (kvs : List (Key × V)) | dT (kvs : List (List Key × V))
  /-- a set of ints: its members, its size -/
  | set (S : Int → Bool) (n : Nat)
  /-- an instance of the class at C, its dict at dx, its attributes -/
  | ins (C dx : Addr) (fs : List (Str × V))
  /-- the dict of the instance at x -/
  | own (x : Addr)
  /-- the dict of an exception -/
  | xd (fs : List (Str × V))
  /-- a bound method, f of x -/
  | met (f x : Addr)
  /-- a range object lo, lo + 1, .. below hi -/
  | rng (lo hi : Int)
  /-- a thing that is known to the object (the script; a dict while a loop walks it): read, never written while it is so -/
  | frz (o : Obj) (u : HO)
  /-- a code object's table -/
  | tbl (ps : Array Value)
  /-- any other thing, by what is true of its one object (a def of one's own: SetO a S n := HO.ext fun h => ..) -/
  | ext (φ : Heap → Prop)
abbrev Hp := Addr → Option HO
def upd (H : Hp) (a : Addr) (o : HO) : Hp := fun b => if b = a then some o else H b
theorem upd_same {H : Hp} {a : Addr} {o : HO} : upd H a o a = some o := by unfold upd; rw [if_pos rfl]
theorem upd_ne {H : Hp} {a b : Addr} {o : HO} (h : b ≠ a) : upd H a o b = H b := by unfold upd; rw [if_neg h]
theorem upd_upd {H : Hp} {a : Addr} {o u : HO} : upd (upd H a o) a u = upd H a u := by
  funext b; unfold upd; split <;> rfl
theorem ne_of {H : Hp} {a b : Addr} {o u : HO} (h : H a = some o) (h' : H b = some u) (d : o ≠ u) : a ≠ b := by
  intro e; subst e; rw [h] at h'; exact d (Option.some.inj h')
theorem ne_of_none {H : Hp} {a b : Addr} {o : HO} (h : H a = some o) (h' : H b = none) : a ≠ b := by
  intro e; subst e; rw [h] at h'; cases h'
section
variable (P : Program) (w : World)
def ObjOk (H : Hp) (h : Heap) (a : Addr) : HO → Prop
  | .lst xs => xs.length ≤ sizeLine ∧ ∃ (its : List Value) (n : Nat), Vals xs its ∧ h.get? a = some { cls := .type "list", data := .seq its.toArray n }
  | .tup xs => xs.length ≤ sizeLine ∧ ∃ its : List Value, Vals xs its ∧ IsTup h a its.toArray
  | .dK kvs => kvs.length ≤ sizeLine ∧ (a == sysModules) = false ∧ ∃ vs, KV kvs vs ∧ h.DictOf (mixKind P w) a vs
  | .dT kvs => kvs.length ≤ sizeLine ∧ (a == sysModules) = false ∧ ∃ xs : List (List Key × Addr × Value),
      Paired (fun (p : List Key × V) (q : List Key × Addr × Value) => p.1 = q.1 ∧ H q.2.1 = some (.tup (p.1.map kV)) ∧ RelV p.2 q.2.2) kvs xs ∧
      ∃ o es ep, h.get? a = some o ∧ o.ExactDict ∧ o.data = .dict es ep ∧ es.toList = xs.map (entryOfKey (tupleKind (mixKind P w))) ∧ (xs.map (·.1)).Nodup
  | .set S n => h.SetOf (intKind P w) a S n
  | .ins C dx fs => H dx = some (.own a) ∧ fs.length ≤ 1000 ∧ dx ≠ a ∧ h.get? a = some (PySem.W.instObj C dx) ∧
      ∃ mA, h.Ns1 dx mA ∧ (∀ f, RelO (fs.lookup f) (mA f)) ∧ PySem.Within mA (fs.map (·.1))
  | .own _ => ∃ o, h.get? a = some o
  | .xd fs => ∃ mA, h.Ns1 a mA ∧ ∀ f, RelO (fs.lookup f) (mA f)
  | .rng lo hi => ∃ t u v, h.get? a = some { cls := .type "range", data := .fields #[.int lo t, .int hi u, .int 1 v] }
  | .frz o u => h.get? a = some o ∧ ObjOk H h a u
  | .tbl ps => h.get? a = some { cls := .none, data := .fields ps }
  | .met f x => h.get? a = some (PySem.W.methodObj (.ref f) (.ref x))
  | .ext φ => φ h ∧ (∃ o, h.get? a = some o) ∧ ∀ h1 h2 : Heap, φ h1 → (∀ o, h1.get? a = some o → h2.get? a = some o) → φ h2
def HOk (H : Hp) (h : Heap) : Prop := ∀ a o, H a = some o → ObjOk P w H h a o
end
section
variable {P : Program} {w : World} {H H' : Hp} {h h' : Heap} {a : Addr} {o : HO}
theorem ObjOk.lt (x : ObjOk P w H h a o) : a < h.objs.size := by
  cases o with
  | lst xs => obtain ⟨_, _, _, _, e⟩ := x; exact Heap.lt_size e
  | tup xs => obtain ⟨_, _, _, p⟩ := x; exact p.lt
  | dK kvs => obtain ⟨_, _, _, _, o, _, _, e, _⟩ := x; exact Heap.lt_size e
  | dT kvs => obtain ⟨_, _, _, _, o, _, _, e, _⟩ := x; exact Heap.lt_size e
  | set S n => obtain ⟨o, _, _, _, e, _⟩ := x; exact Heap.lt_size e
  | ins C dx fs => obtain ⟨_, _, _, e, _⟩ := x; exact Heap.lt_size e
  | own y => obtain ⟨_, e⟩ := x; exact Heap.lt_size e
  | xd fs => obtain ⟨_, ⟨_, _, _, e, _⟩, _⟩ := x; exact Heap.lt_size e
  | rng lo hi => obtain ⟨_, _, _, e⟩ := x; exact Heap.lt_size e
  | frz ob u => obtain ⟨e, _⟩ := x; exact Heap.lt_size e
  | tbl ps => exact Heap.lt_size (show h.get? a = some _ from x)
  | met f y => exact Heap.lt_size (show h.get? a = some _ from x)
  | ext φ => obtain ⟨_, ⟨_, e⟩, _⟩ := x; exact Heap.lt_size e
theorem Paired.mapP {α β : Type} {F G : α → β → Prop} : ∀ {l₁ : List α} {l₂ : List β}, Paired F l₁ l₂ → (∀ a b, F a b → G a b) → Paired G l₁ l₂
  | _, _, .nil, _ => .nil
  | _, _, .cons r t, f => .cons (f _ _ r) (Paired.mapP t f)
theorem ObjOk.stay (x : ObjOk P w H h a o) (k : ∀ b u, (b = a ∨ H b = some (.own a)) → h.get? b = some u → h'.get? b = some u)
    (ho : ∀ b, H b = some (.own a) → H' b = some (.own a)) (ht : ∀ b xs, H b = some (.tup xs) → H' b = some (.tup xs)) : ObjOk P w H' h' a o := by
  induction o with
  | lst xs => obtain ⟨z, its, n, r, e⟩ := x; exact ⟨z, its, n, r, k _ _ (.inl rfl) e⟩
  | tup xs => obtain ⟨z, its, r, ob, e, c⟩ := x; exact ⟨z, its, r, ob, k _ _ (.inl rfl) e, c⟩
  | dK kvs => obtain ⟨z, y, vs, r, ob, es, ep, e, c⟩ := x; exact ⟨z, y, vs, r, ob, es, ep, k _ _ (.inl rfl) e, c⟩
  | dT kvs =>
    obtain ⟨z, y, xs, r, ob, es, ep, e, c⟩ := x
    exact ⟨z, y, xs, Paired.mapP r fun p q z => ⟨z.1, ht _ _ z.2.1, z.2.2⟩, ob, es, ep, k _ _ (.inl rfl) e, c⟩
  | set S n => obtain ⟨ob, es, ep, t, e, c⟩ := x; exact ⟨ob, es, ep, t, k _ _ (.inl rfl) e, c⟩
  | ins C dx fs =>
    obtain ⟨d, z, ne, e, mA, ⟨od, es, ep, e2, c⟩, r⟩ := x
    exact ⟨ho _ d, z, ne, k _ _ (.inl rfl) e, mA, ⟨od, es, ep, k _ _ (.inr d) e2, c⟩, r⟩
  | own y => obtain ⟨ob, e⟩ := x; exact ⟨ob, k _ _ (.inl rfl) e⟩
  | xd fs => obtain ⟨mA, ⟨od, es, ep, e, c⟩, r⟩ := x; exact ⟨mA, ⟨od, es, ep, k _ _ (.inl rfl) e, c⟩, r⟩
  | rng lo hi => obtain ⟨t, u, v, e⟩ := x; exact ⟨t, u, v, k _ _ (.inl rfl) e⟩
  | frz ob u ih => obtain ⟨e, q⟩ := x; exact ⟨k _ _ (.inl rfl) e, ih q⟩
  | tbl ps =>
    have e : h.get? a = some { cls := .none, data := .fields ps } := x
    show h'.get? a = some { cls := .none, data := .fields ps }
    exact k a _ (.inl rfl) e
  | met f y =>
    have e : h.get? a = some (PySem.W.methodObj (.ref f) (.ref y)) := x
    show h'.get? a = some (PySem.W.methodObj (.ref f) (.ref y))
    exact k a _ (.inl rfl) e
  | ext φ => obtain ⟨p, ⟨o, e⟩, st⟩ := x; exact ⟨st _ _ p fun o q => k _ _ (.inl rfl) q, ⟨o, k _ _ (.inl rfl) e⟩, st⟩
theorem HOk.lt (x : HOk P w H h) (e : H a = some o) : a < h.objs.size := (x a o e).lt
theorem HOk.fresh (x : HOk P w H h) (e : h.objs.size ≤ a) : H a = none := by
  cases q : H a with
  | none => rfl
  | some u => exact absurd (Nat.lt_of_lt_of_le (x.lt q) e) (Nat.lt_irrefl _)
theorem HOk.kept (x : HOk P w H h) (k : ∀ b u, h.get? b = some u → h'.get? b = some u) : HOk P w H h' := fun a o e =>
  (x a o e).stay (fun b u _ q => k b u q) (fun _ q => q) fun _ _ q => q
theorem HOk.laid (x : HOk P w H h) (k : ∀ b u, h.get? b = some u → h'.get? b = some u) (hp : h.objs.size ≤ a) (new : ObjOk P w (upd H a o) h' a o) : HOk P w (upd H a o) h' := fun b u e => by
  have hn := x.fresh hp
  by_cases hb : b = a
  · subst hb; rw [upd_same] at e; cases e; exact new
  · rw [upd_ne hb] at e
    exact (x b u e).stay (fun c v _ q => k c v q) (fun c q => by rw [upd_ne (ne_of_none q hn)]; exact q) fun c xs q => by rw [upd_ne (ne_of_none q hn)]; exact q
end
def Rd (H : Hp) (a : Addr) (u : HO) : Prop := H a = some u ∨ ∃ o, H a = some (.frz o u)
theorem Rd.ok {P : Program} {w : World} {H : Hp} {h : Heap} {a : Addr} {u : HO} (r : Rd H a u) (x : HOk P w H h) : ObjOk P w H h a u := by
  rcases r with r | ⟨o, r⟩
  · exact x a u r
  · obtain ⟨_, q⟩ := x a _ r
    exact q
def Mut : Option HO → Prop
  | some (.lst _) => True
  | some (.dK _) => True
  | some (.dT _) => True
  | some (.set _ _) => True
  | some (.ins _ _ _) => True
  | some (.ext _) => True
  | _ => False
section
variable {P : Program} {w : World} {H : Hp} {h h' : Heap} {x e : Addr} {o' : HO}
theorem HOk.write (ok : HOk P w H h) (mu : Mut (H x)) (he : e = x ∨ H e = some (.own x)) (k : ∀ b u, b ≠ e → h.get? b = some u → h'.get? b = some u) (heo : ∃ u, h'.get? e = some u)
    (new : ObjOk P w (upd H x o') h' x o') : HOk P w (upd H x o') h' := fun b u q => by
  have nown : ∀ c y, H c = some (.own y) → c ≠ x := fun c y r z => by subst z; rw [r] at mu; exact mu
  have ntup : ∀ c xs, H c = some (.tup xs) → c ≠ x := fun c xs r z => by subst z; rw [r] at mu; exact mu
  by_cases hb : b = x
  · subst hb; rw [upd_same] at q; cases q; exact new
  · rw [upd_ne hb] at q
    by_cases hbe : b = e
    · have q' : H b = some (.own x) := by
        rcases he with z | z
        · exact absurd (hbe.trans z) hb
        · rw [hbe]; exact z
      rw [q] at q'; cases q'
      obtain ⟨v, hv⟩ := heo
      exact ⟨v, by rw [hbe]; exact hv⟩
    · refine (ok b u q).stay (fun c v hc r => k c v ?_ r) (fun c r => by rw [upd_ne (nown c b r)]; exact r) fun c xs r => by rw [upd_ne (ntup c xs r)]; exact r
      rcases hc with rfl | hc
      · exact hbe
      · rintro rfl
        rcases he with z | z
        · exact nown c b hc z
        · rw [hc] at z; cases z; exact hb rfl
end
structure Un (fs ex : List Addr) (H H' : Hp) (h h' : Heap) : Prop where
  keep : ∀ b o, h.get? b = some o → H b = none → b ∉ fs → b ∉ ex → h'.get? b = some o
  slot : ∀ b o, h.get? b = some o → H b = none → b ∈ fs → b ∉ ex → ∃ sl, h'.get? b = some { o with slots := sl }
  free : ∀ b o, h.get? b = some o → H b = none → b ∉ ex → H' b = none
  there : ∀ b o, h.get? b = some o → b ∉ ex → ∃ o', h'.get? b = some o'
  tups : ∀ b xs, H b = some (.tup xs) → H' b = some (.tup xs)
  frzs : ∀ b o u, H b = some (.frz o u) → H' b = some (.frz o u)
  tbls : ∀ b ps, H b = some (.tbl ps) → ∃ more, H' b = some (.tbl (ps ++ more))
section
variable {fs fs' ex ex' : List Addr} {H H1 H2 : Hp} {h h1 h2 h' : Heap} {a x e : Addr} {o : HO}
theorem Un.any (u : Un fs ex H H1 h h1) {b : Addr} {ob : Obj} (q : h.get? b = some ob) (n : H b = none) (hx : b ∉ ex) : ∃ sl, h1.get? b = some { ob with slots := sl } := by
  by_cases hb : b ∈ fs
  · exact u.slot b ob q n hb hx
  · exact ⟨ob.slots, u.keep b ob q n hb hx⟩
theorem Un.kept (k : ∀ b u, h.get? b = some u → h'.get? b = some u) : Un fs ex H H h h' :=
  ⟨fun b ob q _ _ _ => k b ob q, fun b ob q _ _ _ => ⟨ob.slots, k b ob q⟩, fun _ _ _ n _ => n, fun b ob q _ => ⟨ob, k b ob q⟩, fun _ _ q => q, fun _ _ _ q => q, fun _ ps q => ⟨#[], by rw [q]; simp⟩⟩
theorem Un.refl : Un fs ex H H h h := Un.kept fun _ _ q => q
theorem Un.laid (k : ∀ b u, h.get? b = some u → h'.get? b = some u) (hp : h.objs.size ≤ a) (hn : H a = none) : Un fs ex H (upd H a o) h h' where
  keep := fun b u q _ _ _ => k b u q
  slot := fun b u q _ _ _ => ⟨u.slots, k b u q⟩
  free := fun b u q n _ => by rw [upd_ne (Nat.ne_of_lt (Nat.lt_of_lt_of_le (Heap.lt_size q) hp))]; exact n
  there := fun b u q _ => ⟨u, k b u q⟩
  tups := fun b xs q => by rw [upd_ne (ne_of_none q hn)]; exact q
  frzs := fun b u xs q => by rw [upd_ne (ne_of_none q hn)]; exact q
  tbls := fun b ps q => ⟨#[], by rw [upd_ne (ne_of_none q hn), q]; simp⟩
theorem Un.write (mu : Mut (H x)) (he : e = x ∨ H e = some (.own x)) (k : ∀ b u, b ≠ e → h.get? b = some u → h'.get? b = some u) (heo : ∃ u, h'.get? e = some u) : Un fs ex H (upd H x o) h h' := by
  have hx : ∀ b, H b = none → b ≠ x := fun b n z => by subst z; rw [n] at mu; exact mu
  have hb : ∀ b, H b = none → b ≠ e := fun b n z => by
    subst z
    rcases he with r | r
    · exact hx b n r
    · rw [n] at r; cases r
  have hm : ∀ b u, H b = some u → ¬ Mut (some u) → b ≠ x := fun b u q nm z => by subst z; rw [q] at mu; exact nm mu
  refine ⟨fun b u q n _ _ => k b u (hb b n) q, fun b u q n _ _ => ⟨u.slots, k b u (hb b n) q⟩, fun b u q n _ => by rw [upd_ne (hx b n)]; exact n, fun b u q _ => ?_,
    fun b xs q => by rw [upd_ne (hm b _ q fun z => z)]; exact q, fun b u xs q => by rw [upd_ne (hm b _ q fun z => z)]; exact q, fun b ps q => ⟨#[], by rw [upd_ne (hm b _ q fun z => z), q]; simp⟩⟩
  by_cases hbe : b = e
  · subst hbe; exact heo
  · exact ⟨u, k b u hbe q⟩
end
def trk (h : Heap) (H : Hp) : List Addr := (List.range h.objs.size).filter fun a => (H a).isSome
def hidT (h : Heap) (H : Hp) : Heap := PySem.W.hideAll h (trk h H)
theorem hidT_size (h : Heap) (H : Hp) : (hidT h H).objs.size = h.objs.size := PySem.W.hideAll_size _ _
theorem hidT_get {h : Heap} {H : Hp} {b : Addr} {o : Obj} (e : h.get? b = some o) (n : H b = none) : (hidT h H).get? b = some o :=
  PySem.W.hideAll_get _ e fun hm => by
    have q : (H b).isSome = true := (List.mem_filter.mp hm).2
    rw [n] at q; simp at q
theorem of_hidT {h : Heap} {H : Hp} {b : Addr} {o : Obj} (e : (hidT h H).get? b = some o) : h.get? b = some o ∧ H b = none := by
  have e' : h.get? b = some o := PySem.W.of_hideAll (trk h H) e
  refine ⟨e', ?_⟩
  cases q : H b with
  | none => rfl
  | some x =>
    have hm : b ∈ trk h H := List.mem_filter.mpr ⟨List.mem_range.mpr (Heap.lt_size e'), by simp [q]⟩
    have z : (hidT h H).get? b = none := PySem.W.hideAll_none (trk h H) hm
    rw [z] at e; cases e
end L2
namespace L2
open PySem PySem.Spec PyProof.Rows
structure Mod (K : PySem.W.Frag) (mg : Str → Option Value) (base : Heap) : Prop where
  kin : K.In base
  glob : base.Ns mainGlobals mg
  blt : ∃ mb, base.Ns builtinsNs mb ∧ ∀ x : Str, x ≠ "__name__" → mb x = bootBuiltins x
  nolimit : base.NoLimit
structure Cx where
  prog : Program
  w : World
  K : PySem.W.Frag
  mg : Str → Option Value
  base : Heap
  A : Around
  N : List Str
  s_0 : Shared
  H_0 : Hp
  env : Env
  outer : List Env
  stack : List Env
  ex : List Addr
  fn : Str → Bool
  calm : Bool
  pn : List (Addr × Obj)
  xe : Value → Shared → Prop
def frs (l : List Env) : List Addr := l.filterMap (·.frame)
abbrev Cx.fs (X : Cx) : List Addr := frs X.outer
def Vis (sc : Scope) (x : Str) : Prop := sc.names.lookup x = some .local ∨ sc.names.lookup x = some .cell ∨ sc.names.lookup x = some .free
def Loc (sc : Scope) (x : Str) : Prop := sc.names.lookup x = some .local ∨ sc.names.lookup x = some .cell
def Look (env : Env) (h : Heap) (m : Str → Option Value) (x : Str) (u : Value) : Prop :=
  (env.kindOf x = some .local ∧ m x = some u) ∨ ((env.kindOf x = some .cell ∨ env.kindOf x = some .free) ∧ ∃ c, env.cells.lookup x = some c ∧ h.IsCell c (some u))
structure Cx.Ok (X : Cx) : Prop where
  mod : Mod X.K X.mg X.base
  kind : X.env.scope.kind = .function
  glob : X.env.globals = mainGlobals
  blt : X.env.builtins = builtinsNs
  above : X.s_0.heap.objs.size ≤ X.env.locals
  inj : ∀ x y c, X.env.cells.lookup x = some c → X.env.cells.lookup y = some c → x = y
  has : ∀ x, (X.env.kindOf x = some .cell ∨ X.env.kindOf x = some .free) → ∃ c, X.env.cells.lookup x = some c
  cab : ∀ x c, X.fn x = true → X.env.cells.lookup x = some c → X.s_0.heap.objs.size ≤ c
  hd : X.calm = true → X.A.handled = none
  frames : X.A.frames = some X.stack
  stk : X.stack = X.outer ∨ (X.stack = X.env :: X.outer ∧ X.env.frame = some X.env.locals)
  exf : ∀ b ∈ X.ex, b ≠ X.env.locals ∧ ∀ x c, X.env.cells.lookup x = some c → c ≠ b
  bs : ∀ b o, X.base.get? b = some o → X.s_0.heap.get? b = some o ∧ X.H_0 b = none
  bsz : X.base.objs.size ≤ X.s_0.heap.objs.size
  noex : ∀ b o, X.base.get? b = some o → b ∉ X.ex
  exfs : ∀ b ∈ X.ex, b ∉ X.fs
  funs : X.s_0.heap.FunFrames X.base X.outer
  frf : ∀ b ∈ X.fs, X.H_0 b = none
structure Inv (X : Cx) (pins : List (Addr × Obj)) (σ : List (Option V)) (H : Hp) (s : Shared) : Prop where
  ok : X.Ok
  os : s.os = X.s_0.os
  bare : AllBare s.gens
  base : Un X.fs X.ex X.H_0 H X.s_0.heap s.heap
  loc : ∃ m, s.heap.Ns X.env.locals m ∧ ∀ (i : Nat) (x : Str) (v : V), X.N[i]? = some x → σ[i]? = some (some v) → Vis X.env.scope x → ∃ u, RelV v u ∧ Look X.env s.heap m x u
  cell : ∀ x c, X.env.cells.lookup x = some c → ∃ v, s.heap.IsCell c v
  free : H X.env.locals = none
  freeC : ∀ x c, X.env.cells.lookup x = some c → H c = none
  pin : ∀ p ∈ X.pn ++ pins, s.heap.get? p.1 = some p.2 ∧ H p.1 = none ∧ p.1 ≠ X.env.locals ∧ p.1 ∉ X.fs ∧ ∀ v, p.2.data ≠ .cell v
  hok : HOk X.prog X.w H s.heap
  len : σ.length = X.N.length
section
variable {X : Cx} {pins : List (Addr × Obj)} {σ : List (Option V)} {H H' : Hp} {s : Shared} {h' : Heap}
theorem Cx.Ok.nofr (ok : X.Ok) {b : Addr} {o : Obj} (e : X.base.get? b = some o) : b ∉ X.fs := fun hb => by
  have := (ok.funs.mem hb).1
  rw [e] at this; cases this
theorem Inv.bs (I : Inv X pins σ H s) : ∀ b o, X.base.get? b = some o → s.heap.get? b = some o ∧ H b = none := fun b o e =>
  ⟨I.base.keep b o (I.ok.bs b o e).1 (I.ok.bs b o e).2 (I.ok.nofr e) (I.ok.noex b o e), I.base.free b o (I.ok.bs b o e).1 (I.ok.bs b o e).2 (I.ok.noex b o e)⟩
theorem Inv.bk (I : Inv X pins σ H s) : ∀ b o, X.base.get? b = some o → s.heap.get? b = some o := fun b o e => (I.bs b o e).1
theorem Inv.mod (I : Inv X pins σ H s) : Mod X.K X.mg X.base := I.ok.mod
theorem Inv.kIn (I : Inv X pins σ H s) : X.K.In s.heap := I.ok.mod.kin.keeps I.bk
theorem Inv.lt (I : Inv X pins σ H s) : X.env.locals < s.heap.objs.size := let ⟨_, hn, _⟩ := I.loc; hn.lt
theorem Inv.sz (I : Inv X pins σ H s) : X.s_0.heap.objs.size ≤ s.heap.objs.size := Nat.le_trans I.ok.above (Nat.le_of_lt I.lt)
theorem Inv.nofs (I : Inv X pins σ H s) {a : Addr} (h : s.heap.objs.size ≤ a) : a ∉ X.fs := fun hb => by
  obtain ⟨_, o, ho, _⟩ := I.ok.funs.mem hb
  exact absurd (Nat.lt_of_lt_of_le (Heap.lt_size ho) (Nat.le_trans I.sz h)) (Nat.lt_irrefl _)
theorem Inv.cne (I : Inv X pins σ H s) : ∀ x c, X.env.cells.lookup x = some c → c ≠ X.env.locals := fun x c e z => by
  obtain ⟨v, o, ho, hd⟩ := I.cell x c e
  obtain ⟨m, ⟨o', es, ep, ho', hd', _⟩, _⟩ := I.loc
  rw [z, ho'] at ho; cases ho; rw [hd'] at hd; cases hd
theorem Inv.funs (I : Inv X pins σ H s) : s.heap.FunFrames X.base X.outer := by
  have all : ∀ (l : List Env), (∀ b ∈ frs l, b ∈ X.fs) → X.s_0.heap.FunFrames X.base l → s.heap.FunFrames X.base l := by
    intro l
    induction l with
    | nil => intro _ _; trivial
    | cons env r ih =>
      intro hs hl
      obtain ⟨hk, ⟨L, o, hf, hn, ho, hd⟩, hr⟩ := hl
      have hL : L ∈ X.fs := hs L (by unfold frs; rw [List.filterMap_cons, hf]; exact List.mem_cons_self)
      obtain ⟨sl, e⟩ := I.base.slot L o ho (I.ok.frf L hL) hL fun z => I.ok.exfs L z hL
      exact ⟨hk, ⟨L, _, hf, hn, e, hd⟩, ih (fun b hb => hs b (by unfold frs; rw [List.filterMap_cons, hf]; exact List.mem_cons_of_mem _ hb)) hr⟩
  exact all X.outer (fun _ hb => hb) I.ok.funs
theorem Inv.stack (I : Inv X pins σ H s) : s.heap.FunFrames X.base X.stack := by
  rcases I.ok.stk with e | ⟨e, hf⟩
  · rw [e]; exact I.funs
  · rw [e]
    obtain ⟨m, hn, _⟩ := I.loc
    refine .cons (by rw [I.ok.kind]; decide) hf hn ?_ I.funs
    exact Heap.get?_none_of_le (Nat.le_trans I.ok.bsz I.ok.above)
theorem Inv.stkSub (I : Inv X pins σ H s) : ∀ b ∈ frs X.stack, b ∈ X.env.locals :: X.fs := fun b hb => by
  rcases I.ok.stk with e | ⟨e, hf⟩
  · rw [e] at hb; exact List.mem_cons_of_mem _ hb
  · rw [e] at hb
    unfold frs at hb
    rw [List.filterMap_cons, hf] at hb
    exact hb
theorem Inv.stkFree (I : Inv X pins σ H s) : ∀ b ∈ frs X.stack, H b = none := fun b hb => by
  rcases List.mem_cons.mp (I.stkSub b hb) with e | hb
  · rw [e]; exact I.free
  · obtain ⟨_, o, ho, _⟩ := I.ok.funs.mem hb
    exact I.base.free b o ho (I.ok.frf b hb) fun z => I.ok.exfs b z hb
theorem Inv.step {g' : Array GenState} {t' : Nat} {d' : Drawn} {ch : List Addr} (I : Inv X pins σ H s)
    (hch : ∀ b ∈ ch, (b ∈ X.ex ∨ X.s_0.heap.objs.size ≤ b) ∧ b ≠ X.env.locals ∧ (∀ x c, X.env.cells.lookup x = some c → c ≠ b) ∧ ∀ p ∈ X.pn ++ pins, p.1 ≠ b)
    (keep : ∀ b o, b ≠ X.env.locals → b ∉ X.fs → b ∉ ch → s.heap.get? b = some o → H b = none → h'.get? b = some o)
    (slot : ∀ b o, b ≠ X.env.locals → b ∈ X.fs → b ∉ ch → s.heap.get? b = some o → H b = none → ∃ sl, h'.get? b = some { o with slots := sl }) (free : ∀ b o, b ∉ ch → s.heap.get? b = some o → H b = none → H' b = none)
    (there : ∀ b o, b ∉ ch → s.heap.get? b = some o → ∃ o', h'.get? b = some o')
    (tups : ∀ b xs, H b = some (.tup xs) → H' b = some (.tup xs)) (frzs : ∀ b o u, H b = some (.frz o u) → H' b = some (.frz o u)) (tbls : ∀ b ps, H b = some (.tbl ps) → ∃ more, H' b = some (.tbl (ps ++ more)))
    (ns : ∀ m, s.heap.Ns X.env.locals m → h'.Ns X.env.locals m) (hok : HOk X.prog X.w H' h') (hg : AllBare g') :
    Inv X pins σ H' { s with heap := h', gens := g', drawn := d', toks := t' } := by
  have neL : ∀ b o, X.s_0.heap.get? b = some o → b ≠ X.env.locals := fun b o e => Nat.ne_of_lt (Nat.lt_of_lt_of_le (Heap.lt_size e) I.ok.above)
  have neC : ∀ b o, X.s_0.heap.get? b = some o → b ∉ X.ex → b ∉ ch := fun b o e hx hb => by
    rcases (hch b hb).1 with z | z
    · exact hx z
    · exact absurd (Nat.lt_of_lt_of_le (Heap.lt_size e) z) (Nat.lt_irrefl _)
  have cellK : ∀ x c, X.env.cells.lookup x = some c → ∀ v, s.heap.IsCell c v → h'.IsCell c v := fun x c e v ⟨o, ho, hd⟩ => by
    have nch : c ∉ ch := fun z => (hch c z).2.2.1 x c e rfl
    by_cases hc : c ∈ X.fs
    · obtain ⟨sl, q⟩ := slot c o (I.cne x c e) hc nch ho (I.freeC x c e)
      exact ⟨_, q, hd⟩
    · exact ⟨o, keep c o (I.cne x c e) hc nch ho (I.freeC x c e), hd⟩
  refine ⟨I.ok, I.os, hg, ⟨fun b o e n hb hx => ?_, fun b o e n hb hx => ?_, fun b o e n hx => ?_, fun b o e hx => ?_, fun b xs e => tups b xs (I.base.tups b xs e), fun b o xs e => frzs b o xs (I.base.frzs b o xs e), fun b ps e => ?_⟩, ?_, fun x c e => ?_, ?_, fun x c e => ?_, fun p hp => ?_, hok, I.len⟩
  · exact keep b o (neL b o e) hb (neC b o e hx) (I.base.keep b o e n hb hx) (I.base.free b o e n hx)
  · obtain ⟨sl, e1⟩ := I.base.slot b o e n hb hx
    obtain ⟨sl', e2⟩ := slot b _ (neL b o e) hb (neC b o e hx) e1 (I.base.free b o e n hx)
    exact ⟨sl', e2⟩
  · obtain ⟨o', e1⟩ := I.base.there b o e hx
    exact free b o' (neC b o e hx) e1 (I.base.free b o e n hx)
  · obtain ⟨o', e1⟩ := I.base.there b o e hx
    exact there b o' (neC b o e hx) e1
  · obtain ⟨m1, e1⟩ := I.base.tbls b ps e
    obtain ⟨m2, e2⟩ := tbls b _ e1
    exact ⟨m1 ++ m2, by rw [e2, Array.append_assoc]⟩
  · obtain ⟨m, hn, hl⟩ := I.loc
    refine ⟨m, ns m hn, fun i x v e1 e2 e3 => ?_⟩
    obtain ⟨u, r, l⟩ := hl i x v e1 e2 e3
    refine ⟨u, r, ?_⟩
    rcases l with l | ⟨k, c, e, z⟩
    · exact .inl l
    · exact .inr ⟨k, c, e, cellK x c e _ z⟩
  · obtain ⟨v, z⟩ := I.cell x c e
    exact ⟨v, cellK x c e v z⟩
  · obtain ⟨m, ⟨o, _, _, ho, _⟩, _⟩ := I.loc
    exact free _ o (fun z => (hch _ z).2.1 rfl) ho I.free
  · obtain ⟨v, o, ho, hd⟩ := I.cell x c e
    exact free c o (fun z => (hch c z).2.2.1 x c e rfl) ho (I.freeC x c e)
  · obtain ⟨e, n, ne, nf, d⟩ := I.pin p hp
    have nch : p.1 ∉ ch := fun z => (hch p.1 z).2.2.2 p hp rfl
    exact ⟨keep p.1 p.2 ne nf nch e n, free p.1 p.2 nch e n, ne, nf, d⟩
theorem Inv.un {t' : Nat} (I : Inv X pins σ H s) (u : Un X.fs [] H H' s.heap h') (hok : HOk X.prog X.w H' h') : Inv X pins σ H' { s with heap := h', toks := t' } := by
  obtain ⟨m, ⟨o, es, ep, ho, r⟩, _⟩ := id I.loc
  obtain ⟨sl, hL⟩ := u.any ho I.free (by simp)
  exact I.step (g' := s.gens) (d' := s.drawn) (ch := []) (fun _ z => nomatch z) (fun b o _ hb _ e n => u.keep b o e n hb (by simp)) (fun b o _ hb _ e n => u.slot b o e n hb (by simp)) (fun b o _ e n => u.free b o e n (by simp)) (fun b o _ e => u.there b o e (by simp)) u.tups u.frzs u.tbls (fun m' hm => by
    obtain ⟨o', es', ep', ho', r'⟩ := hm
    rw [ho] at ho'; cases ho'
    exact ⟨_, es', ep', hL, r'⟩) hok I.bare
theorem Inv.call {g' : Array GenState} {t' : Nat} {d' : Drawn} {ch : List Addr} (I : Inv X pins σ H s) (u : Un (frs X.stack) ch H H' s.heap h') (hok : HOk X.prog X.w H' h') (hg : AllBare g')
    (hch : ∀ b ∈ ch, (b ∈ X.ex ∨ X.s_0.heap.objs.size ≤ b) ∧ b ≠ X.env.locals ∧ (∀ x c, X.env.cells.lookup x = some c → c ≠ b) ∧ ∀ p ∈ X.pn ++ pins, p.1 ≠ b) :
    Inv X pins σ H' { s with heap := h', gens := g', drawn := d', toks := t' } := by
  obtain ⟨m, ⟨o, es, ep, ho, r⟩, _⟩ := id I.loc
  obtain ⟨sl, hL⟩ := u.any ho I.free fun z => (hch _ z).2.1 rfl
  exact I.step (ch := ch) hch (fun b o hL hb hc e n => u.keep b o e n (fun z => (List.mem_cons.mp (I.stkSub b z)).elim hL hb) hc) (fun b o _ _ hc e n => u.any e n hc) (fun b o hc e n => u.free b o e n hc) (fun b o hc e => u.there b o e hc) u.tups u.frzs u.tbls (fun m' hm => by
    obtain ⟨o', es', ep', ho', r'⟩ := hm
    rw [ho] at ho'; cases ho'
    exact ⟨_, es', ep', hL, r'⟩) hok hg
theorem Inv.turned {t' : Nat} {it : Addr} (I : Inv X pins σ H s) (k : ∀ b o, b ≠ it → s.heap.get? b = some o → h'.get? b = some o) (hn : H it = none) (hL : it ≠ X.env.locals)
    (h1 : it ∈ X.ex ∨ X.s_0.heap.objs.size ≤ it) (h2 : ∀ x c, X.env.cells.lookup x = some c → c ≠ it) (h3 : ∀ p ∈ X.pn ++ pins, p.1 ≠ it) : Inv X pins σ H { s with heap := h', toks := t' } := by
  have nit : ∀ b u, H b = some u → b ≠ it := fun b u e z => by rw [z, hn] at e; cases e
  refine I.step (g' := s.gens) (d' := s.drawn) (ch := [it]) (fun b hb => ?_) (fun b o _ _ hc e _ => k b o (fun z => hc (by simp [z])) e) (fun b o _ _ hc e _ => ⟨o.slots, k b o (fun z => hc (by simp [z])) e⟩) (fun _ _ _ _ n => n)
    (fun b o hc e => ⟨o, k b o (fun z => hc (by simp [z])) e⟩) (fun _ _ e => e) (fun _ _ _ e => e) (fun b ps e => ⟨#[], by rw [e]; simp⟩) (fun m hm => ?_) (fun b u e => ?_) I.bare
  · have e : b = it := by simpa using hb
    subst e
    exact ⟨h1, hL, h2, h3⟩
  · obtain ⟨o, es, ep, ho, r⟩ := hm
    exact ⟨o, es, ep, k _ o (Ne.symm hL) ho, r⟩
  · refine (I.hok b u e).stay (fun c v hc q => k c v ?_ q) (fun _ q => q) fun _ _ q => q
    rcases hc with z | z
    · rw [z]; exact nit b u e
    · exact nit c _ z
theorem Inv.tok (I : Inv X pins σ H s) (t : Nat) : Inv X pins σ H { s with toks := t } := I.un (h' := s.heap) (t' := t) Un.refl I.hok
theorem Inv.kept {t' : Nat} (I : Inv X pins σ H s) (k : ∀ b u, s.heap.get? b = some u → h'.get? b = some u) : Inv X pins σ H { s with heap := h', toks := t' } := I.un (Un.kept k) (I.hok.kept k)
theorem Inv.laid {a : Addr} {o : HO} {t' : Nat} (I : Inv X pins σ H s) (k : ∀ b u, s.heap.get? b = some u → h'.get? b = some u) (hp : s.heap.objs.size ≤ a) (new : ObjOk X.prog X.w (upd H a o) h' a o) :
    Inv X pins σ (upd H a o) { s with heap := h', toks := t' } := I.un (Un.laid k hp (I.hok.fresh hp)) (I.hok.laid k hp new)
theorem Inv.write {x e : Addr} {o : HO} {t' : Nat} (I : Inv X pins σ H s) (mu : Mut (H x)) (he : e = x ∨ H e = some (.own x)) (k : ∀ b u, b ≠ e → s.heap.get? b = some u → h'.get? b = some u) (heo : ∃ u, h'.get? e = some u)
    (new : ObjOk X.prog X.w (upd H x o) h' x o) : Inv X pins σ (upd H x o) { s with heap := h', toks := t' } := I.un (Un.write mu he k heo) (I.hok.write mu he k heo new)
theorem Inv.weak {σ' : List (Option V)} (I : Inv X pins σ H s) (hl : σ'.length = σ.length) (w : ∀ (i : Nat) v, σ'[i]? = some (some v) → σ[i]? = some (some v)) : Inv X pins σ' H s :=
  ⟨I.ok, I.os, I.bare, I.base, let ⟨m, hn, hl'⟩ := I.loc; ⟨m, hn, fun i x v e1 e2 e3 => hl' i x v e1 (w i v e2) e3⟩, I.cell, I.free, I.freeC, I.pin, I.hok, hl.trans I.len⟩
theorem Inv.pins_of {pins' : List (Addr × Obj)} (I : Inv X pins σ H s) (h : ∀ p ∈ pins', s.heap.get? p.1 = some p.2 ∧ H p.1 = none ∧ p.1 ≠ X.env.locals ∧ p.1 ∉ X.fs ∧ ∀ v, p.2.data ≠ .cell v) : Inv X pins' σ H s :=
  ⟨I.ok, I.os, I.bare, I.base, I.loc, I.cell, I.free, I.freeC, fun p hp => (List.mem_append.mp hp).elim (fun z => I.pin p (List.mem_append_left _ z)) (h p), I.hok, I.len⟩
theorem nodup_ix {N : List Str} (hN : N.Nodup) {i j : Nat} {x : Str} (a : N[i]? = some x) (b : N[j]? = some x) : i = j := by
  obtain ⟨h1, e1⟩ := List.getElem?_eq_some_iff.mp a
  obtain ⟨h2, e2⟩ := List.getElem?_eq_some_iff.mp b
  exact (List.getElem_inj hN).mp (e1.trans e2.symm)
theorem store_ok2 {M : Model} {A : Around} {E : Value → Shared → Prop} {i : Nat} {x : Str} {v : V} {u : Value} {Q : Unit → Shared → Prop} (I : Inv X pins σ H s) (hN : X.N.Nodup) (hi : X.N[i]? = some x) (hx : Loc X.env.scope x) (r : RelV v u)
    (h : ∀ s', Inv X pins (σ.set i (some v)) H s' → (∃ a, Heap.SameBut a s.heap s'.heap ∧ (a = X.env.locals ∨ X.env.cells.lookup x = some a)) → Q () s') (hf : X.fn x = true ∨ X.env.scope.names.lookup x = some .local := by first | exact .inl rfl | exact .inr rfl | assumption) : wpAny M A (storeName X.env x u) Q E s := by
  obtain ⟨m, hn, hl⟩ := id I.loc
  have hcls : (X.env.scope.kind == .class || (X.env.scope.kind == .module && X.env.locals != X.env.globals)) = false := by rw [I.ok.kind]; rfl
  have hiσ : i < σ.length := by rw [I.len]; exact (List.getElem?_eq_some_iff.mp hi).1
  have cne := I.cne
  have tracked : ∀ {a : Addr} {h' : Heap}, (∃ o, s.heap.get? a = some o ∧ H a = none) → Heap.SameBut a s.heap h' → HOk X.prog X.w H h' := fun {a h'} ha hs b ob e => by
    obtain ⟨_, _, hfree⟩ := ha
    refine (I.hok b ob e).stay (fun c w' hc q => (hs.2 c ?_).trans q) (fun _ q => q) fun _ _ q => q
    rintro rfl
    rcases hc with rfl | hc
    · rw [hfree] at e; cases e
    · rw [hfree] at hc; cases hc
  rcases hx with hk | hk
  · refine wpAny_storeName_local hk hn (fun h' hn' hs => ?_) hcls
    obtain ⟨oL, _, _, hoL, _⟩ := id hn
    refine h _ ⟨I.ok, I.os, I.bare, ⟨fun b o e n hb hx => ?_, fun b o e n hb hx => ?_, I.base.free, fun b o e hx => ?_, I.base.tups, I.base.frzs, I.base.tbls⟩, ⟨_, hn', fun j y v' e1 e2 e3 => ?_⟩, fun y c e => ?_, I.free, I.freeC, fun p hp => ?_, tracked ⟨oL, hoL, I.free⟩ hs, by simpa using I.len⟩ ⟨_, hs, .inl rfl⟩
    · exact (hs.2 b (Nat.ne_of_lt (Nat.lt_of_lt_of_le (Heap.lt_size e) I.ok.above))).trans (I.base.keep b o e n hb hx)
    · obtain ⟨sl, e1⟩ := I.base.slot b o e n hb hx
      exact ⟨sl, (hs.2 b (Nat.ne_of_lt (Nat.lt_of_lt_of_le (Heap.lt_size e) I.ok.above))).trans e1⟩
    · obtain ⟨o', e1⟩ := I.base.there b o e hx
      exact ⟨o', (hs.2 b (Nat.ne_of_lt (Nat.lt_of_lt_of_le (Heap.lt_size e) I.ok.above))).trans e1⟩
    · by_cases hj : j = i
      · subst hj
        rw [hi] at e1; cases e1
        rw [List.getElem?_set_self hiσ] at e2
        cases e2
        exact ⟨u, r, .inl ⟨hk, by simp⟩⟩
      · rw [List.getElem?_set_ne (Ne.symm hj)] at e2
        obtain ⟨u', r', q⟩ := hl j y v' e1 e2 e3
        refine ⟨u', r', ?_⟩
        rcases q with ⟨k, e⟩ | ⟨k, c, e, z⟩
        · refine .inl ⟨k, ?_⟩
          have : y ≠ x := fun e => hj (nodup_ix hN e1 (e ▸ hi))
          simp [this, e]
        · exact .inr ⟨k, c, e, z.sameBut hs (cne y c e)⟩
    · obtain ⟨w', z⟩ := I.cell y c e
      exact ⟨w', z.sameBut hs (cne y c e)⟩
    · obtain ⟨e, n, ne, nf, d⟩ := I.pin p hp
      exact ⟨(hs.2 p.1 ne).trans e, n, ne, nf, d⟩
  · have hfn : X.fn x = true := by
      rcases hf with z | z
      · exact z
      · rw [z] at hk; cases hk
    obtain ⟨c, hc⟩ := I.ok.has x (.inl hk)
    obtain ⟨w', z⟩ := I.cell x c hc
    refine wpAny_storeName_cell I.ok.kind hk hc z (fun h' hc' hs => ?_)
    obtain ⟨oc, hoc, hocd⟩ := id z
    refine h { s with heap := h' } ⟨I.ok, I.os, I.bare, ⟨fun b o e n hb hx => ?_, fun b o e n hb hx => ?_, I.base.free, fun b o e hx => ?_, I.base.tups, I.base.frzs, I.base.tbls⟩, ⟨m, hn.sameBut hs (Ne.symm (cne x c hc)), fun j y v' e1 e2 e3 => ?_⟩, fun y c' e => ?_, I.free, I.freeC, fun p hp => ?_, tracked ⟨oc, hoc, I.freeC x c hc⟩ hs, by simpa using I.len⟩ ⟨c, hs, .inr hc⟩
    · exact (hs.2 b (Nat.ne_of_lt (Nat.lt_of_lt_of_le (Heap.lt_size e) (I.ok.cab x c hfn hc)))).trans (I.base.keep b o e n hb hx)
    · obtain ⟨sl, e1⟩ := I.base.slot b o e n hb hx
      exact ⟨sl, (hs.2 b (Nat.ne_of_lt (Nat.lt_of_lt_of_le (Heap.lt_size e) (I.ok.cab x c hfn hc)))).trans e1⟩
    · obtain ⟨o', e1⟩ := I.base.there b o e hx
      exact ⟨o', (hs.2 b (Nat.ne_of_lt (Nat.lt_of_lt_of_le (Heap.lt_size e) (I.ok.cab x c hfn hc)))).trans e1⟩
    · by_cases hj : j = i
      · subst hj
        rw [hi] at e1; cases e1
        rw [List.getElem?_set_self hiσ] at e2
        cases e2
        exact ⟨u, r, .inr ⟨.inl hk, c, hc, hc'⟩⟩
      · rw [List.getElem?_set_ne (Ne.symm hj)] at e2
        obtain ⟨u', r', q⟩ := hl j y v' e1 e2 e3
        refine ⟨u', r', ?_⟩
        rcases q with q | ⟨k, c', e, z'⟩
        · exact .inl q
        · refine .inr ⟨k, c', e, z'.sameBut hs ?_⟩
          rintro rfl
          exact hj (nodup_ix hN e1 (I.ok.inj _ _ _ e hc ▸ hi))
    · by_cases hcc : c' = c
      · subst hcc; exact ⟨_, hc'⟩
      · obtain ⟨w2, z2⟩ := I.cell y c' e
        exact ⟨w2, z2.sameBut hs hcc⟩
    · obtain ⟨e, n, ne, nf, d⟩ := I.pin p hp
      refine ⟨(hs.2 p.1 ?_).trans e, n, ne, nf, d⟩
      intro q
      rw [q, hoc] at e
      have q' : oc = p.2 := Option.some.inj e
      exact d w' (by rw [← q']; exact hocd)
theorem store_ok {M : Model} {A : Around} {E : Value → Shared → Prop} {i : Nat} {x : Str} {v : V} {u : Value} {Q : Unit → Shared → Prop} (I : Inv X pins σ H s) (hN : X.N.Nodup) (hi : X.N[i]? = some x) (hx : Loc X.env.scope x) (r : RelV v u)
    (h : ∀ s', Inv X pins (σ.set i (some v)) H s' → Q () s') (hf : X.fn x = true ∨ X.env.scope.names.lookup x = some .local := by first | exact .inl rfl | exact .inr rfl | assumption) : wpAny M A (storeName X.env x u) Q E s :=
  store_ok2 I hN hi hx r (fun s' I' _ => h s' I') hf
theorem Inv.call' {s' : Shared} {ch : List Addr} (I : Inv X pins σ H s) (ho : s'.os = s.os) (u : Un (frs X.stack) ch H H' s.heap s'.heap) (hok : HOk X.prog X.w H' s'.heap) (hg : AllBare s'.gens)
    (hch : ∀ b ∈ ch, (b ∈ X.ex ∨ X.s_0.heap.objs.size ≤ b) ∧ b ≠ X.env.locals ∧ (∀ x c, X.env.cells.lookup x = some c → c ≠ b) ∧ ∀ p ∈ X.pn ++ pins, p.1 ≠ b) : Inv X pins σ H' s' := by
  obtain ⟨h', g', d', t', o'⟩ := s'
  have e : o' = s.os := ho
  subst e
  exact I.call (g' := g') (t' := t') (d' := d') u hok hg hch
end
abbrev XK := Value → Option Addr → Hp → Prop
abbrev St := List (Option V)
abbrev VK := V → Hp → Prop
abbrev TE := St → Hp → VK → Prop
abbrev TT := St → Hp → (Bool → Hp → Prop) → Prop
abbrev TA := St → Hp → (List V → Hp → Prop) → Prop
structure Ends where
  nx : St → Hp → Prop
  rt : VK
  bk : St → Hp → Prop := fun _ _ => False
  ct : St → Hp → Prop := fun _ _ => False
abbrev TS := Ends → St → Hp → Prop
def EP (X : Cx) (pins : List (Addr × Obj)) (σ : St) (Q : VK) (u : Value) (s' : Shared) : Prop := ∃ v H', Inv X pins σ H' s' ∧ RelV v u ∧ Q v H'
def TP (X : Cx) (pins : List (Addr × Obj)) (σ : St) (Q : Bool → Hp → Prop) (b : Bool) (s' : Shared) : Prop := ∃ H', Inv X pins σ H' s' ∧ Q b H'
def AP (X : Cx) (pins : List (Addr × Obj)) (σ : St) (Q : List V → Hp → Prop) (us : List Value) (s' : Shared) : Prop := ∃ vs H', Inv X pins σ H' s' ∧ Vals vs us ∧ Q vs H'
def SP (X : Cx) (pins : List (Addr × Obj)) (D : Ends) (f : Flow) (s' : Shared) : Prop :=
  match f with
  | .next => ∃ σ' H', Inv X pins σ' H' s' ∧ D.nx σ' H'
  | .brk => ∃ σ' H', Inv X pins σ' H' s' ∧ D.bk σ' H'
  | .cont => ∃ σ' H', Inv X pins σ' H' s' ∧ D.ct σ' H'
  | .ret u => ∃ v σ' H', Inv X pins σ' H' s' ∧ RelV v u ∧ D.rt v H'
def PE (X : Cx) (e : Expr) (t : TE) : Prop :=
  ∀ (pins : List (Addr × Obj)) (s : Shared) (σ : St) (H : Hp) (Q : VK), Inv X pins σ H s → t σ H Q → wpAny (model X.prog X.w) X.A (eval e X.env) (EP X pins σ Q) X.xe s
def PT (X : Cx) (e : Expr) (t : TT) : Prop :=
  ∀ (pins : List (Addr × Obj)) (s : Shared) (σ : St) (H : Hp) (Q : Bool → Hp → Prop), Inv X pins σ H s → t σ H Q → wpAny (model X.prog X.w) X.A (isTrue e X.env (eval e X.env)) (TP X pins σ Q) X.xe s
def PW (X : Cx) (e : Expr) (t : TT) : Prop :=
  ∀ (whole : Sem Value) (pins : List (Addr × Obj)) (s : Shared) (σ : St) (H : Hp) (Q : Bool → Hp → Prop), Inv X pins σ H s → t σ H Q → wpAny (model X.prog X.w) X.A (isTrue e X.env whole) (TP X pins σ Q) X.xe s
theorem PW.pt {X : Cx} {e : Expr} {t : TT} (h : PW X e t) : PT X e t := h _
def PA (X : Cx) (es : List Expr) (t : TA) : Prop :=
  ∀ (pos : Pos) (pins : List (Addr × Obj)) (s : Shared) (σ : St) (H : Hp) (Q : List V → Hp → Prop), Inv X pins σ H s → t σ H Q → wpAny (model X.prog X.w) X.A (spliced (backTo pos (starEach es X.env))) (AP X pins σ Q) X.xe s
def PS (X : Cx) (st : Stmt) (t : TS) : Prop :=
  ∀ (pins : List (Addr × Obj)) (s : Shared) (σ : St) (H : Hp) (D : Ends), Inv X pins σ H s → t D σ H → wpAny (model X.prog X.w) X.A (exec st X.env) (SP X pins D) X.xe s
def PSs (X : Cx) (st : List Stmt) (t : TS) : Prop :=
  ∀ (pins : List (Addr × Obj)) (s : Shared) (σ : St) (H : Hp) (D : Ends), Inv X pins σ H s → t D σ H → wpAny (model X.prog X.w) X.A (execs st X.env) (SP X pins D) X.xe s
theorem thn {α : Type} {t : Sem α} {Q Q' : α → Shared → Prop} {M : Model} {A : Around} {E : Value → Shared → Prop} {s : Shared} (h : wpAny M A t Q E s) (hQ : ∀ a s, Q a s → Q' a s) : wpAny M A t Q' E s := wpAny_mono h hQ fun _ _ x => x
end L2
namespace L2
open PySem PySem.Spec PyProof.Rows
section
variable {X : Cx}
def tVar (i : Nat) : TE := fun σ H Q => ∃ v, σ[i]? = some (some v) ∧ Q v H
def tC (v : V) : TE := fun _ H Q => Q v H
theorem pe_var {i : Nat} {x : Str} {pos : Pos} (hN : X.N[i]? = some x) (hv : Vis X.env.scope x) (hd : (x == ("__debug__" : Str)) = false := by decide) (hcd : (x == ("__classdict__" : Str)) = false := by decide) : PE X (.Name x pos) (tVar i) := by
  intro pins s σ H Q I h
  obtain ⟨v, e, h⟩ := h
  obtain ⟨m, hn, hl⟩ := I.loc
  obtain ⟨u, r, l⟩ := hl i x v hN e hv
  have fin : EP X pins σ Q u s := ⟨v, H, I, r, h⟩
  rcases l with ⟨hk, hm⟩ | ⟨hk, c, hc, hcell⟩
  · exact wpAny_Name (wpAny_loadName_local I.ok.kind hk hn hm fin) hd
  · rcases hk with hk | hk
    · exact wpAny_Name (wpAny_loadName_cell I.ok.kind hk hc hcell fin) hd
    · exact wpAny_Name (wpAny_loadName_free I.ok.kind hk hc hcell fin hcd) hd
theorem pe_int {i j pos} : PE X (.Constant (.int i) j pos) (tC (.int i)) := fun _ _ _ H _ I h => wpAny_Constant_int ⟨.int i, H, I.tok _, ⟨_, rfl⟩, h⟩
theorem pe_bl {b j pos} : PE X (.Constant (.bool b) j pos) (tC (.bl b)) := fun _ _ _ H _ I h => Constant_bool ⟨.bl b, H, I, rfl, h⟩
theorem pe_non {j pos} : PE X (.Constant .none j pos) (tC .non) := fun _ _ _ H _ I h => Constant_none ⟨.non, H, I, rfl, h⟩
def Gl (X : Cx) (x : Str) : Prop := X.env.kindOf x = some .globalImplicit
theorem ld_glob {E : Value → Shared → Prop} {pins : List (Addr × Obj)} {s : Shared} {σ : St} {H : Hp} {x : Str} {u : Value} {pos : Pos} {Q : Value → Shared → Prop} (I : Inv X pins σ H s) (hg : Gl X x) (hm : X.mg x = some u) (h : Q u s)
    (hd : (x == ("__debug__" : Str)) = false := by decide) : wpAny (model X.prog X.w) X.A (eval (.Name x pos) X.env) Q E s :=
  Calls.Name_function_global I.ok.kind hg (Calls.loadGlobal_global (by rw [I.ok.glob]; exact I.mod.glob.keeps I.bk) hm h) hd
theorem ld_blt {E : Value → Shared → Prop} {pins : List (Addr × Obj)} {s : Shared} {σ : St} {H : Hp} {x : Str} {u : Value} {pos : Pos} {Q : Value → Shared → Prop} (I : Inv X pins σ H s) (hg : Gl X x) (hm : X.mg x = none) (hv : bootBuiltins x = some u) (h : Q u s)
    (hn : x ≠ "__name__" := by decide) (hd : (x == ("__debug__" : Str)) = false := by decide) : wpAny (model X.prog X.w) X.A (eval (.Name x pos) X.env) Q E s := by
  obtain ⟨mb, h1, h2⟩ := I.mod.blt
  exact Calls.Name_function_global I.ok.kind hg (Calls.loadGlobal_builtin (by rw [I.ok.glob]; exact I.mod.glob.keeps I.bk) hm (by rw [I.ok.blt]; exact h1.keeps I.bk) ((h2 x hn).trans hv) h) hd
theorem pe_glob {x : Str} {v : V} {u : Value} {pos : Pos} (hg : Gl X x) (hm : X.mg x = some u) (r : RelV v u) (hd : (x == ("__debug__" : Str)) = false := by decide) : PE X (.Name x pos) (tC v) :=
  fun _ _ _ H _ I h => ld_glob I hg hm ⟨v, H, I, r, h⟩ hd
variable {a b : Expr} {ta tb : TE} {pos : Pos}
def tB (t : TE) : TT := fun σ H Q => t σ H fun x H1 => ∃ c, x = .bl c ∧ Q c H1
theorem pt_val {e : Expr} {t : TE} (h : PE X e t) (he : ∀ whole, isTrue e X.env whole = (do let v ← whole; standAt e.pos; holding [v] (truthy v)) := by intro _; rfl) : PT X e (tB t) := by
  intro pins s σ H Q I hw
  refine isTrue_plain (thn (h pins s σ H _ I hw) fun v s1 ⟨x, H1, I1, r1, q1⟩ => ?_) (he _)
  obtain ⟨d, rfl, q⟩ := q1
  cases r1
  exact wpAny_truthy_bool ⟨H1, I1, q⟩
variable {tA tB' : TT} {rest : List Expr}
def tAnd (t u : TT) : TT := fun σ H Q => t σ H fun c H1 => if c = true then u σ H1 Q else Q false H1
def tOr (t u : TT) : TT := fun σ H Q => t σ H fun c H1 => if c = true then Q true H1 else u σ H1 Q
def tNot (t : TT) : TT := fun σ H Q => t σ H fun c H1 => Q (!c) H1
theorem pw_and1 (ha : PT X a tA) : PW X (.BoolOp .And [a] pos) tA := by
  intro wh pins s σ H Q I h
  refine isTrue_and (thn (ha pins s σ H Q I h) fun c s1 e => ?_)
  cases c with
  | true => exact isTrue_and_nil e
  | false => exact e
theorem pw_or1 (ha : PT X a tA) : PW X (.BoolOp .Or [a] pos) tA := by
  intro wh pins s σ H Q I h
  refine isTrue_or (thn (ha pins s σ H Q I h) fun c s1 e => ?_)
  cases c with
  | false => exact isTrue_or_nil e
  | true => exact e
theorem pw_and (ha : PT X a tA) (hb : PW X (.BoolOp .And (b :: rest) pos) tB') : PW X (.BoolOp .And (a :: b :: rest) pos) (tAnd tA tB') := by
  intro wh pins s σ H Q I h
  refine isTrue_and (thn (ha pins s σ H _ I h) fun c s1 ⟨H1, I1, q1⟩ => ?_)
  cases c with
  | true => exact hb wh pins s1 σ H1 Q I1 q1
  | false => exact ⟨H1, I1, q1⟩
theorem pw_or (ha : PT X a tA) (hb : PW X (.BoolOp .Or (b :: rest) pos) tB') : PW X (.BoolOp .Or (a :: b :: rest) pos) (tOr tA tB') := by
  intro wh pins s σ H Q I h
  refine isTrue_or (thn (ha pins s σ H _ I h) fun c s1 ⟨H1, I1, q1⟩ => ?_)
  cases c with
  | true => exact ⟨H1, I1, q1⟩
  | false => exact hb wh pins s1 σ H1 Q I1 q1
theorem pt_not (ha : PT X a tA) : PT X (.UnaryOp .Not a pos) (tNot tA) := by
  intro pins s σ H Q I h
  exact isTrue_not (ha pins s σ H (fun c H1 => Q (!c) H1) I h)
def tAndV (ta tb : TE) : TE := fun σ H Q => ta σ H fun x H1 => ∃ c, x = .bl c ∧ if c = true then tb σ H1 Q else Q (.bl false) H1
theorem pe_one {op} {t : TE} (h : PE X a t) : PE X (.BoolOp op [a] pos) t := fun pins s σ H Q I hw => BoolOp_one (h pins s σ H Q I hw)
theorem pe_and (ha : PE X a ta) (hb : PE X (.BoolOp .And (b :: rest) pos) tb) : PE X (.BoolOp .And (a :: b :: rest) pos) (tAndV ta tb) := by
  intro pins s σ H Q I h
  refine BoolOp_and (thn (ha pins s σ H _ I h) fun v s1 ⟨x, H1, I1, r1, q1⟩ => ?_)
  obtain ⟨c, rfl, q1⟩ := q1
  cases r1
  refine wpAny_truthy_bool ?_
  cases c with
  | true => exact hb pins s1 σ H1 Q I1 q1
  | false => exact ⟨.bl false, H1, I1, rfl, q1⟩
def tIf (t : TT) (ta tb : TE) : TE := fun σ H Q => t σ H fun c H1 => if c = true then ta σ H1 Q else tb σ H1 Q
theorem pe_ifExp {c : Expr} (hc : PT X c tA) (ha : PE X a ta) (hb : PE X b tb) : PE X (.IfExp c a b pos) (tIf tA ta tb) := by
  intro pins s σ H Q I h
  refine wpAny_IfExp (thn (hc pins s σ H _ I h) fun d s1 ⟨H1, I1, q1⟩ => ?_)
  cases d with
  | true => exact ha pins s1 σ H1 Q I1 q1
  | false => exact hb pins s1 σ H1 Q I1 q1
end
end L2
namespace L2
open PySem PySem.Spec PyProof.Rows
def SqL (K : PySem.W.Frag) (H : Hp) (a : Addr) (xs : List V) : Prop :=
  Rd H a (.lst xs) ∨
    ∃ (o : Obj) (its : Array Value) (n : Nat), K.lookup a = some o ∧ o.cls = .type "list" ∧ o.dict = none ∧ o.data = .seq its n ∧ its.size ≤ sizeLine ∧ Vals xs its.toList
def SqT (K : PySem.W.Frag) (H : Hp) (a : Addr) (xs : List V) : Prop :=
  Rd H a (.tup xs) ∨
    ∃ (o : Obj) (its : Array Value) (n : Nat), K.lookup a = some o ∧ o.cls = .type "tuple" ∧ o.data = .seq its n ∧ its.size ≤ sizeLine ∧ Vals xs its.toList
def absV : Value → Option V
  | .none => some .non
  | .bool b => some (.bl b)
  | .int i _ => some (.int i)
  | .str x _ => some (.str x)
  | .bytes b _ => some (.byt b)
  | .float b _ => some (.flt b)
  | .ref a => some (.ref a)
  | .type n => some (.ty n)
  | _ => none
theorem RelV.abs {x : V} {u : Value} (r : RelV x u) : absV u = some x := by
  cases x with
  | non => cases r; rfl
  | bl _ => cases r; rfl
  | int _ => obtain ⟨t, rfl⟩ := r; rfl
  | str _ => obtain ⟨t, rfl⟩ := r; rfl
  | byt _ => obtain ⟨t, rfl⟩ := r; rfl
  | flt _ => obtain ⟨t, rfl⟩ := r; rfl
  | ref _ => cases r; rfl
  | ty _ => cases r; rfl
theorem RelV.inj {x y : V} {u : Value} (r : RelV x u) (q : RelV y u) : x = y := Option.some.inj (r.abs.symm.trans q.abs)
theorem Vals.inj : ∀ {xs ys : List V} {us : List Value}, Vals xs us → Vals ys us → xs = ys
  | _, _, _, .nil, .nil => rfl
  | _, _, _, .cons r t, .cons r' t' => by rw [r.inj r', Vals.inj t t']
section
variable {X : Cx} {pins : List (Addr × Obj)} {σ : St} {H : Hp} {s : Shared} {a : Addr} {xs ys : List V}
theorem SqL.of {K : PySem.W.Frag} (h : H a = some (.lst xs)) : SqL K H a xs := .inl (.inl h)
theorem Inv.list (I : Inv X pins σ H s) (h : SqL X.K H a xs) : ∃ its : List Value, Vals xs its ∧ PlainL s.heap a its.toArray ∧ xs.length ≤ sizeLine := by
  rcases h with h | ⟨o, its, n, hk, hc, hd, hs, hz, r⟩
  · obtain ⟨z, its, n, r, e⟩ := h.ok I.hok
    exact ⟨its, r, ⟨_, n, e, rfl, rfl, rfl⟩, z⟩
  · refine ⟨its.toList, r, ⟨o, n, I.kIn a o hk, hc, hd, by simpa using hs⟩, ?_⟩
    have e := r.length
    simp only [Array.length_toList] at e
    omega
theorem Inv.tuple (I : Inv X pins σ H s) (h : SqT X.K H a xs) : ∃ its : List Value, Vals xs its ∧ IsTup s.heap a its.toArray ∧ xs.length ≤ sizeLine := by
  rcases h with h | ⟨o, its, n, hk, hc, hs, hz, r⟩
  · obtain ⟨z, its, r, p⟩ := h.ok I.hok
    exact ⟨its, r, p, z⟩
  · refine ⟨its.toList, r, ⟨o, I.kIn a o hk, hc, n, by simpa using hs⟩, ?_⟩
    have e := r.length
    simp only [Array.length_toList] at e
    omega
theorem Inv.list_inj (I : Inv X pins σ H s) (h : SqL X.K H a xs) (h' : SqL X.K H a ys) : xs = ys := by
  obtain ⟨its, r, ⟨o, n, e, _, _, d⟩, _⟩ := I.list h
  obtain ⟨its', r', ⟨o', n', e', _, _, d'⟩, _⟩ := I.list h'
  rw [e] at e'; cases e'
  rw [d] at d'
  injection d' with d1 _
  have : its = its' := by simpa using congrArg Array.toList d1
  subst this
  exact r.inj r'
end
abbrev Cx.wish (X : Cx) (E : Value → Shared → Prop) : Cx := { X with xe := E }
abbrev Cx.nox (X : Cx) : Cx := X.wish fun _ _ => False
theorem Cx.Ok.wish {X : Cx} (ok : X.Ok) (E : Value → Shared → Prop) : (X.wish E).Ok :=
  ⟨ok.mod, ok.kind, ok.glob, ok.blt, ok.above, ok.inj, ok.has, ok.cab, ok.hd, ok.frames, ok.stk, ok.exf, ok.bs, ok.bsz, ok.noex, ok.exfs, ok.funs, ok.frf⟩
theorem Cx.Ok.unwish {X : Cx} {E : Value → Shared → Prop} (ok : (X.wish E).Ok) : X.Ok :=
  ⟨ok.mod, ok.kind, ok.glob, ok.blt, ok.above, ok.inj, ok.has, ok.cab, ok.hd, ok.frames, ok.stk, ok.exf, ok.bs, ok.bsz, ok.noex, ok.exfs, ok.funs, ok.frf⟩
section
variable {X : Cx} {pins : List (Addr × Obj)} {σ : St} {H : Hp} {s : Shared} {E : Value → Shared → Prop}
theorem Inv.wish (I : Inv X pins σ H s) (E : Value → Shared → Prop) : Inv (X.wish E) pins σ H s := ⟨I.ok.wish E, I.os, I.bare, I.base, I.loc, I.cell, I.free, I.freeC, I.pin, I.hok, I.len⟩
theorem Inv.unwish (I : Inv (X.wish E) pins σ H s) : Inv X pins σ H s := ⟨I.ok.unwish, I.os, I.bare, I.base, I.loc, I.cell, I.free, I.freeC, I.pin, I.hok, I.len⟩
theorem SP.unwish {D : Ends} {f : Flow} {s' : Shared} (h : SP (X.wish E) pins D f s') : SP X pins D f s' := by
  cases f with
  | next => obtain ⟨σ', H', I, q⟩ := h; exact ⟨σ', H', I.unwish, q⟩
  | brk => obtain ⟨σ', H', I, q⟩ := h; exact ⟨σ', H', I.unwish, q⟩
  | cont => obtain ⟨σ', H', I, q⟩ := h; exact ⟨σ', H', I.unwish, q⟩
  | ret u => obtain ⟨v, σ', H', I, r, q⟩ := h; exact ⟨v, σ', H', I.unwish, r, q⟩
theorem PSs.nox {st : List Stmt} {t : TS} (h : PSs X.nox st t) : PSs X st t := fun pins s σ H D I hw =>
  wpAny_mono (h pins s σ H D (I.wish _) hw) (fun _ _ q => q.unwish) fun _ _ z => False.elim z
end
section
variable {X : Cx} {st : Stmt} {rest : List Stmt} {t u : TS} {e : Expr} {te : TE} {pos : Pos}
def tNext : TS := fun D σ H => D.nx σ H
def tSeq (t u : TS) : TS := fun D σ H => t { D with nx := u D } σ H
theorem pss_nil : PSs X [] tNext := fun _ _ σ H _ I h => wpAny_execs_nil ⟨σ, H, I, h⟩
theorem pss_cons (h1 : PS X st t) (h2 : PSs X rest u) : PSs X (st :: rest) (tSeq t u) := by
  intro pins s σ H D I h
  refine wpAny_execs_cons (thn (h1 pins s σ H { D with nx := u D } I h) fun f s1 q => ?_)
  cases f with
  | next =>
    obtain ⟨σ', H', I', q⟩ := q
    exact h2 pins s1 σ' H' D I' q
  | ret v => exact q
  | brk => exact q
  | cont => exact q
theorem pss_one (h1 : PS X st t) : PSs X [st] t := by
  intro pins s σ H D I h
  refine wpAny_execs_cons (thn (h1 pins s σ H D I h) fun f s1 q => ?_)
  cases f with
  | next => exact wpAny_execs_nil q
  | ret v => exact q
  | brk => exact q
  | cont => exact q
theorem Inv.quiet {pins : List (Addr × Obj)} {σ : St} {H : Hp} {s : Shared} (I : Inv X pins σ H s) : interactive X.env = false := by simp [interactive, I.ok.kind]
def tDrop (te : TE) : TS := fun D σ H => te σ H fun _ H1 => D.nx σ H1
theorem ps_expr (he : PE X e te) (hs : swapsWith e none pos.line X.env = pure false := by rfl) : PS X (.Expr e pos) (tDrop te) := by
  intro pins s σ H D I h
  exact wpAny_Expr_any (thn (he pins s σ H _ I h) fun v s1 ⟨x, H1, I1, r1, q1⟩ => ⟨σ, H1, I1, q1⟩) I.quiet hs
def tRet (te : TE) : TS := fun D σ H => te σ H D.rt
theorem ps_ret (he : PE X e te) : PS X (.Return (some e) pos) (tRet te) := by
  intro pins s σ H D I h
  exact wpAny_Return_some (thn (he pins s σ H _ I h) fun v s1 ⟨x, H1, I1, r1, q1⟩ => ⟨x, σ, H1, I1, r1, q1⟩)
def tIfS (c : TT) (t u : TS) : TS := fun D σ H => c σ H fun b H1 => if b = true then t D σ H1 else u D σ H1
theorem ps_if {c : Expr} {a b : List Stmt} {tc : TT} (hc : PT X c tc) (ha : PSs X a t) (hb : PSs X b u) : PS X (.If c a b pos) (tIfS tc t u) := by
  intro pins s σ H D I h
  refine wpAny_If (thn (hc pins s σ H _ I h) fun d s1 ⟨H1, I1, q1⟩ => ?_)
  cases d with
  | true => exact ha pins s1 σ H1 D I1 q1
  | false => exact hb pins s1 σ H1 D I1 q1
end
abbrev TG := V → St → Hp → (St → Hp → Prop) → Prop
def PG (X : Cx) (target : Expr) (t : TG) : Prop :=
  ∀ (pins : List (Addr × Obj)) (s : Shared) (σ : St) (H : Hp) (v : V) (u : Value) (Q : St → Hp → Prop), Inv X pins σ H s → RelV v u → t v σ H Q →
    wpAny (model X.prog X.w) X.A (assign target X.env u) (fun _ s' => ∃ σ' H', Inv X pins σ' H' s' ∧ Q σ' H') X.xe s
abbrev TSet := V → V → V → Hp → (Hp → Prop) → Prop
def PSet (X : Cx) (t : TSet) : Prop :=
  ∀ (pins : List (Addr × Obj)) (s : Shared) (σ : St) (H : Hp) (o i v : V) (ov iv u : Value) (Q : Hp → Prop), Inv X pins σ H s → RelV o ov → RelV i iv → RelV v u → t o i v H Q →
    wpAny (model X.prog X.w) X.A (setItem ov iv u) (fun _ s' => ∃ H', Inv X pins σ H' s' ∧ Q H') X.xe s
section
variable {X : Cx} {pos : Pos}
def gName (i : Nat) : TG := fun v σ H Q => Q (σ.set i (some v)) H
theorem pg_name {i : Nat} {x : Str} (hN : X.N.Nodup) (hi : X.N[i]? = some x) (hx : Loc X.env.scope x) (hf : X.fn x = true ∨ X.env.scope.names.lookup x = some .local := by first | exact .inl rfl | exact .inr rfl | assumption) : PG X (.Name x pos) (gName i) := by
  intro pins s σ H v u Q I r h
  exact wpAny_assign_Name (store_ok I hN hi hx r (fun s' I' => ⟨_, H, I', h⟩) hf)
def gSub (to ti : TE) (t : TSet) : TG := fun v σ H Q => to σ H fun o H1 => ti σ H1 fun i H2 => t o i v H2 fun H3 => Q σ H3
theorem pg_sub {o i : Expr} {to ti : TE} {t : TSet} (ho : PE X o to) (hi : PE X i ti) (hs : PSet X t)
    (ha : ∀ v, assign (.Subscript o i pos) X.env v = (do
      let ov ← holding [v] (eval o X.env)
      let iv ← holding [v, ov] (eval i X.env)
      standAt pos
      holding [v, ov, iv] (setItem ov iv v)
      release [v, ov, iv] []) := by intro _; rfl) : PG X (.Subscript o i pos) (gSub to ti t) := by
  intro pins s σ H v u Q I r h
  rw [ha]
  refine wpAny_bind (wpAny_holding (thn (ho pins s σ H _ I h) fun ov s1 ⟨x, H1, I1, r1, q1⟩ => ?_))
  refine wpAny_bind (wpAny_holding (thn (hi pins s1 σ H1 _ I1 q1) fun iv s2 ⟨y, H2, I2, r2, q2⟩ => ?_))
  refine wpAny_bind (wpAny_standAt (wpAny_bind (wpAny_holding (thn (hs pins s2 σ H2 x y v ov iv u _ I2 r1 r2 r q2) fun _ s3 ⟨H3, I3, q3⟩ => ?_))))
  exact wpAny_release ⟨σ, H3, I3, q3⟩
def tAsg (te : TE) (g : TG) : TS := fun D σ H => te σ H fun x H1 => g x σ H1 D.nx
theorem ps_asg {tg e : Expr} {te : TE} {g : TG} (he : PE X e te) (hg : PG X tg g) (hs : swapsWithSole [tg] e pos.line X.env = pure false := by rfl) (hw : swappedStores [tg] e X.env = pure none := by rfl)
    (h1 : (assignEach [tg] X.env).map (·.2) = [assign tg X.env] := by rfl) : PS X (.Assign [tg] e pos) (tAsg te g) := by
  intro pins s σ H D I h
  refine wpAny_Assign_stores (thn (he pins s σ H _ I h) fun v s1 ⟨x, H1, I1, r1, q1⟩ => ?_) hs hw
  rw [h1]
  exact thn (hg pins s1 σ H1 x v _ I1 r1 q1) fun _ s2 q => q
theorem ps_set {i : Nat} {x : Str} {e : Expr} {te : TE} {pos' : Pos} (hN : X.N.Nodup) (hi : X.N[i]? = some x) (hx : Loc X.env.scope x) (he : PE X e te) (hs : swapsWith e (some (.Name x pos')) pos.line X.env = pure false := by rfl) (hf : X.fn x = true ∨ X.env.scope.names.lookup x = some .local := by first | exact .inl rfl | exact .inr rfl | assumption) :
    PS X (.Assign [.Name x pos'] e pos) (tAsg te (gName i)) := by
  intro pins s σ H D I h
  refine wpAny_Assign_Name (thn (he pins s σ H _ I h) fun v s1 ⟨y, H1, I1, r1, q1⟩ => ?_) hs
  exact store_ok I1 hN hi hx r1 (fun s2 I2 => ⟨_, H1, I2, q1⟩) hf
end
section
variable {X : Cx} {pos : Pos}
def tWhile (c : TT) (tb : TS) : TS := fun D σ H => ∃ W : Nat → St → Hp → Prop, (∃ m, W m σ H) ∧ ∀ m σ H, W m σ H →
  c σ H fun b H1 => if b = true then ∃ N : St → Hp → Prop, (∀ σ' H', N σ' H' → ∃ m', m' < m ∧ W m' σ' H') ∧ tb { D with nx := N, ct := N, bk := D.nx } σ H1 else D.nx σ H1
theorem ps_while {c : Expr} {body : List Stmt} {tc : TT} {tb : TS} (hp : PassesOwn (model X.prog X.w) X.A X.env X.xe) (hc : PT X c tc) (hb : PSs X body tb) : PS X (.While c body [] pos) (tWhile tc tb) := by
  intro pins s σ H D I h
  obtain ⟨W, ⟨m0, w0⟩, turn⟩ := h
  refine wpAny_While (codeAny_whileLoop (fun n s' => ∃ σ' H', Inv X pins σ' H' s' ∧ W n σ' H') ?_ m0 ⟨σ, H, I, w0⟩)
  rintro n s1 ⟨σ1, H1, I1, w1⟩
  refine wpAny_passesOwn hp (thn (hc pins s1 σ1 H1 _ I1 (turn n σ1 H1 w1)) fun b s2 ⟨H2, I2, q2⟩ => ?_)
  cases b with
  | true =>
    obtain ⟨N, hN, q2⟩ := q2
    rw [if_pos rfl]
    refine wpAny_passesOwn hp (thn (hb pins s2 σ1 H2 _ I2 q2) fun f s3 q3 => ?_)
    cases f with
    | next =>
      obtain ⟨σ3, H3, I3, n3⟩ := q3
      obtain ⟨m', hm, w3⟩ := hN σ3 H3 n3
      exact ⟨m', hm, σ3, H3, I3, w3⟩
    | cont =>
      obtain ⟨σ3, H3, I3, n3⟩ := q3
      obtain ⟨m', hm, w3⟩ := hN σ3 H3 n3
      exact ⟨m', hm, σ3, H3, I3, w3⟩
    | brk => exact q3
    | ret v => exact q3
  | false =>
    rw [if_neg Bool.false_ne_true]
    exact wpAny_execs_nil ⟨σ1, H2, I2, q2⟩
end
structure It where
  go : Nat → Hp → Prop
  yld : Nat → Hp → V → Hp → Prop
  stop : Nat → Hp → Prop
def FpOk (X : Cx) (pins : List (Addr × Obj)) (H : Hp) (b : Addr) : Prop :=
  H b = none ∧ b ≠ X.env.locals ∧ b ∉ X.fs ∧ (b ∈ X.ex ∨ X.s_0.heap.objs.size ≤ b) ∧ (∀ x c, X.env.cells.lookup x = some c → c ≠ b) ∧ ∀ p ∈ X.pn ++ pins, p.1 ≠ b
theorem Inv.fpOk {X : Cx} {pins : List (Addr × Obj)} {σ : St} {H H' : Hp} {s : Shared} {b : Addr} (I : Inv X pins σ H s) (hb : s.heap.objs.size ≤ b) (hn : H' b = none) : FpOk X pins H' b := by
  refine ⟨hn, Nat.ne_of_gt (Nat.lt_of_lt_of_le I.lt hb), I.nofs hb, .inr (Nat.le_trans I.sz hb), fun x c e z => ?_, fun p hp z => ?_⟩
  · obtain ⟨v, q⟩ := I.cell x c e
    exact absurd (Nat.lt_of_lt_of_le q.lt (by rw [z]; exact hb)) (Nat.lt_irrefl _)
  · exact absurd (Nat.lt_of_lt_of_le (Heap.lt_size (I.pin p hp).1) (by rw [z]; exact hb)) (Nat.lt_irrefl _)
structure Turn (P : Program) (w : World) (K : PySem.W.Frag) (tg : Expr) (J : It) (fp : List Addr) (it : Addr) (tn : Nat → Heap → Prop) : Prop where
  mem : it ∈ fp
  obj : ∀ i h, tn i h → ∀ b ∈ fp, ∃ o, h.get? b = some o ∧ ∀ v, o.data ≠ .cell v
  keep : ∀ i h h', tn i h → (∀ b ∈ fp, ∀ o, h.get? b = some o → h'.get? b = some o) → tn i h'
  item : ∀ (X : Cx), X.prog = P → X.w = w → X.K = K → X.calm = true → ∀ (i : Nat) (pins : List (Addr × Obj)) (s : Shared) (σ : St) (H : Hp) (E : Value → Shared → Prop), Inv X pins σ H s → (∀ b ∈ fp, FpOk X pins H b) → tn i s.heap → J.go i H →
    wpAny (model P w) X.A (pyNext (.ref it)) (fun r s1 => ∃ u, r = some u ∧
      wpAny (model P w) X.A (letOwnedTupleGo tg (.ref it) u) (fun _ s2 => ∃ x H', Inv X pins σ H' s2 ∧ RelV x u ∧ J.yld i H x H' ∧ tn (i + 1) s2.heap ∧ ∀ b ∈ fp, H' b = none) E s1) E s
  done : ∀ (X : Cx), X.prog = P → X.w = w → X.K = K → X.calm = true → ∀ (i : Nat) (pins : List (Addr × Obj)) (s : Shared) (σ : St) (H : Hp) (E : Value → Shared → Prop), Inv X pins σ H s → (∀ b ∈ fp, FpOk X pins H b) → tn i s.heap → J.stop i H →
    wpAny (model P w) X.A (pyNext (.ref it)) (fun r s1 => r = none ∧ Inv X pins σ H s1) E s
  self : ∀ (A : Around) (i : Nat) (s : Shared) (Q : Value → Shared → Prop) (E : Value → Shared → Prop), tn i s.heap → Q (.ref it) s → wpAny (model P w) A (pyIter (.ref it)) Q E s
abbrev TI := St → Hp → (It → Hp → Prop) → Prop
def PIE (X : Cx) (pins : List (Addr × Obj)) (σ : St) (tg : Expr) (R : It → Hp → Prop) (itv : Value) (s2 : Shared) : Prop :=
  ∃ (it : Addr) (fp : List Addr) (tn : Nat → Heap → Prop) (J : It) (H' : Hp), itv = .ref it ∧ Inv X pins σ H' s2 ∧ Turn X.prog X.w X.K tg J fp it tn ∧ tn 0 s2.heap ∧ (∀ b ∈ fp, FpOk X pins H' b) ∧ R J H'
def PI (X : Cx) (tg iter : Expr) (wi : TI) : Prop :=
  ∀ (pins : List (Addr × Obj)) (s : Shared) (σ : St) (H : Hp) (R : It → Hp → Prop), Inv X pins σ H s → wi σ H R →
    wpAny (model X.prog X.w) X.A (eval iter X.env) (fun v s1 => wpAny (model X.prog X.w) X.A (pyIter v) (PIE X pins σ tg R) X.xe s1) X.xe s
theorem go_of {M : Model} {A : Around} {E : Value → Shared → Prop} {s : Shared} {tg : Expr} {it : Addr} {u : Value} {o : Obj} {n : String} {vs : Array Value} {Q : Unit → Shared → Prop} (ho : s.heap.get? it = some o) (hc : o.cls = .type n) (hd : o.data = .fields vs)
    (hn : ["enumerate", "zip", "dict_itemiterator", "dict_reverseitemiterator", "odict_iterator", "itertools.zip_longest", "itertools.pairwise"].contains n = false) (hQ : Q () s) : wpAny M A (letOwnedTupleGo tg (.ref it) u) Q E s := by
  unfold letOwnedTupleGo
  cases tg <;> first
    | exact wpAny_pure hQ
    | (cases u <;> first
        | exact wpAny_pure hQ
        | (refine wpAny_bind (wpAny_load ho ?_)
           rw [hc, hd]
           show wpAny M A (if (["enumerate", "zip", "dict_itemiterator", "dict_reverseitemiterator", "odict_iterator", "itertools.zip_longest", "itertools.pairwise"].contains n && vs[0]? == some (rawInt _)) = true then _ else _) Q E s
           rw [if_neg (by intro h; rw [hn, Bool.false_and] at h; cases h)]
           exact wpAny_pure hQ))
def Itl (K : PySem.W.Frag) (a : Addr) : It :=
  ⟨fun i H => ∃ xs x, SqL K H a xs ∧ xs[i]? = some x, fun i H x H' => H' = H ∧ ∀ xs, SqL K H a xs → xs[i]? = some x, fun i H => ∃ xs, SqL K H a xs ∧ xs.length ≤ i⟩
def Itr (lo : Int) (n : Nat) : It := ⟨fun i _ => i < n, fun i H x H' => H' = H ∧ x = .int (lo + i), fun i _ => n ≤ i⟩
theorem turn_list {P : Program} {w : World} {K : PySem.W.Frag} {tg : Expr} (a it : Addr) : Turn P w K tg (Itl K a) [it] it (fun i h => h.IsListIter it a i) where
  mem := by simp
  obj := fun i h st b hb => by
    have e : b = it := by simpa using hb
    subst e
    obtain ⟨o, e, c, d⟩ := st
    exact ⟨o, e, fun v z => by rw [d] at z; cases z⟩
  keep := fun i h h' st k => st.at fun o e => k it (by simp) o e
  item := by
    intro X hP hw hK hc i pins s σ H E I hf st hg
    subst hP hw hK
    obtain ⟨xs, x, hq, hx⟩ := hg
    obtain ⟨its, rv, p, hz⟩ := I.list hq
    obtain ⟨u, hu, ru⟩ := rv.get hx
    obtain ⟨f0, f1, f2, f3, f4, f5⟩ := hf it (by simp)
    refine wpAny_pyNext_list_item st p.isList (x := u) (by simpa using hu) fun h' st' sb => ?_
    have I1 : Inv X pins σ H { s with heap := h' } := I.turned (t' := s.toks) (fun b o hb e => (sb.2 b hb).trans e) f0 f1 f3 f4 f5
    obtain ⟨o, e, c, d⟩ := id st'
    exact ⟨u, rfl, go_of (s := { s with heap := h' }) e c d (by decide) ⟨x, H, I1, ru, ⟨rfl, fun ys hy => by rw [I.list_inj hy hq]; exact hx⟩, st', fun b hb => (hf b hb).1⟩⟩
  done := by
    intro X hP hw hK hc i pins s σ H E I hf st hg
    subst hP hw hK
    obtain ⟨xs, hq, hx⟩ := hg
    obtain ⟨its, rv, p, hz⟩ := I.list hq
    obtain ⟨f0, f1, f2, f3, f4, f5⟩ := hf it (by simp)
    have hl := rv.length
    exact wpAny_pyNext_list_end (I.ok.hd hc) st p.isList (by simp; omega) fun h' eb => ⟨rfl, I.turned (t' := s.toks) (fun b o hb e => eb b o hb e) f0 f1 f3 f4 f5⟩
  self := fun _ _ _ _ _ st h => wpAny_pyIter_listiter st h
theorem turn_range {P : Program} {w : World} {K : PySem.W.Frag} {tg : Expr} (it : Addr) (lo : Int) (n : Nat) : Turn P w K tg (Itr lo n) [it] it (fun i h => IsRangeIter h it (lo + (i : Nat) * 1) ((n : Int) - (i : Nat)) 1) where
  mem := by simp
  obj := fun i h st b hb => by
    have e : b = it := by simpa using hb
    subst e
    exact ⟨_, st, fun v z => by
      have z' : Data.fields _ = Data.cell v := z
      cases z'⟩
  keep := fun i h h' st k => k it (by simp) _ st
  item := by
    intro X hP hw hK hc i pins s σ H E I hf st hg
    subst hP hw hK
    obtain ⟨f0, f1, f2, f3, f4, f5⟩ := hf it (by simp)
    have W := Walks.range (prog := X.prog) (w := X.w) (I.ok.hd hc) it lo 1 n
    refine W.item i s _ _ hg st fun v h' tk hv st' kk => ?_
    obtain ⟨t, rfl⟩ := hv
    have I1 : Inv X pins σ H { s with heap := h', toks := tk } := I.turned (fun b o hb e => kk b o (by simpa using hb) e) f0 f1 f3 f4 f5
    refine ⟨_, rfl, go_of (s := { s with heap := h', toks := tk }) (n := "range_iterator") st' rfl rfl (by decide) ⟨.int (lo + i), H, I1, ⟨t, ?_⟩, ⟨rfl, rfl⟩, st', fun b hb => (hf b hb).1⟩⟩
    rw [Int.mul_one]
  done := by
    intro X hP hw hK hc i pins s σ H E I hf st hg
    subst hP hw hK
    obtain ⟨f0, f1, f2, f3, f4, f5⟩ := hf it (by simp)
    exact wpAny_pyNext_range_end (I.ok.hd hc) st (by have : n ≤ i := hg; omega) fun h' eb => ⟨rfl, I.turned (t' := s.toks) (fun b o hb e => eb b o hb e) f0 f1 f3 f4 f5⟩
  self := fun _ _ _ _ _ st h => wpAny_pyIter_rangeiter st h
end L2
namespace L2
open PySem PySem.Spec PyProof.Rows
section
variable {X : Cx} {tg : Expr}
def iList (K : PySem.W.Frag) (tl : TE) : TI := fun σ H R => tl σ H fun x H1 => ∃ a, x = .ref a ∧ (∃ xs, SqL K H1 a xs) ∧ R (Itl K a) H1
theorem pi_list {l : Expr} {tl : TE} (hl : PE X l tl) : PI X tg l (iList X.K tl) := by
  intro pins s σ H R I h
  refine thn (hl pins s σ H _ I h) fun v s1 ⟨x, H1, I1, r1, q1⟩ => ?_
  obtain ⟨a, e, ⟨xs, hq⟩, q⟩ := q1
  subst e
  cases r1
  obtain ⟨its, rv, p, hz⟩ := I1.list hq
  refine wpAny_pyIter_list p.isList ?_
  refine ⟨s1.heap.objs.size, [s1.heap.objs.size], _, _, H1, rfl, I1.kept (t' := s1.toks) fun b o e => Heap.get?_push_of_some _ e, turn_list a _, ⟨_, Heap.get?_push_size _ rfl, rfl, rfl⟩, fun b hb => ?_, q⟩
  have e : b = s1.heap.objs.size := by simpa using hb
  subst e
  exact I1.fpOk (Nat.le_refl _) (I1.hok.fresh (Nat.le_refl _))
theorem range_it {pins : List (Addr × Obj)} {σ : St} {H : Hp} {s : Shared} {R : It → Hp → Prop} {E : Value → Shared → Prop} {lo hi : Int} {t u v : Tok} {tk : Nat} (I : Inv X pins σ H s) (h1 : -(2 ^ 62) ≤ lo) (h2 : lo < 2 ^ 62) (h3 : -(2 ^ 62) ≤ hi) (h4 : hi < 2 ^ 62)
    (q : R (Itr lo (hi - lo).toNat) H) : wpAny (model X.prog X.w) X.A (pyIter (.ref s.heap.objs.size)) (PIE X pins σ tg R) E { s with heap := s.heap.push { cls := .type "range", data := .fields #[.int lo t, .int hi u, .int 1 v] }, toks := tk } := by
  refine wpAny_pyIter_range (IsRange.new ..) (small_one h1 h2 h3 h4) ?_
  have I1 : Inv X pins σ H { s with heap := s.heap.push { cls := .type "range", data := .fields #[.int lo t, .int hi u, .int 1 v] }, toks := tk } := I.kept fun b o e => Heap.get?_push_of_some _ e
  refine ⟨(s.heap.push { cls := .type "range", data := .fields #[.int lo t, .int hi u, .int 1 v] }).objs.size, [(s.heap.push { cls := .type "range", data := .fields #[.int lo t, .int hi u, .int 1 v] }).objs.size], _, _, H, rfl,
    I1.kept (t' := tk) fun b o e => Heap.get?_push_of_some _ e, turn_range _ lo (hi - lo).toNat, ?_, fun b hb => ?_, q⟩
  · have e1 : lo + ((0 : Nat) : Int) * 1 = lo := by simp
    have e2 : (((hi - lo).toNat : Nat) : Int) - ((0 : Nat) : Int) = Builtin.Range.rangeSize lo hi 1 := by rw [rangeSize_one]; split <;> omega
    show IsRangeIter _ _ (lo + ((0 : Nat) : Int) * 1) ((((hi - lo).toNat : Nat) : Int) - ((0 : Nat) : Int)) 1
    rw [e1, e2]
    exact Heap.get?_push_size _ rfl
  · have e : b = (s.heap.push { cls := .type "range", data := .fields #[.int lo t, .int hi u, .int 1 v] }).objs.size := by simpa using hb
    subst e
    exact I1.fpOk (Nat.le_refl _) (I1.hok.fresh (Nat.le_refl _))
def iRng1 (ta : TA) : TI := fun σ H R => ta σ H fun vs H1 => ∃ j : Int, vs = [.int j] ∧ -(2 ^ 62) ≤ j ∧ j < 2 ^ 62 ∧ R (Itr 0 j.toNat) H1
theorem pi_range1 {a : Expr} {ta : TA} {p pos : Pos} (hg : Gl X "range") (hm : X.mg "range" = none) (ha : PA X [a] ta) (hs : starEach [a] X.env = [(false, eval a X.env)] := by rfl) : PI X tg (.Call (.Name "range" p) [a] [] pos) (iRng1 ta) := by
  intro pins s σ H R I h
  refine Call_ (ld_blt I hg hm boot_range (PyProof.Rows.callWith_type1 (thn (ha pos pins s σ H _ I h) fun us s1 ⟨vs, H1, I1, r1, q1⟩ => ?_) hs rfl))
  obtain ⟨j, e, q1, q2, q⟩ := q1
  subst e
  cases r1 with
  | cons r rr =>
    cases rr
    obtain ⟨t, rfl⟩ := r
    exact call_range_1 (range_it I1 (by omega) (by omega) q1 q2 (by simpa using q))
def tFor (wi : TI) (g : TG) (tb : TS) : TS := fun D σ H => wi σ H fun J H1 => ∃ W : Nat → Nat → St → Hp → Prop, (∃ m, W 0 m σ H1) ∧ ∀ i m σ H, W i m σ H →
  (J.stop i H ∧ D.nx σ H) ∨ (J.go i H ∧ ∃ N : St → Hp → Prop, (∀ σ' H', N σ' H' → ∃ m', m' < m ∧ W (i + 1) m' σ' H') ∧ ∀ x H', J.yld i H x H' → g x σ H' fun σ2 H2 => tb { D with nx := N, ct := N, bk := D.nx } σ2 H2)
def pinsAt (fp : List Addr) (h : Heap) : List (Addr × Obj) := fp.filterMap fun b => (h.get? b).map fun o => (b, o)
theorem mem_pinsAt {fp : List Addr} {h : Heap} {b : Addr} {o : Obj} (hb : b ∈ fp) (e : h.get? b = some o) : (b, o) ∈ pinsAt fp h := List.mem_filterMap.mpr ⟨b, hb, by rw [e]; rfl⟩
theorem of_pinsAt {fp : List Addr} {h : Heap} {p : Addr × Obj} (hp : p ∈ pinsAt fp h) : p.1 ∈ fp ∧ h.get? p.1 = some p.2 := by
  obtain ⟨b, hb, e⟩ := List.mem_filterMap.mp hp
  cases q : h.get? b with
  | none => rw [q] at e; cases e
  | some o =>
    rw [q] at e
    have e' : (b, o) = p := Option.some.inj e
    subst e'
    exact ⟨hb, q⟩
theorem Inv.pinned {pins : List (Addr × Obj)} {σ : St} {H : Hp} {s : Shared} {fp : List Addr} (I : Inv X pins σ H s) (hf : ∀ b ∈ fp, FpOk X pins H b) (ho : ∀ b ∈ fp, ∃ o, s.heap.get? b = some o ∧ ∀ v, o.data ≠ .cell v) : Inv X (pins ++ pinsAt fp s.heap) σ H s :=
  I.pins_of fun p hp => (List.mem_append.mp hp).elim (fun z => I.pin p (List.mem_append_right _ z)) fun z => by
    obtain ⟨hb, e⟩ := of_pinsAt z
    obtain ⟨f0, f1, f2, _⟩ := hf p.1 hb
    obtain ⟨o, e', d⟩ := ho p.1 hb
    rw [e] at e'; cases e'
    exact ⟨e, f0, f1, f2, d⟩
theorem Inv.unpinned {pins pl : List (Addr × Obj)} {σ : St} {H : Hp} {s : Shared} (I : Inv X (pins ++ pl) σ H s) : Inv X pins σ H s := I.pins_of fun p hp => I.pin p (List.mem_append_right _ (List.mem_append_left _ hp))
theorem ps_for {iter : Expr} {body : List Stmt} {wi : TI} {g : TG} {tb : TS} {pos : Pos} (hp : PassesOwn (model X.prog X.w) X.A X.env X.xe) (hc : X.calm = true) (hi : PI X tg iter wi) (hg : PG X tg g) (hb : PSs X body tb)
    (hs : ∀ x, foldedSetIterable iter X.env x = pure x := by intro _; rfl) : PS X (.For tg iter body [] pos) (tFor wi g tb) := by
  intro pins s σ H D I h
  refine wpAny_For (thn (hi pins s σ H _ I h) fun v s1 h1 => thn h1 fun itv s2 h2 => ?_) hs
  obtain ⟨it, fp, tn, J, H2, e, I2, T, st2, f2, W, ⟨m0, w0⟩, turn⟩ := h2
  subst e
  -- what stays true of the iterator's objects through the loop
  have stat : ∀ {H' : Hp}, (∀ b ∈ fp, H' b = none) → ∀ b ∈ fp, FpOk X pins H' b := fun hn b hb => ⟨hn b hb, (f2 b hb).2⟩
  refine codeAny_forLoop_any (fun n s' => ∃ i σ' H', Inv X pins σ' H' s' ∧ tn i s'.heap ∧ (∀ b ∈ fp, H' b = none) ∧ W i n σ' H') ?_ m0 ⟨0, σ, H2, I2, st2, fun b hb => (f2 b hb).1, w0⟩
  rintro n s3 ⟨i, σ3, H3, I3, st3, fr3, w3⟩
  rcases turn i n σ3 H3 w3 with ⟨stop, qn⟩ | ⟨go, N, hN, step⟩
  · refine wpAny_passesOwn hp (thn (T.done X rfl rfl rfl hc i pins s3 σ3 H3 X.xe I3 (stat fr3) st3 stop) fun r s4 ⟨hr, I4⟩ => ?_)
    subst hr
    exact wpAny_execs_nil ⟨σ3, H3, I4, qn⟩
  · refine wpAny_passesOwn hp (thn (T.item X rfl rfl rfl hc i pins s3 σ3 H3 X.xe I3 (stat fr3) st3 go) fun r s4 ⟨u, hr, h4⟩ => ?_)
    subst hr
    refine wpAny_passesOwn hp (thn h4 fun _ s5 ⟨x, H5, I5, r5, y5, st5, fr5⟩ => ?_)
    have I5' := I5.pinned (stat fr5) (T.obj _ _ st5)
    refine wpAny_passesOwn hp (thn (hg _ s5 σ3 H5 x u _ I5' r5 (step x H5 y5)) fun _ s6 ⟨σ6, H6, I6, q6⟩ => ?_)
    refine wpAny_passesOwn hp (thn (hb _ s6 σ6 H6 _ I6 q6) fun f s7 q7 => ?_)
    have again : ∀ {σ7 : St} {H7 : Hp}, Inv X (pins ++ pinsAt fp s5.heap) σ7 H7 s7 → N σ7 H7 → ∃ m, m < n ∧ ∃ i σ' H', Inv X pins σ' H' s7 ∧ tn i s7.heap ∧ (∀ b ∈ fp, H' b = none) ∧ W i m σ' H' := fun {σ7 H7} I7 n7 => by
      obtain ⟨m', hm, w7⟩ := hN σ7 H7 n7
      refine ⟨m', hm, i + 1, σ7, H7, I7.unpinned, T.keep _ _ _ st5 fun b hb o e => (I7.pin (b, o) (List.mem_append_right _ (List.mem_append_right _ (mem_pinsAt hb e)))).1, fun b hb => ?_, w7⟩
      obtain ⟨o, e, d⟩ := T.obj _ _ st5 b hb
      exact (I7.pin (b, o) (List.mem_append_right _ (List.mem_append_right _ (mem_pinsAt hb e)))).2.1
    cases f with
    | next => obtain ⟨σ7, H7, I7, n7⟩ := q7; exact again I7 n7
    | cont => obtain ⟨σ7, H7, I7, n7⟩ := q7; exact again I7 n7
    | brk => obtain ⟨σ7, H7, I7, q7⟩ := q7; exact ⟨σ7, H7, I7.unpinned, q7⟩
    | ret v => obtain ⟨x7, σ7, H7, I7, r7, q7⟩ := q7; exact ⟨x7, σ7, H7, I7.unpinned, r7, q7⟩
end
theorem for_list {K : PySem.W.Frag} {a : Addr} {xs : List V} {g : TG} {tb : TS} {D : Ends} {σ : St} {H : Hp} (Pv : Nat → St → Hp → Prop) (h0 : Pv 0 σ H) (hl : ∀ i σ H, i ≤ xs.length → Pv i σ H → SqL K H a xs)
    (hs : ∀ i x σ H, xs[i]? = some x → Pv i σ H → g x σ H fun σ2 H2 => tb { D with nx := Pv (i + 1), ct := Pv (i + 1), bk := D.nx } σ2 H2) (hd : ∀ σ H, Pv xs.length σ H → D.nx σ H) :
    ∃ W : Nat → Nat → St → Hp → Prop, (∃ m, W 0 m σ H) ∧ ∀ i m σ H, W i m σ H →
      ((Itl K a).stop i H ∧ D.nx σ H) ∨ ((Itl K a).go i H ∧ ∃ N : St → Hp → Prop, (∀ σ' H', N σ' H' → ∃ m', m' < m ∧ W (i + 1) m' σ' H') ∧ ∀ x H', (Itl K a).yld i H x H' → g x σ H' fun σ2 H2 => tb { D with nx := N, ct := N, bk := D.nx } σ2 H2) := by
  refine ⟨fun i m σ H => m = xs.length - i ∧ i ≤ xs.length ∧ Pv i σ H, ⟨xs.length, by simp, Nat.zero_le _, h0⟩, ?_⟩
  rintro i m σ H ⟨rfl, hi, p⟩
  have q := hl i σ H hi p
  by_cases hlt : i < xs.length
  · refine .inr ⟨⟨xs, xs[i], q, by simp [hlt]⟩, Pv (i + 1), fun σ' H' p' => ⟨xs.length - (i + 1), by omega, rfl, hlt, p'⟩, fun x H' y => ?_⟩
    obtain ⟨e, y⟩ := y
    subst e
    exact hs i x σ _ (y xs q) p
  · have e : i = xs.length := by omega
    subst e
    exact .inl ⟨⟨xs, q, Nat.le_refl _⟩, hd σ H p⟩
theorem for_range {lo : Int} {n : Nat} {g : TG} {tb : TS} {D : Ends} {σ : St} {H : Hp} (Pv : Nat → St → Hp → Prop) (h0 : Pv 0 σ H)
    (hs : ∀ i σ H, i < n → Pv i σ H → g (.int (lo + i)) σ H fun σ2 H2 => tb { D with nx := Pv (i + 1), ct := Pv (i + 1), bk := D.nx } σ2 H2) (hd : ∀ σ H, Pv n σ H → D.nx σ H) :
    ∃ W : Nat → Nat → St → Hp → Prop, (∃ m, W 0 m σ H) ∧ ∀ i m σ H, W i m σ H →
      ((Itr lo n).stop i H ∧ D.nx σ H) ∨ ((Itr lo n).go i H ∧ ∃ N : St → Hp → Prop, (∀ σ' H', N σ' H' → ∃ m', m' < m ∧ W (i + 1) m' σ' H') ∧ ∀ x H', (Itr lo n).yld i H x H' → g x σ H' fun σ2 H2 => tb { D with nx := N, ct := N, bk := D.nx } σ2 H2) := by
  refine ⟨fun i m σ H => m = n - i ∧ i ≤ n ∧ Pv i σ H, ⟨n, by simp, Nat.zero_le _, h0⟩, ?_⟩
  rintro i m σ H ⟨rfl, hi, p⟩
  by_cases hlt : i < n
  · refine .inr ⟨hlt, Pv (i + 1), fun σ' H' p' => ⟨n - (i + 1), by omega, rfl, hlt, p'⟩, fun x H' y => ?_⟩
    obtain ⟨e, y⟩ := y
    subst e y
    exact hs i σ _ hlt p
  · have e : i = n := by omega
    subst e
    exact .inl ⟨Nat.le_refl _, hd σ H p⟩
theorem while_by {c : TT} {tb : TS} {D : Ends} {σ : St} {H : Hp} (Pv : St → Hp → Prop) (μ : St → Hp → Nat) (h0 : Pv σ H)
    (hs : ∀ σ H, Pv σ H → c σ H fun b H1 => if b = true then tb { D with nx := fun σ' H' => Pv σ' H' ∧ μ σ' H' < μ σ H, ct := fun σ' H' => Pv σ' H' ∧ μ σ' H' < μ σ H, bk := D.nx } σ H1 else D.nx σ H1)
    (mono : ∀ σ H Q Q', (∀ b H1, Q b H1 → Q' b H1) → c σ H Q → c σ H Q') : tWhile c tb D σ H := by
  refine ⟨fun m σ H => m = μ σ H ∧ Pv σ H, ⟨_, rfl, h0⟩, ?_⟩
  rintro m σ H ⟨rfl, p⟩
  refine mono σ H _ _ (fun b H1 q => ?_) (hs σ H p)
  cases b with
  | true => exact ⟨_, fun σ' H' ⟨p', l⟩ => ⟨_, l, rfl, p'⟩, q⟩
  | false => exact q
end L2
namespace L2
open PySem PySem.Spec PyProof.Rows
abbrev R2 := V → V → Hp → VK → Prop
def OpR (X : Cx) (f : Value → Value → Sem Value) (r : R2) : Prop :=
  ∀ (pins : List (Addr × Obj)) (s : Shared) (σ : St) (H : Hp) (x y : V) (v u : Value) (Q : VK), Inv X pins σ H s → RelV x v → RelV y u → r x y H Q →
    wpAny (model X.prog X.w) X.A (f v u) (EP X pins σ Q) X.xe s
def UnR (X : Cx) (f : Value → Sem Value) (r : V → Hp → VK → Prop) : Prop :=
  ∀ (pins : List (Addr × Obj)) (s : Shared) (σ : St) (H : Hp) (x : V) (v : Value) (Q : VK), Inv X pins σ H s → RelV x v → r x H Q →
    wpAny (model X.prog X.w) X.A (f v) (EP X pins σ Q) X.xe s
def CallR (X : Cx) (f : Value) (r : List V → Hp → VK → Prop) : Prop :=
  ∀ (pins : List (Addr × Obj)) (s : Shared) (σ : St) (H : Hp) (xs : List V) (us : List Value) (Q : VK), Inv X pins σ H s → Vals xs us → r xs H Q →
    wpAny (model X.prog X.w) X.A (call f us) (EP X pins σ Q) X.xe s
def tOp (r : R2) (ta tb : TE) : TE := fun σ H Q => ta σ H fun x H1 => tb σ H1 fun y H2 => r x y H2 Q
def tUn (r : V → Hp → VK → Prop) (ta : TE) : TE := fun σ H Q => ta σ H fun x H1 => r x H1 Q
def rI (C : Int → Int → Prop) (g : Int → Int → V) : R2 := fun x y H Q => ∃ i j, x = .int i ∧ y = .int j ∧ C i j ∧ Q (g i j) H
def rI0 (g : Int → Int → V) : R2 := fun x y H Q => ∃ i j, x = .int i ∧ y = .int j ∧ Q (g i j) H
def rU (g : Int → V) : V → Hp → VK → Prop := fun x H Q => ∃ i, x = .int i ∧ Q (g i) H
section
variable {X : Cx} {a b c : Expr} {ta tb tc : TE} {pos : Pos}
theorem binT (ha : PE X a ta) (hb : PE X b tb) {pins : List (Addr × Obj)} {s : Shared} {σ : St} {H : Hp} {R : V → V → Hp → Prop} (I : Inv X pins σ H s)
    (h : ta σ H fun x H1 => tb σ H1 fun y H2 => R x y H2) {Q : Value → Shared → Prop} {f : Value → Value → Sem Value}
    (hf : ∀ v u s2 x y H2, Inv X pins σ H2 s2 → RelV x v → RelV y u → R x y H2 → wpAny (model X.prog X.w) X.A (f v u) Q X.xe s2) :
    wpAny (model X.prog X.w) X.A (eval a X.env) (fun v s₁ => wpAny (model X.prog X.w) X.A (eval b X.env) (fun u s₂ => wpAny (model X.prog X.w) X.A (f v u) Q X.xe s₂) X.xe s₁) X.xe s := by
  refine thn (ha pins s σ H _ I h) fun v s1 ⟨x, H1, I1, r1, q1⟩ => ?_
  refine thn (hb pins s1 σ H1 _ I1 q1) fun u s2 ⟨y, H2, I2, r2, q2⟩ => ?_
  exact hf v u s2 x y H2 I2 r1 r2 q2
theorem pe_op {op : Operator} {r : R2} (ho : OpR X (binaryOp op) r) (ha : PE X a ta) (hb : PE X b tb) : PE X (.BinOp a op b pos) (tOp r ta tb) := by
  intro pins s σ H Q I h
  exact wpAny_BinOp (binT ha hb I h fun v u s2 x y H2 I2 rx ry q => ho pins s2 σ H2 x y v u Q I2 rx ry q)
theorem pe_un {op : UnaryOp} {r : V → Hp → VK → Prop} (ho : UnR X (unaryOp op) r) (ha : PE X a ta) : PE X (.UnaryOp op a pos) (tUn r ta) := by
  intro pins s σ H Q I h
  exact UnaryOp_ (thn (ha pins s σ H _ I h) fun v s1 ⟨x, H1, I1, r1, q1⟩ => ho pins s1 σ H1 x v Q I1 r1 q1)
theorem opI {f : Value → Value → Sem Value} {C : Int → Int → Prop} {g : Int → Int → Int}
    (rule : ∀ (i j : Int) (t u : Tok) (s : Shared) (Q : Value → Shared → Prop) (E : Value → Shared → Prop), C i j → Q (.int (g i j) s.toks) { s with toks := s.toks + 1 } → wpAny (model X.prog X.w) X.A (f (.int i t) (.int j u)) Q E s) :
    OpR X f (rI C fun i j => .int (g i j)) := by
  intro pins s σ H x y v u Q I rx ry h
  obtain ⟨i, j, rfl, rfl, hc, q⟩ := h
  obtain ⟨t, rfl⟩ := rx
  obtain ⟨t', rfl⟩ := ry
  exact rule i j t t' s _ _ hc ⟨.int (g i j), H, I.tok _, ⟨_, rfl⟩, q⟩
theorem opI0 {f : Value → Value → Sem Value} {g : Int → Int → Int}
    (rule : ∀ (i j : Int) (t u : Tok) (s : Shared) (Q : Value → Shared → Prop) (E : Value → Shared → Prop), Q (.int (g i j) s.toks) { s with toks := s.toks + 1 } → wpAny (model X.prog X.w) X.A (f (.int i t) (.int j u)) Q E s) :
    OpR X f (rI0 fun i j => .int (g i j)) := by
  intro pins s σ H x y v u Q I rx ry h
  obtain ⟨i, j, rfl, rfl, q⟩ := h
  obtain ⟨t, rfl⟩ := rx
  obtain ⟨t', rfl⟩ := ry
  exact rule i j t t' s _ _ ⟨.int (g i j), H, I.tok _, ⟨_, rfl⟩, q⟩
theorem opB0 {f : Value → Value → Sem Value} {g : Int → Int → Bool}
    (rule : ∀ (i j : Int) (t u : Tok) (s : Shared) (Q : Value → Shared → Prop) (E : Value → Shared → Prop), Q (.bool (g i j)) s → wpAny (model X.prog X.w) X.A (f (.int i t) (.int j u)) Q E s) :
    OpR X f (rI0 fun i j => .bl (g i j)) := by
  intro pins s σ H x y v u Q I rx ry h
  obtain ⟨i, j, rfl, rfl, q⟩ := h
  obtain ⟨t, rfl⟩ := rx
  obtain ⟨t', rfl⟩ := ry
  exact rule i j t t' s _ _ ⟨.bl (g i j), H, I, rfl, q⟩
def CDiv (i j : Int) : Prop := 0 < j ∧ j < 1073741824
def CPow (i j : Int) : Prop := 0 ≤ j ∧ j ≤ 1000000 ∧ i.natAbs < 2 ^ 64
def CMul (i j : Int) : Prop := (-(2 ^ 64) < i ∧ i < 2 ^ 64) ∨ (-(2 ^ 64) < j ∧ j < 2 ^ 64)
theorem CMul.ok {i j : Int} (h : CMul i j) : IntMulOk i j := by
  rcases h with ⟨h1, h2⟩ | ⟨h1, h2⟩
  · exact .of_left (intBits_le_64 h1 h2)
  · exact .of_right (intBits_le_64 h1 h2)
theorem op_add : OpR X (binaryOp .Add) (rI0 fun i j => .int (i + j)) := opI0 fun _ _ _ _ _ _ _ q => add_int q
theorem op_sub : OpR X (binaryOp .Sub) (rI0 fun i j => .int (i - j)) := opI0 fun _ _ _ _ _ _ _ q => sub_int q
theorem op_mul : OpR X (binaryOp .Mult) (rI CMul fun i j => .int (i * j)) := opI fun _ _ _ _ _ _ _ hc q => mul_int q hc.ok
theorem op_fdiv : OpR X (binaryOp .FloorDiv) (rI CDiv fun i j => .int (i / j)) := opI fun i j _ _ _ _ _ hc q => by
  have h1 : (0 : Int) < j := hc.1
  have h2 : j < 1073741824 := hc.2
  exact floordiv_int (by omega) (by rw [Int.fdiv_eq_ediv_of_nonneg i (by omega)]; exact q) (.inl (PyProof.noPylong_small (by omega)))
theorem op_mod : OpR X (binaryOp .Mod) (rI (fun _ j => 0 < j) fun i j => .int (i % j)) := opI fun i j _ _ _ _ _ hc q => by
  have h1 : (0 : Int) < j := hc
  exact mod_int' (by omega) (by rw [Int.fmod_eq_emod_of_nonneg i (by omega)]; exact q)
theorem op_shl : OpR X (binaryOp .LShift) (rI CPow fun i j => .int (i * 2 ^ j.toNat)) := opI fun _ _ _ _ _ _ _ hc q => lshift_int_small hc.1 hc.2.1 hc.2.2 q
theorem op_and : OpR X (binaryOp .BitAnd) (rI0 fun i j => .int (Builtin.bitAnd i j)) := opI0 fun _ _ _ _ _ _ _ q => and_int q
theorem unI {f : Value → Sem Value} {g : Int → Int}
    (rule : ∀ (i : Int) (t : Tok) (s : Shared) (Q : Value → Shared → Prop) (E : Value → Shared → Prop), Q (.int (g i) s.toks) { s with toks := s.toks + 1 } → wpAny (model X.prog X.w) X.A (f (.int i t)) Q E s) :
    UnR X f (rU fun i => .int (g i)) := by
  intro pins s σ H x v Q I rx h
  obtain ⟨i, rfl, q⟩ := h
  obtain ⟨t, rfl⟩ := rx
  exact rule i t s _ _ ⟨.int (g i), H, I.tok _, ⟨_, rfl⟩, q⟩
theorem un_neg : UnR X (unaryOp .USub) (rU fun i => .int (-i)) := unI fun _ _ _ _ _ q => neg_int q
end
def scal : V → V → Bool
  | .non, .non => true | .non, .int _ => true | .int _, .non => true | .non, .bl _ => true | .bl _, .non => true | .non, .str _ => true | .str _, .non => true
  | .int _, .int _ => true | .bl _, .bl _ => true | .str _, .str _ => true | .byt _, .byt _ => true
  | .int _, .str _ => true | .str _, .int _ => true | .bl _, .str _ => true | .str _, .bl _ => true
  | _, _ => false
def rEq : R2 := fun x y H Q => scal x y = true ∧ Q (.bl (decide (x = y))) H
def rNe : R2 := fun x y H Q => scal x y = true ∧ Q (.bl (!decide (x = y))) H
theorem dec_int {i j : Int} : decide (V.int i = V.int j) = (i == j) := by
  rw [Bool.eq_iff_iff]
  simp
theorem dec_bl {i j : Bool} : decide (V.bl i = V.bl j) = (i == j) := by
  rw [Bool.eq_iff_iff]
  simp
theorem dec_str {i j : Str} : decide (V.str i = V.str j) = (i == j) := by
  rw [Bool.eq_iff_iff]
  simp
theorem dec_byt {i j : Array UInt8} : decide (V.byt i = V.byt j) = (i.toList == j.toList) := by
  rw [Bool.eq_iff_iff]
  cases i
  cases j
  simp
section
variable {X : Cx} {a b c : Expr} {ta tb tc : TE} {pos : Pos}
theorem fin_bl {pins : List (Addr × Obj)} {σ : St} {H : Hp} {s : Shared} {Q : VK} {k k' : Bool} (I : Inv X pins σ H s) (q : Q (.bl k) H) (e : k = k') : EP X pins σ Q (.bool k') s := by
  subst e
  exact ⟨.bl k, H, I, rfl, q⟩
theorem op_eq : OpR X (compareOp .Eq) rEq := by
  intro pins s σ H x y v u Q I rx ry h
  obtain ⟨hs, q⟩ := h
  cases x with
  | non =>
    cases rx
    cases y with
    | non => cases ry; exact PySem.EqNone.eq_none_none (fin_bl I q (by simp))
    | bl j => cases ry; exact PySem.EqNone.eq_none_bool (fin_bl I q (by simp))
    | int j => obtain ⟨t', rfl⟩ := ry; exact PySem.EqNone.eq_none_int (fin_bl I q (by simp))
    | str j => obtain ⟨t', rfl⟩ := ry; exact PySem.EqNone.eq_none_str (fin_bl I q (by simp))
    | _ => exact absurd (show false = true from hs) Bool.false_ne_true
  | bl i =>
    cases rx
    cases y with
    | non => cases ry; exact PySem.EqNone.eq_bool_none (fin_bl I q (by simp))
    | bl j => cases ry; exact eq_bool (fin_bl I q dec_bl)
    | str j => obtain ⟨t', rfl⟩ := ry; exact PySem.EqMixed.eq_bool_str (fin_bl I q (by simp))
    | _ => exact absurd (show false = true from hs) Bool.false_ne_true
  | int i =>
    obtain ⟨t, rfl⟩ := rx
    cases y with
    | non => cases ry; exact PySem.EqNone.eq_int_none (fin_bl I q (by simp))
    | int j => obtain ⟨t', rfl⟩ := ry; exact eq_int (fin_bl I q dec_int)
    | str j => obtain ⟨t', rfl⟩ := ry; exact PySem.EqMixed.eq_int_str (fin_bl I q (by simp))
    | _ => exact absurd (show false = true from hs) Bool.false_ne_true
  | str i =>
    obtain ⟨t, rfl⟩ := rx
    cases y with
    | non => cases ry; exact PySem.EqNone.eq_str_none (fin_bl I q (by simp))
    | bl j => cases ry; exact PySem.EqMixed.eq_str_bool (fin_bl I q (by simp))
    | int j => obtain ⟨t', rfl⟩ := ry; exact PySem.EqMixed.eq_str_int (fin_bl I q (by simp))
    | str j => obtain ⟨t', rfl⟩ := ry; exact eq_str (fin_bl I q dec_str)
    | _ => exact absurd (show false = true from hs) Bool.false_ne_true
  | byt i =>
    obtain ⟨t, rfl⟩ := rx
    cases y with
    | byt j => obtain ⟨t', rfl⟩ := ry; exact PySem.W.eq_bytes (fin_bl I q dec_byt)
    | _ => exact absurd (show false = true from hs) Bool.false_ne_true
  | _ => cases y <;> exact absurd (show false = true from hs) Bool.false_ne_true
theorem op_ne : OpR X (compareOp .NotEq) rNe := by
  intro pins s σ H x y v u Q I rx ry h
  obtain ⟨hs, q⟩ := h
  cases x with
  | non =>
    cases rx
    cases y with
    | non => cases ry; exact PySem.EqNone.ne_none_none (fin_bl I q (by simp))
    | bl j => cases ry; exact PySem.EqNone.ne_none_bool (fin_bl I q (by simp))
    | int j => obtain ⟨t', rfl⟩ := ry; exact PySem.EqNone.ne_none_int (fin_bl I q (by simp))
    | str j => obtain ⟨t', rfl⟩ := ry; exact PySem.EqNone.ne_none_str (fin_bl I q (by simp))
    | _ => exact absurd (show false = true from hs) Bool.false_ne_true
  | bl i =>
    cases rx
    cases y with
    | non => cases ry; exact PySem.EqNone.ne_bool_none (fin_bl I q (by simp))
    | bl j => cases ry; exact ne_bool (fin_bl I q (congrArg not dec_bl))
    | str j => obtain ⟨t', rfl⟩ := ry; exact PySem.EqMixed.ne_bool_str (fin_bl I q (by simp))
    | _ => exact absurd (show false = true from hs) Bool.false_ne_true
  | int i =>
    obtain ⟨t, rfl⟩ := rx
    cases y with
    | non => cases ry; exact PySem.EqNone.ne_int_none (fin_bl I q (by simp))
    | int j => obtain ⟨t', rfl⟩ := ry; exact ne_int (fin_bl I q (congrArg not dec_int))
    | str j => obtain ⟨t', rfl⟩ := ry; exact PySem.EqMixed.ne_int_str (fin_bl I q (by simp))
    | _ => exact absurd (show false = true from hs) Bool.false_ne_true
  | str i =>
    obtain ⟨t, rfl⟩ := rx
    cases y with
    | non => cases ry; exact PySem.EqNone.ne_str_none (fin_bl I q (by simp))
    | bl j => cases ry; exact PySem.EqMixed.ne_str_bool (fin_bl I q (by simp))
    | int j => obtain ⟨t', rfl⟩ := ry; exact PySem.EqMixed.ne_str_int (fin_bl I q (by simp))
    | str j => obtain ⟨t', rfl⟩ := ry; exact ne_str (fin_bl I q (congrArg not dec_str))
    | _ => exact absurd (show false = true from hs) Bool.false_ne_true
  | byt i =>
    obtain ⟨t, rfl⟩ := rx
    cases y with
    | byt j => obtain ⟨t', rfl⟩ := ry; exact PySem.W.ne_bytes (fin_bl I q (congrArg not dec_byt))
    | _ => exact absurd (show false = true from hs) Bool.false_ne_true
  | _ => cases y <;> exact absurd (show false = true from hs) Bool.false_ne_true
theorem op_lt : OpR X (compareOp .Lt) (rI0 fun i j => .bl (decide (i < j))) := opB0 fun _ _ _ _ _ _ _ q => lt_int q
theorem op_le : OpR X (compareOp .LtE) (rI0 fun i j => .bl (decide (i ≤ j))) := opB0 fun _ _ _ _ _ _ _ q => le_int q
theorem op_gt : OpR X (compareOp .Gt) (rI0 fun i j => .bl (decide (j < i))) := opB0 fun _ _ _ _ _ _ _ q => gt_int q
theorem op_ge : OpR X (compareOp .GtE) (rI0 fun i j => .bl (decide (j ≤ i))) := opB0 fun _ _ _ _ _ _ _ q => ge_int q
theorem op_isN : OpR X (compareOp .Is) (fun x y H Q => y = .non ∧ Q (.bl (decide (x = .non))) H) := by
  intro pins s σ H x y v u Q I rx ry h
  obtain ⟨rfl, q⟩ := h
  cases ry
  refine is_none_gen (fin_bl I q ?_)
  cases x <;> first
    | (cases rx; rfl)
    | (obtain ⟨t, rfl⟩ := rx; rfl)
theorem op_notN : OpR X (compareOp .IsNot) (fun x y H Q => y = .non ∧ Q (.bl (!decide (x = .non))) H) := by
  intro pins s σ H x y v u Q I rx ry h
  obtain ⟨rfl, q⟩ := h
  cases ry
  refine isnot_none_gen (fin_bl I q ?_)
  cases x <;> first
    | (cases rx; rfl)
    | (obtain ⟨t, rfl⟩ := rx; rfl)
theorem nomark (b : Expr) {op : CmpOp} (h : op ≠ .In := by decide) (h2 : op ≠ .NotIn := by decide) : behindInMarks op b = false := by
  have e1 : (op == CmpOp.In) = false := by cases op <;> first | rfl | exact absurd rfl h
  have e2 : (op == CmpOp.NotIn) = false := by cases op <;> first | rfl | exact absurd rfl h2
  cases b <;> simp [behindInMarks, e1, e2]
theorem pe_cmpR {op : CmpOp} {r : R2} (ho : OpR X (compareOp op) r) (ha : PE X a ta) (hb : PE X b tb) (hm : behindInMarks op b = false) : PE X (.Compare a [op] [b] pos) (tOp r ta tb) := by
  intro pins s σ H Q I h
  exact wpAny_Compare1 (binT ha hb I h fun v u s2 x y H2 I2 rx ry q => ho pins s2 σ H2 x y v u Q I2 rx ry q) hm
def tTest (t : TE) : TT := fun σ H Q => t σ H fun x H' => ∃ k, x = .bl k ∧ Q k H'
theorem pt_cmpR {op : CmpOp} {r : R2} (ho : OpR X (compareOp op) r) (ha : PE X a ta) (hb : PE X b tb) (hm : behindInMarks op b = false) : PT X (.Compare a [op] [b] pos) (tTest (tOp r ta tb)) := by
  intro pins s σ H Q I h
  refine wpAny_isTrue_Compare1 (thn (ha pins s σ H _ I h) fun v s1 ⟨x, H1, I1, r1, q1⟩ => thn (hb pins s1 σ H1 _ I1 q1) fun u s2 ⟨y, H2, I2, r2, q2⟩ =>
    thn (ho pins s2 σ H2 x y v u _ I2 r1 r2 q2) fun c s3 ⟨z, H3, I3, r3, k, e, q3⟩ => ?_) hm
  subst e
  cases r3
  exact wpAny_truthy_bool ⟨H3, I3, q3⟩
theorem line63 : (sizeLine : Nat) < 2 ^ 63 := by rw [sizeLine_eq]; decide
theorem vals1 {x : V} {us : List Value} (r : Vals [x] us) : ∃ u, us = [u] ∧ RelV x u := by
  cases r with
  | cons r1 r2 => cases r2; exact ⟨_, rfl, r1⟩
theorem call_abs : CallR X (.builtin "abs") (fun xs H Q => ∃ i, xs = [.int i] ∧ Q (.int (if i < 0 then -i else i)) H) := by
  intro pins s σ H xs us Q I r h
  obtain ⟨i, rfl, q⟩ := h
  obtain ⟨u, rfl, t, rfl⟩ := vals1 r
  exact call_abs_int fun u tk => ⟨.int (if i < 0 then -i else i), H, I.tok _, ⟨_, rfl⟩, q⟩
end
end L2
namespace L2
open PySem PySem.Spec PyProof.Rows
structure ObjM (h : Heap) (x dx C : Addr) (mA : Str → Option Value) : Prop where
  obj : h.get? x = some (PySem.W.instObj C dx)
  ns : h.Ns1 dx mA
  ne : dx ≠ x
theorem lookIn_ns {h : Heap} {dx : Addr} {mA : Str → Option Value} (n : h.Ns1 dx mA) : ∃ od, h.get? dx = some od ∧ ∀ name, PySem.W.lookIn name od = some (mA name) := by
  obtain ⟨o, es, ep, ho, hd, hk, _, hm⟩ := n
  refine ⟨o, ho, fun name => ?_⟩
  have e := hm name
  unfold nsFind findBy at e
  rw [← Array.find?_toList] at e
  unfold PySem.W.lookIn
  rw [hd]
  dsimp only
  split
  · rename_i y q
    rw [q] at e
    exact congrArg some e
  · rename_i q
    rw [q] at e
    have a : es.toList.any (·.refKey) = false := by
      rw [List.any_eq_false]
      intro y hy
      obtain ⟨z, t, hkey⟩ := hk y (Array.mem_toList_iff.mp hy)
      simp [DictEntry.refKey, hkey]
    have a' : ¬ es.toList.any (·.refKey) = true := by rw [a]; exact Bool.false_ne_true
    rw [if_neg a']
    exact congrArg some e
theorem ObjM.look {h : Heap} {x dx C : Addr} {mA : Str → Option Value} (I : ObjM h x dx C mA) : ∃ od, PySem.W.InstAt h x (PySem.W.instObj C dx) C (some od) ∧ ∀ name, PySem.W.lookIn name od = some (mA name) :=
  let ⟨od, ho, hl⟩ := lookIn_ns I.ns
  ⟨od, ⟨I.obj, rfl, rfl, ho⟩, hl⟩
section
variable {prog : Program} {w : World} {A : Around} {E : Value → Shared → Prop} {s : Shared} {K : PySem.W.Frag} {x dx C f : Addr} {mA : Str → Option Value} {name : Str} {v : Value}
theorem get_map {expr : Bool} {Q : Value → Shared → Prop} (X : K.In s.heap) (I : ObjM s.heap x dx C mA) (hg : PySem.W.plainGet K C name = true) (hh : PySem.W.hasDictIn K C = true)
    (ha : PySem.W.findIn K (.ref C) name = some none) (hv : mA name = some v) (hv' : PySem.W.handedIn v = true) (h : Q v { s with toks := s.toks + 1 }) :
    wpAny (model prog w) A (getAttr (.ref x) name expr) Q E s := by
  obtain ⟨od, J, hl⟩ := I.look
  exact PySem.W.get_value X J (PySem.W.plainGet_of hg).1 (PySem.W.findObj_own hh ha rfl (by rw [hl, hv])) hv' h
theorem get_meth {pl : Sem Bool} {Q : Value × List Value → Shared → Prop} (X : K.In s.heap) (I : ObjM s.heap x dx C mA) (hg : PySem.W.plainGet K C name = true)
    (hf : PySem.W.findIn K (.ref C) name = some (some (.ref f))) (ht : PySem.W.isFn K (.ref f) = true) (hv : mA name = none) (h : Q (.ref f, [.ref x]) s) :
    wpAny (model prog w) A (getMethod (.ref x) name pl) Q E s := by
  obtain ⟨od, J, hl⟩ := I.look
  exact PySem.W.method_fn X J (PySem.W.plainGet_of hg).1 (PySem.W.plainGet_of hg).2 hf (beq_iff_eq.mp ht) (by show (PySem.W.lookIn name od).map (·.isSome) = some false; rw [hl, hv]; rfl) h
theorem set_map {ns : List Str} {Q : Unit → Shared → Prop} (X : K.In s.heap) (I : ObjM s.heap x dx C mA)
    (hs : PySem.W.findIn K (.ref C) "__setattr__" = some (some (.builtin "object.__setattr__"))) (hp : PySem.W.plainOver K C = true) (ht : PySem.W.takerIn K C name = some none) (hh : PySem.W.hasDictIn K C = true)
    (hw : PySem.Within mA ns) (hsz : ns.length ≤ sizeLine)
    (h : ∀ h', ObjM h' x dx C (fun y => if y = name then some v else mA y) → Heap.SameBut dx s.heap h' → Q () { s with heap := h', toks := s.toks + 2 }) :
    wpAny (model prog w) A (setAttr (.ref x) name v) Q E s := by
  obtain ⟨od, J, hl⟩ := I.look
  refine PySem.W.set_plain X J hs (PySem.W.osa_open (s := { s with toks := s.toks + 1 }) (r := none) X J hp ht fun b => ?_)
  obtain ⟨cd, hc, hd'⟩ := PySem.W.any_some hh
  have hx : s.heap.get? x = some ⟨.ref C, some dx, .plain, #[]⟩ := I.obj
  refine wpAny_bind (wpAny_pure (wpAny_bind (wpAny_bind (wpAny_loadPart hx (wpAny_bind (PySem.W.Looks.here (s := { s with toks := s.toks + 1 }) (PySem.W.looks_clsIn X hc) ?_))))))
  rw [hd']
  refine wpAny_pure (a := some dx) (wpAny_bind (wpAny_pure (wpAny_bind ?_)))
  refine wpAny_nsSet1 (s := { s with toks := s.toks + 1 }) I.ns fun h' hn2 hs2 => ?_
  obtain ⟨oD, esD, epD, hoD, hdD, hcD⟩ := hn2.count (PySem.Within.cons name v hw)
  refine wpAny_bind (wpAny_lookBehind hoD (by rw [hdD]; exact pastItsLine_dict (Nat.le_trans hcD (by rw [List.length_cons]; omega))) ?_)
  exact wpAny_pure (h _ ⟨(hs2.2 _ (Ne.symm I.ne)).trans I.obj, hn2, I.ne⟩ hs2)
theorem make_map {R : Result → Shared → Prop} {vs : List Value} {kw : List (Str × Value)} (X : K.In s.heap) (hm : PySem.W.makesIn K C = true)
    (hi : PySem.W.findIn K (.ref C) "__init__" = some (some (.ref f))) (hf : PySem.W.typeIn K (.ref f) = some (.type "function"))
    (h : codeAny (model prog w) (A.under (.builtin "type.__call__" ⟨.ref C :: vs, kw⟩)) (.call (.ref f) ⟨.ref (s.heap.objs.size + 1) :: vs, kw⟩) (PySem.W.InitBack (s.heap.objs.size + 1) R)
      { s with heap := (s.heap.push PySem.W.emptyDict).push (PySem.W.instObj C s.heap.objs.size) }) :
    codeAny (model prog w) A (.call (.ref C) ⟨vs, kw⟩) R s := by
  obtain ⟨hh, g, d, t, os⟩ := s
  exact PySem.W.make_core (PySem.W.makes_of X hm) (PySem.W.looks_findIn X hi) (fun self => PySem.W.bind_fn X self hf) (.inl rfl) h
end
def putF (f : Str) (v : V) : List (Str × V) → List (Str × V)
  | [] => [(f, v)]
  | (g, x) :: r => if g = f then (g, v) :: r else (g, x) :: putF f v r
theorem lookup_putF (f g : Str) (v : V) : ∀ fs : List (Str × V), (putF f v fs).lookup g = if g = f then some v else fs.lookup g
  | [] => by
    show List.lookup g [(f, v)] = _
    by_cases h : g = f
    · have hb : (g == f) = true := beq_iff_eq.mpr h
      simp only [List.lookup, hb, if_pos h]
    · have hb : (g == f) = false := beq_eq_false_iff_ne.mpr h
      simp only [List.lookup, hb, if_neg h]
  | (k, x) :: r => by
    have ih := lookup_putF f g v r
    rw [show putF f v ((k, x) :: r) = (if k = f then (k, v) :: r else (k, x) :: putF f v r) from rfl]
    by_cases hk : k = f
    · rw [if_pos hk]
      by_cases h : g = k
      · have hb : (g == k) = true := beq_iff_eq.mpr h
        simp only [List.lookup, hb, if_pos (h.trans hk)]
      · have hb : (g == k) = false := beq_eq_false_iff_ne.mpr h
        simp only [List.lookup, hb, if_neg (fun e : g = f => h (e.trans hk.symm))]
    · rw [if_neg hk]
      by_cases h : g = k
      · have hb : (g == k) = true := beq_iff_eq.mpr h
        simp only [List.lookup, hb, if_neg (fun e : g = f => hk (h.symm.trans e))]
      · have hb : (g == k) = false := beq_eq_false_iff_ne.mpr h
        simp only [List.lookup, hb]
        exact ih
theorem keys_putF (f : Str) (v : V) : ∀ fs : List (Str × V), f ∈ (putF f v fs).map (·.1) ∧ ∀ g, g ∈ fs.map (·.1) → g ∈ (putF f v fs).map (·.1)
  | [] => ⟨by simp [putF], fun g h => by simp at h⟩
  | (k, x) :: r => by
    obtain ⟨i1, i2⟩ := keys_putF f v r
    rw [show putF f v ((k, x) :: r) = (if k = f then (k, v) :: r else (k, x) :: putF f v r) from rfl]
    by_cases hk : k = f
    · rw [if_pos hk]
      subst hk
      exact ⟨by simp, fun g h => by simpa using h⟩
    · rw [if_neg hk]
      refine ⟨?_, fun g h => ?_⟩
      · rw [List.map_cons]
        exact List.mem_cons_of_mem _ i1
      · rw [List.map_cons] at h ⊢
        rcases List.mem_cons.mp h with e | e
        · exact List.mem_cons.mpr (.inl e)
        · exact List.mem_cons_of_mem _ (i2 g e)
theorem length_putF (f : Str) (v : V) : ∀ fs : List (Str × V), (putF f v fs).length ≤ fs.length + 1
  | [] => by simp [putF]
  | (k, x) :: r => by
    have ih := length_putF f v r
    rw [show putF f v ((k, x) :: r) = (if k = f then (k, v) :: r else (k, x) :: putF f v r) from rfl]
    by_cases hk : k = f
    · rw [if_pos hk, List.length_cons, List.length_cons]; omega
    · rw [if_neg hk, List.length_cons, List.length_cons]; omega
theorem RelO.some_of {v : V} {o : Option Value} (r : RelO (some v) o) : ∃ u, o = some u ∧ RelV v u := by
  cases o with
  | none => exact (show False from r).elim
  | some u => exact ⟨u, rfl, r⟩
theorem RelO.none_of {o : Option Value} (r : RelO none o) : o = none := by
  cases o with
  | none => rfl
  | some u => exact (show False from r).elim
theorem handed_of {v : V} {u : Value} (r : RelV v u) : PySem.W.handedIn u = true := by
  cases v with
  | non => cases (show u = Value.none from r); rfl
  | bl b => cases (show u = Value.bool b from r); rfl
  | int i => obtain ⟨t, e⟩ := (show ∃ t, u = Value.int i t from r); cases e; rfl
  | str x => obtain ⟨t, e⟩ := (show ∃ t, u = Value.str x t from r); cases e; rfl
  | byt b => obtain ⟨t, e⟩ := (show ∃ t, u = Value.bytes b t from r); cases e; rfl
  | flt b => obtain ⟨t, e⟩ := (show ∃ t, u = Value.float b t from r); cases e; rfl
  | ref a => cases (show u = Value.ref a from r); rfl
  | ty n => cases (show u = Value.type n from r); rfl
section
variable {P : Program} {w : World} {H H' : Hp} {h h' : Heap} {a C dx : Addr} {fs fs' : List (Str × V)}
theorem ins_get (hok : HOk P w H h) (e : H a = some (.ins C dx fs)) : ∃ mA, ObjM h a dx C mA ∧ (∀ f, RelO (fs.lookup f) (mA f)) ∧ PySem.Within mA (fs.map (·.1)) ∧ fs.length ≤ 1000 ∧ H dx = some (.own a) := by
  obtain ⟨d, z, ne, ob, mA, n, r, q⟩ := (show ObjOk P w H h a (.ins C dx fs) from hok a _ e)
  exact ⟨mA, ⟨ob, n, ne⟩, r, q, z, d⟩
end
structure Cls (K : PySem.W.Frag) (C : Addr) : Prop where
  pg : PySem.W.plainGet K C Str.empty = true
  hd : PySem.W.hasDictIn K C = true
  po : PySem.W.plainOver K C = true
  sa : PySem.W.findIn K (.ref C) "__setattr__" = some (some (.builtin "object.__setattr__"))
theorem Cls.get {K : PySem.W.Frag} {C : Addr} (c : Cls K C) (f : Str) : PySem.W.plainGet K C f = true := c.pg
def NoAttr (K : PySem.W.Frag) (C : Addr) (f : Str) : Prop := PySem.W.findIn K (.ref C) f = some none
theorem NoAttr.taker {K : PySem.W.Frag} {C : Addr} {f : Str} (n : NoAttr K C f) : PySem.W.takerIn K C f = some none := by
  unfold PySem.W.takerIn
  rw [show PySem.W.findIn K (.ref C) f = some none from n]
  rfl
structure Meth (K : PySem.W.Frag) (C : Addr) (m : Str) (f : Addr) : Prop where
  at_ : PySem.W.findIn K (.ref C) m = some (some (.ref f))
  fn : PySem.W.isFn K (.ref f) = true
  kp : PySem.W.keepIn K (.ref f) = true
section
variable {X : Cx} {pins : List (Addr × Obj)} {σ : St} {H : Hp} {s : Shared} {a C dx : Addr} {fs : List (Str × V)} {f : Str} {v : V} {A : Around} {E : Value → Shared → Prop}
theorem getattr_ok {b : Bool} {Q : Value → Shared → Prop} (I : Inv X pins σ H s) (e : H a = some (.ins C dx fs)) (c : Cls X.K C) (n : NoAttr X.K C f) (l : fs.lookup f = some v)
    (h : ∀ u s', Inv X pins σ H s' → RelV v u → Q u s') : wpAny (model X.prog X.w) A (getAttr (.ref a) f b) Q E s := by
  obtain ⟨mA, O, r, _, _, _⟩ := ins_get I.hok e
  obtain ⟨u, hu, ru⟩ := RelO.some_of (v := v) (o := mA f) (by rw [← l]; exact r f)
  exact get_map I.kIn O (c.get f) c.hd n hu (handed_of ru) (h u _ (I.tok _) ru)
theorem getmeth_ok {m : Str} {g : Addr} {pl : Sem Bool} {Q : Value × List Value → Shared → Prop} (I : Inv X pins σ H s) (e : H a = some (.ins C dx fs)) (c : Cls X.K C) (k : Meth X.K C m g) (l : fs.lookup m = none)
    (h : Q (.ref g, [.ref a]) s) : wpAny (model X.prog X.w) A (getMethod (.ref a) m pl) Q E s := by
  obtain ⟨mA, O, r, _, _, _⟩ := ins_get I.hok e
  have hn : mA m = none := RelO.none_of (by rw [← l]; exact r m)
  exact get_meth I.kIn O (c.get m) k.at_ k.fn hn h
theorem setattr_ok {y : V} {u : Value} {Q : Unit → Shared → Prop} (I : Inv X pins σ H s) (e : H a = some (.ins C dx fs)) (c : Cls X.K C) (n : NoAttr X.K C f) (hl : fs.length < 1000) (ry : RelV y u)
    (h : ∀ s', Inv X pins σ (upd H a (.ins C dx (putF f y fs))) s' → Q () s') : wpAny (model X.prog X.w) A (setAttr (.ref a) f u) Q E s := by
  obtain ⟨mA, O, r, wi, _, ho⟩ := ins_get I.hok e
  have hz : (fs.map (·.1)).length ≤ sizeLine := by rw [List.length_map, sizeLine_eq]; omega
  refine set_map I.kIn O c.sa c.po n.taker c.hd wi hz fun h' O' sb => h _ ?_
  have hd : ∃ o, h'.get? dx = some o := let ⟨o, _, _, e', _⟩ := O'.ns; ⟨o, e'⟩
  refine I.write (x := a) (e := dx) (by rw [e]; exact True.intro) (.inr ho) (fun b q hb z => (sb.2 b hb).trans z) hd ?_
  refine ⟨by rw [upd_ne O.ne]; exact ho, ?_, O.ne, O'.obj, _, O'.ns, fun g => ?_, fun g hg => ?_⟩
  · have := length_putF f y fs; omega
  · show RelO ((putF f y fs).lookup g) (if g = f then some u else mA g)
    rw [lookup_putF]
    by_cases q : g = f
    · rw [if_pos q, if_pos q]; exact ry
    · rw [if_neg q, if_neg q]; exact r g
  · by_cases q : g = f
    · rw [q]; exact (keys_putF f y fs).1
    · refine (keys_putF f y fs).2 g (wi g fun z => hg ?_)
      show (if g = f then some u else mA g) = none
      rw [if_neg q]; exact z
theorem Inv.made (I : Inv X pins σ H s) : Inv X pins σ (upd (upd H s.heap.objs.size (.own (s.heap.objs.size + 1))) (s.heap.objs.size + 1) (.ins C s.heap.objs.size []))
    { s with heap := (s.heap.push PySem.W.emptyDict).push (PySem.W.instObj C s.heap.objs.size) } := by
  have e1 : (s.heap.push PySem.W.emptyDict).get? s.heap.objs.size = some PySem.W.emptyDict := Heap.get?_push_size s.heap rfl
  have e2 : ((s.heap.push PySem.W.emptyDict).push (PySem.W.instObj C s.heap.objs.size)).get? (s.heap.objs.size + 1) = some (PySem.W.instObj C s.heap.objs.size) := by
    have := Heap.get?_push_size (s.heap.push PySem.W.emptyDict) (o := PySem.W.instObj C s.heap.objs.size) rfl
    rwa [Heap.size_push] at this
  have e3 : (s.heap.push PySem.W.emptyDict).Ns s.heap.objs.size (fun _ => none) := ⟨PySem.W.emptyDict, #[], _, e1, rfl, (fun e he => absurd he (by simp)), fun _ => rfl⟩
  have I1 := I.laid (a := s.heap.objs.size) (o := .own (s.heap.objs.size + 1)) (h' := s.heap.push PySem.W.emptyDict) (t' := s.toks) (fun b u q => Heap.get?_push_of_some _ q) (Nat.le_refl _) ⟨_, e1⟩
  refine I1.laid (a := s.heap.objs.size + 1) (o := .ins C s.heap.objs.size []) (t' := s.toks) (fun b u q => Heap.get?_push_of_some _ q) (Nat.le_of_eq (Heap.size_push _ _)) ?_
  have ne : s.heap.objs.size ≠ s.heap.objs.size + 1 := Nat.ne_of_lt (Nat.lt_succ_self _)
  refine ⟨by rw [upd_ne ne, upd_same], Nat.zero_le _, ne, e2, fun _ => none, (Heap.Ns1.of_empty e3).at fun o q => Heap.get?_push_of_some _ q, fun _ => True.intro, fun y hy => absurd rfl hy⟩
theorem attr_of {prog : Program} {w : World} {env : Env} {e : Expr} {f : Str} {pos : Pos} {s : Shared} {Q : Value → Shared → Prop} (hb : attributeBase e f env (eval e env) = eval e env)
    (h : wpAny (model prog w) A (eval e env) (fun o s₁ => wpAny (model prog w) A (getAttr o f true) Q E s₁) E s) : wpAny (model prog w) A (eval (.Attribute e f pos) env) Q E s :=
  Attribute_any_ h (by rw [arm_eval_Attribute, hb])
end
def tFld (K : PySem.W.Frag) (ta : TE) (f : Str) : TE := fun σ H Q => ta σ H fun x H1 => ∃ a C dx fs v, x = .ref a ∧ H1 a = some (.ins C dx fs) ∧ Cls K C ∧ NoAttr K C f ∧ fs.lookup f = some v ∧ Q v H1
def sFld (K : PySem.W.Frag) (ta tv : TE) (f : Str) : TS := fun D σ H => tv σ H fun y H1 => ta σ H1 fun x H2 => ∃ a C dx fs, x = .ref a ∧ H2 a = some (.ins C dx fs) ∧ Cls K C ∧ NoAttr K C f ∧ fs.length < 1000 ∧
  D.nx σ (upd H2 a (.ins C dx (putF f y fs)))
section
variable {X : Cx} {o e value : Expr} {f : Str} {pos pos' tpos : Pos} {ta tv : TE}
theorem pe_fld (he : PE X e ta) (hb : attributeBase e f X.env (eval e X.env) = eval e X.env) : PE X (.Attribute e f pos) (tFld X.K ta f) := by
  intro pins s σ H Q I h
  refine attr_of hb (thn (he pins s σ H _ I h) fun u s1 ⟨x, H1, I1, rx, a, C, dx, fs, v, ex, ea, c, n, l, q⟩ => ?_)
  subst ex
  obtain rfl : u = Value.ref a := rx
  exact getattr_ok I1 ea c n l fun u' s2 I2 ru => ⟨v, H1, I2, ru, q⟩
theorem ps_fld (ha : PE X o ta) (hv : PE X value tv) (hs : swapsWith value (some (.Attribute o f pos')) pos.line X.env = pure false) : PS X (.Assign [.Attribute o f pos'] value pos) (sFld X.K ta tv f) := by
  intro pins s σ H D I h
  refine plainObj_wpAny_Assign_Attribute (thn (hv pins s σ H _ I h) fun u s1 ⟨y, H1, I1, ry, q⟩ => thn (ha pins s1 σ H1 _ I1 q) fun ov s2 ⟨x, H2, I2, rx, a, C, dx, fs, ex, ea, c, n, l, q2⟩ => ?_) hs
  subst ex
  obtain rfl : ov = Value.ref a := rx
  exact setattr_ok I2 ea c n l ry fun s3 I3 => ⟨σ, _, I3, q2⟩
end
end L2
namespace L2
open PySem PySem.Spec PyProof.Rows
structure Room (k : Nat) (A : Around) : Prop where
  hd : A.handled = none
  dp : A.depth + 3 * k + 5 < recursionLimit
  un : A.units + 16 * k + 200 < cLine
theorem Room.mono {j k : Nat} {A : Around} (r : Room k A) (h : j ≤ k) : Room j A := ⟨r.hd, by have := r.dp; omega, by have := r.un; omega⟩
theorem Room.deeper {k : Nat} {A : Around} (r : Room (k + 1) A) (env : Env) : Room k (A.deeper env) :=
  ⟨r.hd, by have := r.dp; show A.depth + 1 + 3 * k + 5 < _; omega, by have := r.un; show A.units + 3 + 16 * k + 200 < _; omega⟩
theorem make_depth {A : Around} {C : Addr} {us : List Value} {kw : List (Str × Value)} : (A.under (.builtin "type.__call__" ⟨.ref C :: us, kw⟩)).depth = A.depth + 1 := by
  first | rfl | simp [Around.under, Code.weight, Code.isCreation, Code.isGuard, Code.isCaller, Code.frames, Code.isFrame, guardIds]
theorem make_units {A : Around} {C : Addr} {us : List Value} {kw : List (Str × Value)} : (A.under (.builtin "type.__call__" ⟨.ref C :: us, kw⟩)).units = A.units + 1 := by
  first | rfl | simp [Around.under, Code.cUnits, Code.frames, Code.isFrame]
theorem Room.make {k : Nat} {A : Around} (r : Room (k + 1) A) (C : Addr) (us : List Value) (kw : List (Str × Value)) : Room k (A.under (.builtin "type.__call__" ⟨.ref C :: us, kw⟩)) :=
  ⟨r.hd, by have := r.dp; rw [make_depth]; omega, by have := r.un; rw [make_units]; omega⟩
theorem Room.depth {k : Nat} {A : Around} (r : Room k A) : A.depth < recursionLimit := by have := r.dp; omega
def tNil : TA := fun _ H Q => Q [] H
def tCons (ta : TE) (tr : TA) : TA := fun σ H Q => ta σ H fun x H1 => tr σ H1 fun xs H2 => Q (x :: xs) H2
section
variable {X : Cx} {e : Expr} {es : List Expr} {te : TE} {t : TA} {pos : Pos}
theorem pa_nil : PA X [] tNil := fun _ _ _ _ H Q I h => Calls.spliced_nil ⟨[], H, I, .nil, h⟩
theorem pa_cons (ha : PE X e te) (hr : PA X es t) (hs : starEach (e :: es) X.env = (false, eval e X.env) :: starEach es X.env := by rfl) : PA X (e :: es) (tCons te t) := by
  intro pos pins s σ H Q I h
  rw [hs]
  show wpAny _ _ (spliced ((false, eval e X.env) :: backTo pos (starEach es X.env))) _ _ s
  refine Calls.spliced_cons (thn (ha pins s σ H _ I h) fun u s1 ⟨x, H1, I1, r1, q1⟩ => ?_)
  exact thn (hr pos pins s1 σ H1 _ I1 q1) fun us s2 ⟨xs, H2, I2, r2, q2⟩ => ⟨x :: xs, H2, I2, .cons r1 r2, q2⟩
def tLst (t : TA) : TE := fun σ H Q => t σ H fun xs H1 => xs.length ≤ sizeLine ∧ ∀ p, H1 p = none → Q (.ref p) (upd H1 p (.lst xs))
theorem pe_lst (h : PA X es t) : PE X (.List es pos) (tLst t) := by
  intro pins s σ H Q I hq
  refine wpAny_List_spliced (thn (h pos pins s σ H _ I hq) fun us s1 ⟨xs, H1, I1, r, z, q⟩ => ⟨by rw [← r.length]; exact z, ?_⟩)
  have hf : H1 s1.heap.objs.size = none := I1.hok.fresh (Nat.le_refl _)
  refine ⟨.ref s1.heap.objs.size, upd H1 s1.heap.objs.size (.lst xs), I1.laid (t' := s1.toks) (fun b u e => Heap.get?_push_of_some _ e) (Nat.le_refl _) ?_, rfl, q _ hf⟩
  exact ⟨z, us, 0, r, Heap.get?_push_size _ rfl⟩
end
abbrev Sp := List V → Hp → VK → XK → Prop
abbrev CXT := List Env → Hp → Shared → XK → Value → Shared → Prop
structure Env0 (P : Program) (w : World) (K : PySem.W.Frag) (mg : Str → Option Value) (base : Heap) (A : Around) (outer : List Env) (s : Shared) (H : Hp) : Prop where
  frames : A.frames = some outer
  mod : Mod K mg base
  bs : ∀ b o, base.get? b = some o → s.heap.get? b = some o ∧ H b = none
  bsz : base.objs.size ≤ s.heap.objs.size
  funs : s.heap.FunFrames base outer
  frf : ∀ b ∈ frs outer, H b = none
  hok : HOk P w H s.heap
  bare : AllBare s.gens
def CE (outer : List Env) (P : Program) (w : World) (H : Hp) (s : Shared) (Q : VK) (u : Value) (s' : Shared) : Prop :=
  ∃ v H', s'.os = s.os ∧ AllBare s'.gens ∧ Un (frs outer) [] H H' s.heap s'.heap ∧ HOk P w H' s'.heap ∧ RelV v u ∧ Q v H'
def CR (CX : CXT) (outer : List Env) (P : Program) (w : World) (H : Hp) (s : Shared) (Q : VK) (E : XK) (r : Result) (s' : Shared) : Prop :=
  match r with
  | .ok (.ret u) => CE outer P w H s Q u s'
  | .ok _ => False
  | .error e => CX outer H s E e s'
structure FnOk (P : Program) (w : World) (K : PySem.W.Frag) (mg : Str → Option Value) (base : Heap) (CX : CXT) (k : Nat) (f : Addr) (fd : FuncData) (ps : List Str) (sp : Sp) : Prop where
  len : ∀ vs H Q E, sp vs H Q E → vs.length = ps.length
  run : ∀ (A : Around) (outer : List Env) (s : Shared) (H : Hp) (args : Args) (us : List Value) (vs : List V) (Q : VK) (E : XK), Room k A → Env0 P w K mg base A outer s H → BindsTo s fd args (ps.zip us) → Vals vs us → sp vs H Q E →
    codeAny (model P w) A (.call (.ref f) args) (CR CX outer P w H s Q E) s
theorem Env0.make {P : Program} {w : World} {K : PySem.W.Frag} {mg : Str → Option Value} {base : Heap} {A : Around} {outer : List Env} {s : Shared} {H : Hp} (e : Env0 P w K mg base A outer s H) (C : Addr) (us : List Value) (kw : List (Str × Value)) :
    Env0 P w K mg base (A.under (.builtin "type.__call__" ⟨.ref C :: us, kw⟩)) outer s H := ⟨by first | exact e.frames | (simpa [Around.under, Code.envs, Code.isFrame, pushEnvs] using e.frames), e.mod, e.bs, e.bsz, e.funs, e.frf, e.hok, e.bare⟩
section
variable {X : Cx} {pins : List (Addr × Obj)} {σ : St} {H : Hp} {s s' : Shared}
theorem Inv.env0 (I : Inv X pins σ H s) : Env0 X.prog X.w X.K X.mg X.base X.A X.stack s H :=
  ⟨I.ok.frames, I.ok.mod, I.bs, Nat.le_trans I.ok.bsz I.sz, I.stack, I.stkFree, I.hok, I.bare⟩
theorem Inv.after {Q : VK} {u : Value} (I : Inv X pins σ H s) (h : CE X.stack X.prog X.w H s Q u s') : EP X pins σ Q u s' := by
  obtain ⟨v, H', os, bare, un, hok, r, q⟩ := h
  obtain ⟨hh, g, d, t, os'⟩ := s'
  obtain rfl : os' = s.os := os
  exact ⟨v, H', I.call (h' := hh) (g' := g) (d' := d) (t' := t) (ch := []) un hok bare (fun b z => absurd z (by simp)), r, q⟩
end
def tCall (sp : Sp) (dvs : List V) (E : XK) (t : TA) : TE := fun σ H Q => t σ H fun vs H1 => sp (vs ++ dvs) H1 Q E
def tMeth (C : Addr) (m : Str) (sp : Sp) (dvs : List V) (E : XK) (ta : TE) (t : TA) : TE := fun σ H Q => ta σ H fun x H1 => ∃ a dx fs, x = .ref a ∧ H1 a = some (.ins C dx fs) ∧ fs.lookup m = none ∧
  t σ H1 fun vs H2 => sp (x :: (vs ++ dvs)) H2 Q E
def tMake (C : Addr) (sp : Sp) (dvs : List V) (E : XK) (t : TA) : TE := fun σ H Q => t σ H fun vs H1 => ∀ x dx, H1 x = none → H1 dx = none → dx ≠ x →
  sp (.ref x :: (vs ++ dvs)) (upd (upd H1 dx (.own x)) x (.ins C dx [])) (fun v H2 => v = .non ∧ Q (.ref x) H2) E
def Binds (K : PySem.W.Frag) (fd : FuncData) (ps : List Str) (ds : List Value) : Prop :=
  ∀ (s : Shared) (us : List Value), K.In s.heap → (us ++ ds).length = ps.length → BindsTo s fd ⟨us, []⟩ (ps.zip (us ++ ds))
theorem Binds.all {K : PySem.W.Frag} {fd : FuncData} {ps : List Str} (h : ∀ us : List Value, us.length = ps.length → bindArgs fd ⟨us, []⟩ = pure (ps.zip us)) : Binds K fd ps [] := fun s us _ hl => by
  rw [List.append_nil] at hl ⊢
  exact .of_eq (h us hl)
def Passes (CX : CXT) (X : Cx) (E : XK) : Prop := ∀ (pins : List (Addr × Obj)) (σ : St) (H : Hp) (s : Shared) (e : Value) (s' : Shared), Inv X pins σ H s → CX X.stack H s E e s' → X.xe e s'
section
variable {X : Cx} {CX : CXT} {k : Nat} {f C : Addr} {fd : FuncData} {ps : List Str} {sp : Sp} {dvs : List V} {ds : List Value} {E : XK} {x m : Str} {p pos apos : Pos} {e o : Expr} {es : List Expr} {ta : TE} {t : TA}
theorem run_fn {pins : List (Addr × Obj)} {σ : St} {H : Hp} {s : Shared} {Q : VK} {us : List Value} {vs : List V} (F : FnOk X.prog X.w X.K X.mg X.base CX k f fd ps sp) (hr : Room k X.A) (hb : Binds X.K fd ps ds) (hd : Vals dvs ds) (hx : Passes CX X E)
    (I : Inv X pins σ H s) (r : Vals vs us) (h : sp (vs ++ dvs) H Q E) : wpAny (model X.prog X.w) X.A (call (.ref f) us) (EP X pins σ Q) X.xe s := by
  have r2 : Vals (vs ++ dvs) (us ++ ds) := r.append hd
  have hl : (us ++ ds).length = ps.length := by rw [← r2.length]; exact F.len _ _ _ _ h
  refine wpAny_call (codeAny_mono (F.run X.A X.stack s H ⟨us, []⟩ (us ++ ds) (vs ++ dvs) Q E hr I.env0 (hb s us I.kIn hl) r2 h) fun r s' hq => ?_)
  cases r with
  | error e => exact hx pins σ H s e s' I hq
  | ok fl =>
    cases fl with
    | ret u => exact I.after hq
    | next => exact False.elim hq
    | brk => exact False.elim hq
    | cont => exact False.elim hq
theorem pe_call (F : FnOk X.prog X.w X.K X.mg X.base CX k f fd ps sp) (hr : Room k X.A) (hg : Gl X x) (hm : X.mg x = some (.ref f)) (hk : PySem.W.keepIn X.K (.ref f) = true) (hb : Binds X.K fd ps ds) (hd : Vals dvs ds) (hx : Passes CX X E)
    (ha : PA X (e :: es) t) (hdb : (x == ("__debug__" : Str)) = false := by decide) (he : starEach (e :: es) X.env = (false, eval e X.env) :: starEach es X.env := by rfl) (hpl : (backTo pos (starEach es X.env)).any (·.1) = false := by rfl) :
    PE X (.Call (.Name x p) (e :: es) [] pos) (tCall sp dvs E t) := by
  intro pins s σ H Q I h
  refine wpAny_Call_Name_kw (ld_glob I hg hm ?_ hdb)
  refine PySem.W.callWith_K (h₀ := X.base) I.ok.mod.kin hk (thn (ha pos pins s σ H _ I h) fun us s1 ⟨vs, H1, I1, r, q⟩ => ⟨I1.kIn, ?_⟩) he hpl
  exact run_fn F hr hb hd hx I1 r q
theorem pe_meth {pl : Sem Bool} (he : PE X o ta) (c : Cls X.K C) (hm : Meth X.K C m f) (F : FnOk X.prog X.w X.K X.mg X.base CX k f fd ps sp) (hr : Room k X.A) (hb : Binds X.K fd ps ds) (hd : Vals dvs ds) (hx : Passes CX X E) (ha : PA X (e :: es) t)
    (hst : starEach (e :: es) X.env = (false, eval e X.env) :: starEach es X.env := by rfl) (hpl : (backTo pos (starEach es X.env)).any (·.1) = false := by rfl)
    (ht : eval (.Call (.Attribute o m apos) (e :: es) [] pos) X.env = (do
      let ov ← eval o X.env
      standAt apos.atName
      let (f, first) ← holding [ov] (getMethod ov m pl)
      callWith pos f first (backTo pos (starEach (e :: es) X.env)) (backToKw pos (keywordEach [] X.env))) := by rfl) :
    PE X (.Call (.Attribute o m apos) (e :: es) [] pos) (tMeth C m sp dvs E ta t) := by
  intro pins s σ H Q I h
  refine PySem.W.methodCall_KW (pl := pl) (thn (he pins s σ H _ I h) fun u s1 ⟨x, H1, I1, rx, a, dx, fs, ex, ea, l, q⟩ => ?_) ht
  subst ex
  obtain rfl : u = Value.ref a := rx
  refine getmeth_ok I1 ea c hm l ?_
  refine PySem.W.callWith_K (first := [.ref a]) (h₀ := X.base) I.ok.mod.kin hm.kp (thn (ha pos pins s1 σ H1 _ I1 q) fun us s2 ⟨vs, H2, I2, r, q2⟩ => ⟨I2.kIn, ?_⟩) hst hpl
  exact run_fn (us := .ref a :: us) (vs := .ref a :: vs) F hr hb hd hx I2 (.cons rfl r) q2
theorem pe_meth0 {pl : Sem Bool} (he : PE X o ta) (c : Cls X.K C) (hm : Meth X.K C m f) (F : FnOk X.prog X.w X.K X.mg X.base CX k f fd ps sp) (hr : Room k X.A) (hb : Binds X.K fd ps ds) (hd : Vals dvs ds) (hx : Passes CX X E)
    (ht : eval (.Call (.Attribute o m apos) [] [] pos) X.env = (do
      let ov ← eval o X.env
      standAt apos.atName
      let (f, first) ← holding [ov] (getMethod ov m pl)
      callWith pos f first (backTo pos (starEach [] X.env)) (backToKw pos (keywordEach [] X.env))) := by rfl) :
    PE X (.Call (.Attribute o m apos) [] [] pos) (tMeth C m sp dvs E ta tNil) := by
  intro pins s σ H Q I h
  refine PySem.W.methodCall_KW (pl := pl) (thn (he pins s σ H _ I h) fun u s1 ⟨x, H1, I1, rx, a, dx, fs, ex, ea, l, q⟩ => ?_) ht
  subst ex
  obtain rfl : u = Value.ref a := rx
  refine getmeth_ok I1 ea c hm l ?_
  exact PySem.W.callWith_K0 (first := [.ref a]) I1.kIn hm.kp (run_fn (us := [.ref a]) (vs := [.ref a]) F hr hb hd hx I1 (.cons rfl .nil) q)
structure Mk (K : PySem.W.Frag) (C f : Addr) : Prop where
  makes : PySem.W.makesIn K C = true
  init : PySem.W.findIn K (.ref C) "__init__" = some (some (.ref f))
  fn : PySem.W.isFn K (.ref f) = true
  kp : PySem.W.keepIn K (.ref C) = true
theorem run_make {pins : List (Addr × Obj)} {σ : St} {H : Hp} {s : Shared} {Q : VK} {us : List Value} {vs : List V} (M : Mk X.K C f) (F : FnOk X.prog X.w X.K X.mg X.base CX k f fd ps sp) (hr : Room (k + 1) X.A) (hb : Binds X.K fd ps ds) (hd : Vals dvs ds)
    (hx : Passes CX X E) (I : Inv X pins σ H s) (r : Vals vs us)
    (h : ∀ x dx, H x = none → H dx = none → dx ≠ x → sp (.ref x :: (vs ++ dvs)) (upd (upd H dx (.own x)) x (.ins C dx [])) (fun v H2 => v = .non ∧ Q (.ref x) H2) E) :
    wpAny (model X.prog X.w) X.A (call (.ref C) us) (EP X pins σ Q) X.xe s := by
  have hq := h (s.heap.objs.size + 1) s.heap.objs.size (I.hok.fresh (Nat.le_succ _)) (I.hok.fresh (Nat.le_refl _)) (Nat.ne_of_lt (Nat.lt_succ_self _))
  have I2 := Inv.made (C := C) I
  have r2 : Vals (V.ref (s.heap.objs.size + 1) :: (vs ++ dvs)) (Value.ref (s.heap.objs.size + 1) :: (us ++ ds)) := .cons rfl (r.append hd)
  have hl : (Value.ref (s.heap.objs.size + 1) :: us ++ ds).length = ps.length := by
    have e := r2.length
    rw [F.len _ _ _ _ hq] at e
    exact e.symm
  refine wpAny_call (make_map (f := f) I.kIn M.makes M.init (beq_iff_eq.mp M.fn) (codeAny_mono (F.run _ X.stack _ _ ⟨Value.ref (s.heap.objs.size + 1) :: us, []⟩ (Value.ref (s.heap.objs.size + 1) :: (us ++ ds)) _ _ E (hr.make C us [])
    (I2.env0.make C us []) (hb _ (Value.ref (s.heap.objs.size + 1) :: us) I2.kIn hl) r2 hq) fun r s' hq' => ?_))
  cases r with
  | error e => exact hx pins σ _ _ e s' I2 hq'
  | ok fl =>
    cases fl with
    | ret u =>
      obtain ⟨v, H', I3, rv, ev, q3⟩ := I2.after hq'
      subst ev
      exact ⟨rv, ⟨V.ref (s.heap.objs.size + 1), H', I3, rfl, q3⟩⟩
    | next => exact False.elim hq'
    | brk => exact False.elim hq'
    | cont => exact False.elim hq'
theorem pe_make (M : Mk X.K C f) (F : FnOk X.prog X.w X.K X.mg X.base CX k f fd ps sp) (hr : Room (k + 1) X.A) (hg : Gl X x) (hm : X.mg x = some (.ref C)) (hb : Binds X.K fd ps ds) (hd : Vals dvs ds) (hx : Passes CX X E)
    (ha : PA X (e :: es) t) (hdb : (x == ("__debug__" : Str)) = false := by decide) (he : starEach (e :: es) X.env = (false, eval e X.env) :: starEach es X.env := by rfl) (hpl : (backTo pos (starEach es X.env)).any (·.1) = false := by rfl) :
    PE X (.Call (.Name x p) (e :: es) [] pos) (tMake C sp dvs E t) := by
  intro pins s σ H Q I h
  refine wpAny_Call_Name_kw (ld_glob I hg hm ?_ hdb)
  refine PySem.W.callWith_K (h₀ := X.base) I.ok.mod.kin M.kp (thn (ha pos pins s σ H _ I h) fun us s1 ⟨vs, H1, I1, r, q⟩ => ⟨I1.kIn, ?_⟩) he hpl
  exact run_make M F hr hb hd hx I1 r q
theorem pe_make0 (M : Mk X.K C f) (F : FnOk X.prog X.w X.K X.mg X.base CX k f fd ps sp) (hr : Room (k + 1) X.A) (hg : Gl X x) (hm : X.mg x = some (.ref C)) (hb : Binds X.K fd ps ds) (hd : Vals dvs ds) (hx : Passes CX X E)
    (hdb : (x == ("__debug__" : Str)) = false := by decide) : PE X (.Call (.Name x p) [] [] pos) (tMake C sp dvs E tNil) := by
  intro pins s σ H Q I h
  refine wpAny_Call_Name_kw (ld_glob I hg hm ?_ hdb)
  exact PySem.W.callWith_K0 I.kIn M.kp (run_make (us := []) M F hr hb hd hx I .nil h)
end
structure FnScope (N P : List Str) (sc : Scope) : Prop where
  kind : sc.kind = .function
  co : sc.isCoroutine = false
  gen : sc.isGenerator = false
  nd : N.Nodup
  pre : N.take P.length = P
  par : ∀ x ∈ P, sc.names.lookup x = some .local ∨ sc.names.lookup x = some .cell
  nofree : ∀ y ∈ sc.names, y.2 ≠ .free
theorem bindL_out {kindOf : Str → Option NameKind} {x : Str} : ∀ {binds : List (Str × Value)} {m : Str → Option Value}, (∀ v, (x, v) ∉ binds) → bindL kindOf binds m x = m x
  | [], _, _ => rfl
  | (n, v) :: r, m, h => by
    unfold bindL
    rw [bindL_out fun w hw => h w (List.mem_cons_of_mem _ hw)]
    split
    · have : x ≠ n := by rintro rfl; exact h v List.mem_cons_self
      simp [this]
    · rfl
theorem bindC_out {kindOf : Str → Option NameKind} {x : Str} : ∀ {binds : List (Str × Value)} {m : Str → Option Value}, (∀ v, (x, v) ∉ binds) → bindC kindOf binds m x = m x
  | [], _, _ => rfl
  | (n, v) :: r, m, h => by
    unfold bindC
    rw [bindC_out fun w hw => h w (List.mem_cons_of_mem _ hw)]
    split
    · rfl
    · have : x ≠ n := by rintro rfl; exact h v List.mem_cons_self
      simp [this]
theorem bindL_get {kindOf : Str → Option NameKind} {x : Str} {v : Value} : ∀ {P : List Str} {vs : List Value} {i : Nat} {m : Str → Option Value}, P.Nodup → P[i]? = some x → vs[i]? = some v → kindOf x = some .local →
    bindL kindOf (P.zip vs) m x = some v
  | [], _, _, _, _, h, _, _ => by simp at h
  | _ :: _, [], _, _, _, _, h, _ => by simp at h
  | p :: P, w :: vs, 0, m, nd, h1, h2, hk => by
    simp at h1 h2; subst h1; subst h2
    show bindL kindOf ((p, w) :: P.zip vs) m p = _
    unfold bindL
    rw [bindL_out fun v hv => (List.nodup_cons.mp nd).1 (List.of_mem_zip hv).1, if_pos hk]
    simp
  | p :: P, w :: vs, i + 1, m, nd, h1, h2, hk => by
    show bindL kindOf ((p, w) :: P.zip vs) m x = _
    unfold bindL
    exact bindL_get (i := i) (List.nodup_cons.mp nd).2 (by simpa using h1) (by simpa using h2) hk
theorem bindC_get {kindOf : Str → Option NameKind} {x : Str} {v : Value} : ∀ {P : List Str} {vs : List Value} {i : Nat} {m : Str → Option Value}, P.Nodup → P[i]? = some x → vs[i]? = some v → kindOf x ≠ some .local →
    bindC kindOf (P.zip vs) m x = some v
  | [], _, _, _, _, h, _, _ => by simp at h
  | _ :: _, [], _, _, _, _, h, _ => by simp at h
  | p :: P, w :: vs, 0, m, nd, h1, h2, hk => by
    simp at h1 h2; subst h1; subst h2
    show bindC kindOf ((p, w) :: P.zip vs) m p = _
    unfold bindC
    rw [bindC_out fun v hv => (List.nodup_cons.mp nd).1 (List.of_mem_zip hv).1, if_neg hk]
    simp
  | p :: P, w :: vs, i + 1, m, nd, h1, h2, hk => by
    show bindC kindOf ((p, w) :: P.zip vs) m x = _
    unfold bindC
    exact bindC_get (i := i) (List.nodup_cons.mp nd).2 (by simpa using h1) (by simpa using h2) hk
def start (N : List Str) (vs : List V) : St := vs.map some ++ List.replicate (N.length - vs.length) none
def cxOf (CX : CXT) (P : Program) (w : World) (K : PySem.W.Frag) (mg : Str → Option Value) (base : Heap) (N : List Str) (qual : Str) (scope : Scope) (f : Addr) (cd : Value) (A : Around) (outer : List Env) (s : Shared) (H : Hp) (E : XK) : Cx where
  prog := P
  w := w
  K := K
  mg := mg
  base := base
  A := A.deeper (envOfC qual scope s.heap.objs.size f cd)
  N := N
  s_0 := s
  H_0 := H
  env := envOfC qual scope s.heap.objs.size f cd
  outer := outer
  stack := envOfC qual scope s.heap.objs.size f cd :: outer
  ex := []
  calm := true
  fn := fun _ => true
  pn := []
  xe := fun e s' => wpAny (model P w) (A.deeper (envOfC qual scope s.heap.objs.size f cd)) (leaving (envOfC qual scope s.heap.objs.size f cd) e) (fun _ s'' => CX outer H s E e s'') (fun e' s'' => CX outer H s E e' s'') s'
theorem cell_has {sc : Scope} {n : Nat} {x : Str} (h : sc.names.lookup x = some .cell) : ∃ c, (cellsFrom n sc.names []).lookup x = some c := by
  have q := PySem.W.cellsFrom_some sc.names n [] (.inl h)
  exact Option.isSome_iff_exists.mp q
theorem inv_start {CX : CXT} {P : Program} {w : World} {K : PySem.W.Frag} {mg : Str → Option Value} {base : Heap} {N ps : List Str} {qual : Str} {scope : Scope} {f : Addr} {cd : Value} {A : Around} {outer : List Env} {s s1 : Shared} {H : Hp} {E : XK} {us : List Value} {vs : List V}
    (S : FnScope N ps scope) (hd : A.handled = none) (e0 : Env0 P w K mg base A outer s H) (hl : vs.length = ps.length) (r : Vals vs us)
    (x : InCallC s s.heap.objs.size (bindL (envOfC qual scope s.heap.objs.size f cd).kindOf (ps.zip us) fun _ => none) (cellsFrom (s.heap.objs.size + 1) scope.names []) (bindC (envOfC qual scope s.heap.objs.size f cd).kindOf (ps.zip us) fun _ => none) s1) :
    Inv (cxOf CX P w K mg base N qual scope f cd A outer s H E) [] (start N vs) H s1 := by
  have hpl : ps.length ≤ N.length := by have := congrArg List.length S.pre; rw [List.length_take] at this; omega
  obtain ⟨h1, tk, rfl, hk⟩ := x.done
  have noA : ∀ b : Addr, b ∉ (cxOf CX P w K mg base N qual scope f cd A outer s H E).ex := fun b z => absurd (show b ∈ ([] : List Addr) from z) (by simp)
  refine ⟨⟨e0.mod, S.kind, rfl, rfl, Nat.le_refl _, fun y z c h1 h2 => ?_, fun y hy => ?_, fun y c _ h => ?_, fun _ => hd, Around.frames_deeper e0.frames, .inr ⟨rfl, rfl⟩, fun b z => absurd z (noA b), e0.bs, e0.bsz, fun b _ _ => noA b, fun b z => absurd z (noA b), e0.funs, e0.frf⟩,
    rfl, e0.bare, Un.kept hk, ⟨_, x.toInCall.ns, fun i y v h1 h2 h3 => ?_⟩, fun y c h => ⟨_, x.cell y c h⟩, e0.hok.fresh (Nat.le_refl _), fun y c h => ?_, fun p hp => absurd (show p ∈ ([] : List (Addr × Obj)) from hp) (by simp), e0.hok.kept hk, ?_⟩
  · exact name_of_addr x.apart (PySem.mem_of_lookup h1) (PySem.mem_of_lookup h2)
  · have hy : scope.names.lookup y = some .cell ∨ scope.names.lookup y = some .free := hy
    rcases hy with hy | hy
    · exact cell_has hy
    · exact absurd rfl (S.nofree _ (PySem.mem_of_lookup hy))
  · exact Nat.le_of_lt (x.above y c (PySem.mem_of_lookup h))
  · have hi : i < vs.length := by
      unfold start at h2
      by_cases hi : i < vs.length
      · exact hi
      · rw [List.getElem?_append_right (by simpa using hi)] at h2
        rw [List.getElem?_replicate] at h2
        split at h2 <;> cases h2
    have ha : vs[i]? = some v := by
      unfold start at h2
      rw [List.getElem?_append_left (by simpa using hi), List.getElem?_map] at h2
      cases e : vs[i]? with
      | none => rw [e] at h2; cases h2
      | some a => rw [e] at h2; cases h2; rfl
    obtain ⟨u, hu, rv⟩ := r.get ha
    have hp : ps[i]? = some y := by
      rw [← S.pre, List.getElem?_take_of_lt (by omega)]; exact h1
    have ndP : ps.Nodup := by rw [← S.pre]; exact S.nd.sublist (List.take_sublist _ _)
    refine ⟨u, rv, ?_⟩
    rcases S.par y (List.mem_of_getElem? hp) with k | k
    · exact .inl ⟨k, bindL_get ndP hp hu k⟩
    · obtain ⟨c, e⟩ := cell_has (n := s.heap.objs.size + 1) k
      refine .inr ⟨.inl k, c, e, ?_⟩
      have q := x.cell y c e
      rw [bindC_get ndP hp hu (by show scope.names.lookup y ≠ _; rw [k]; decide)] at q
      exact q
  · exact e0.hok.fresh (Nat.le_of_lt (x.above y c (PySem.mem_of_lookup h)))
  · unfold start
    show _ = N.length
    rw [List.length_append, List.length_map, List.length_replicate]
    omega
theorem fn_of {CX : CXT} {P : Program} {w : World} {K : PySem.W.Frag} {mg : Str → Option Value} {base : Heap} {k : Nat} {f : Addr} {name qual : Str} {params : Arguments} {body : List Stmt} {scope : Scope} {dV kV doc pm cdv ct oc : Value} {an od : Option Addr}
    {osl : Array (Option Value)} {N ps : List Str} {sp : Sp} (lk : K.lookup f = some ⟨oc, od, .func (PySem.W.fnOf name qual params body scope dV kV doc pm an cdv ct), osl⟩) (hcd : PySem.W.codeIn K cdv qual = true) (S : FnScope N ps scope)
    (len : ∀ vs H Q E, sp vs H Q E → vs.length = ps.length)
    (hbody : ∀ (A : Around) (outer : List Env) (s : Shared) (H : Hp) (vs : List V) (Q : VK) (E : XK), Room k (A.deeper (envOfC qual scope s.heap.objs.size f cdv)) → sp vs H Q E →
      ∃ t, PSs (cxOf CX P w K mg base N qual scope f cdv A outer s H E) body t ∧ t { nx := fun _ H' => Q .non H', rt := Q } (start N vs) H) :
    FnOk P w K mg base CX (k + 1) f (PySem.W.fnOf name qual params body scope dV kV doc pm an cdv ct) ps sp := by
  refine ⟨len, fun A outer s H args us vs Q E hr e0 hb r hsp => ?_⟩
  have hl := len _ _ _ _ hsp
  have KX : K.In s.heap := e0.mod.kin.keeps fun b o e => (e0.bs b o e).1
  have lim : s.heap.NoLimit := e0.mod.nolimit.keeps fun b o e => (e0.bs b o e).1
  have hkind : ∀ y ∈ ps.zip us, scope.names.lookup y.1 = some .local ∨ (scope.names.lookup y.1 = some .cell ∧ ((cellsFrom (s.heap.objs.size + 1) scope.names []).lookup y.1).isSome = true) := fun ⟨n, v⟩ hy => by
    rcases S.par n (List.of_mem_zip hy).1 with q | q
    · exact .inl q
    · exact .inr ⟨q, PySem.W.cellsFrom_some _ _ _ (.inl q)⟩
  refine codeAny_call_function hr.depth (KX _ _ lk) rfl S.co S.gen rfl (PySem.W.codeRec_of KX hcd) (hb _ _ _ _ ?_)
  refine wpAny_newFunctionEnv_cells S.kind hkind fun env he s1 x => ?_
  subst he
  refine ⟨lim.keeps x.toInCall.keep, codeAny_func ?_⟩
  obtain ⟨t, ht, hq⟩ := hbody A outer s H vs Q E (hr.deeper _) hsp
  have I : Inv (cxOf CX P w K mg base N qual scope f cdv A outer s H E) [] (start N vs) H s1 := inv_start S hr.hd e0 hl r x
  refine wpAny_mono (ht [] s1 (start N vs) H _ I hq) (fun fl s' hs => ?_) fun e s' hs => hs
  have fin : ∀ {σ' : St} {H' : Hp} {v : V} {u : Value}, Inv (cxOf CX P w K mg base N qual scope f cdv A outer s H E) [] σ' H' s' → RelV v u → Q v H' → CE outer P w H s Q u s' :=
    fun {σ' H' v u} J rv q => ⟨v, H', J.os, J.bare, J.base, J.hok, rv, q⟩
  cases fl with
  | ret u =>
    obtain ⟨v, σ', H', J, rv, q⟩ := hs
    exact fin J rv q
  | next =>
    obtain ⟨σ', H', J, q⟩ := hs
    exact fin (v := V.non) (u := Value.none) J rfl q
  | brk =>
    obtain ⟨_, _, _, q⟩ := hs
    exact False.elim q
  | cont =>
    obtain ⟨_, _, _, q⟩ := hs
    exact False.elim q
end L2
namespace L2
open PySem PySem.Spec PyProof.Rows
section
variable {X : Cx} {x : Str} {p pos : Pos} {e : Expr} {es : List Expr} {t : TA} {id T : String} {r : List V → Hp → VK → Prop}
def tCB (r : List V → Hp → VK → Prop) (t : TA) : TE := fun σ H Q => t σ H fun vs H1 => r vs H1 Q
theorem pe_callB (hc : CallR X (.builtin id) r) (hg : Gl X x) (hm : X.mg x = none) (hv : bootBuiltins x = some (.builtin id)) (ha : PA X (e :: es) t) (hn : x ≠ "__name__" := by decide) (hdb : (x == ("__debug__" : Str)) = false := by decide)
    (he : starEach (e :: es) X.env = (false, eval e X.env) :: starEach es X.env := by rfl) (hpl : (backTo pos (starEach es X.env)).any (·.1) = false := by rfl) : PE X (.Call (.Name x p) (e :: es) [] pos) (tCB r t) := by
  intro pins s σ H Q I h
  refine wpAny_Call_Name_kw (ld_blt I hg hm hv ?_ hn hdb)
  exact PyProof.Rows.callWith_builtin1 (thn (ha pos pins s σ H _ I h) fun us s1 ⟨vs, H1, I1, r1, q1⟩ => hc pins s1 σ H1 vs us Q I1 r1 q1) he hpl
theorem pe_callTy (hc : CallR X (.type T) r) (hg : Gl X x) (hm : X.mg x = none) (hv : bootBuiltins x = some (.type T)) (ha : PA X (e :: es) t) (hn : x ≠ "__name__" := by decide) (hdb : (x == ("__debug__" : Str)) = false := by decide)
    (he : starEach (e :: es) X.env = (false, eval e X.env) :: starEach es X.env := by rfl) (hpl : (backTo pos (starEach es X.env)).any (·.1) = false := by rfl) : PE X (.Call (.Name x p) (e :: es) [] pos) (tCB r t) := by
  intro pins s σ H Q I h
  refine wpAny_Call_Name_kw (ld_blt I hg hm hv ?_ hn hdb)
  exact PyProof.Rows.callWith_type1 (thn (ha pos pins s σ H _ I h) fun us s1 ⟨vs, H1, I1, r1, q1⟩ => hc pins s1 σ H1 vs us Q I1 r1 q1) he hpl
end
end L2
namespace HT
open PySem PyProof.Rows
section
variable {prog : Program} {w : World} {A : Around} {E : Value → Shared → Prop} {s : Shared}
def sIx (n d : Nat) : Option Int → Nat
  | none => d
  | some v => if v < 0 then (v + (n : Int)).toNat else min v.toNat n
theorem sIx_none (n d : Nat) : sIx n d none = d := rfl
theorem sIx_nat (n d k : Nat) : sIx n d (some (k : Int)) = min k n := by
  show (if (k : Int) < 0 then ((k : Int) + (n : Int)).toNat else min (k : Int).toNat n) = min k n
  rw [if_neg (by omega), Int.toNat_natCast]
end
end HT
namespace L2
open PySem PySem.Spec PyProof.Rows
abbrev TO := St → Hp → (Option Int → Hp → Prop) → Prop
def PO (X : Cx) (e : Option Expr) (t : TO) : Prop :=
  ∀ (pins : List (Addr × Obj)) (s : Shared) (σ : St) (H : Hp) (Q : Option Int → Hp → Prop), Inv X pins σ H s → t σ H Q →
    wpAny (model X.prog X.w) X.A (evalPart e X.env) (fun u s' => ∃ o H', Inv X pins σ H' s' ∧ IsPart u o ∧ Q o H') X.xe s
def tNoPart : TO := fun _ H Q => Q none H
def tPart (t : TE) : TO := fun σ H Q => t σ H fun x H1 => ∃ i, x = .int i ∧ Q (some i) H1
section
variable {X : Cx} {e : Expr} {te : TE} {lo hi : Option Expr} {tl th : TO} {pos p2 : Pos}
theorem po_none : PO X none tNoPart := by
  intro pins s σ H Q I h
  rw [evalPart_none]
  exact wpAny_pure ⟨none, H, I, .none, h⟩
theorem po_some (h : PE X e te) : PO X (some e) (tPart te) := by
  intro pins s σ H Q I hw
  rw [evalPart_some]
  refine thn (h pins s σ H _ I hw) fun u s1 ⟨x, H1, I1, r1, q1⟩ => ?_
  obtain ⟨i, rfl, q⟩ := q1
  obtain ⟨t, rfl⟩ := r1
  exact ⟨some i, H1, I1, .int i t, q⟩
def SlR (X : Cx) (r : V → Option Int → Option Int → Hp → VK → Prop) : Prop :=
  ∀ (pins : List (Addr × Obj)) (s : Shared) (σ : St) (H : Hp) (x : V) (v vl vu : Value) (lo hi : Option Int) (sl : Addr) (Q : VK), Inv X pins σ H s → RelV x v → s.heap.IsSliceOf sl vl vu .none → IsPart vl lo → IsPart vu hi → r x lo hi H Q →
    ∃ T id, typeLookup (.type T) "__getitem__" = pure (some (.builtin id)) ∧ s.TypeIs v T ∧ wpAny (model X.prog X.w) X.A (getItem v (.ref sl)) (EP X pins σ Q) X.xe s
def tSl (r : V → Option Int → Option Int → Hp → VK → Prop) (te : TE) (tl th : TO) : TE := fun σ H Q => te σ H fun x H1 => tl σ H1 fun l H2 => th σ H2 fun u H3 => r x l u H3 Q
theorem pe_slice {r : V → Option Int → Option Int → Hp → VK → Prop} (hr : SlR X r) (he : PE X e te) (hl : PO X lo tl) (hu : PO X hi th) : PE X (.Subscript e (.Slice lo hi none p2) pos) (tSl r te tl th) := by
  intro pins s σ H Q I h
  refine Subscript_ (thn (he pins s σ H _ I h) fun v s1 ⟨x, H1, I1, r1, q1⟩ => ?_)
  refine wpAny_Slice (thn (hl pins s1 σ H1 _ I1 q1) fun vl s2 ⟨l, H2, I2, pl, q2⟩ => thn (hu pins s2 σ H2 _ I2 q2) fun vu s3 ⟨u, H3, I3, pu, q3⟩ => ?_)
  rw [evalPart_none]
  refine wpAny_pure ?_
  have I4 : Inv X pins σ H3 { s3 with heap := s3.heap.push { cls := .type "slice", data := .fields #[vl, vu, .none] } } := I3.kept (t' := s3.toks) fun b ob q => Heap.get?_push_of_some _ q
  obtain ⟨T, id, hT, ht, hg⟩ := hr pins { s3 with heap := s3.heap.push { cls := .type "slice", data := .fields #[vl, vu, .none] } } σ H3 x v vl vu l u s3.heap.objs.size Q I4 r1 (Heap.IsSliceOf.new ..) pl pu q3
  show wpAny (model X.prog X.w) X.A (subscriptTail e (.Slice lo hi none p2) v (.ref s3.heap.objs.size)) (EP X pins σ Q) X.xe { s3 with heap := s3.heap.push { cls := .type "slice", data := .fields #[vl, vu, .none] } }
  exact tail_any (ops := [.ref s3.heap.objs.size, v]) ht hT hg (by with_unfolding_all rfl)
def cutV (xs : List V) (lo hi : Option Int) : List V := (xs.drop (HT.sIx xs.length 0 lo)).take (HT.sIx xs.length xs.length hi - HT.sIx xs.length 0 lo)
theorem cutV_length (xs : List V) (lo hi : Option Int) : (cutV xs lo hi).length ≤ xs.length := by
  unfold cutV
  rw [List.length_take, List.length_drop]
  omega
end
end L2
namespace L2
open PySem PySem.Spec PyProof.Rows
def ixN (n : Nat) (i : Int) : Option Nat := if 0 ≤ i then (if i < n then some i.toNat else none) else if -(n : Int) ≤ i then some (i + n).toNat else none
def atI {α : Type} (xs : List α) (i : Int) : Option α := (ixN xs.length i).bind fun j => xs[j]?
theorem ixN_seq {n : Nat} {i : Int} {j : Nat} (h : ixN n i = some j) : seqIndex? i n = some j ∧ j < n ∧ -(n : Int) ≤ i ∧ i < n := by
  unfold ixN at h
  by_cases h0 : 0 ≤ i
  · rw [if_pos h0] at h
    by_cases h1 : i < n
    · rw [if_pos h1] at h
      have e : i.toNat = j := Option.some.inj h
      exact ⟨by rw [seqIndex_of h0 h1, e], by omega, by omega, h1⟩
    · rw [if_neg h1] at h; cases h
  · rw [if_neg h0] at h
    by_cases h1 : -(n : Int) ≤ i
    · rw [if_pos h1] at h
      have e : (i + n).toNat = j := Option.some.inj h
      exact ⟨by rw [seqIndex_neg (by omega) h1, e], by omega, h1, by omega⟩
    · rw [if_neg h1] at h; cases h
theorem atI_get {α : Type} {xs : List α} {i : Int} {v : α} (h : atI xs i = some v) : ∃ j, seqIndex? i xs.length = some j ∧ xs[j]? = some v ∧ j < xs.length ∧ -(xs.length : Int) ≤ i ∧ i < xs.length := by
  unfold atI at h
  cases e : ixN xs.length i with
  | none => rw [e] at h; cases h
  | some j =>
    rw [e] at h
    obtain ⟨h1, h2, h3, h4⟩ := ixN_seq e
    exact ⟨j, h1, h, h2, h3, h4⟩
theorem atI_nat {α : Type} {xs : List α} {j : Nat} {v : α} (h : xs[j]? = some v) : atI xs (j : Int) = some v := by
  have hj : j < xs.length := (List.getElem?_eq_some_iff.mp h).1
  have e : ixN xs.length (j : Int) = some j := by
    unfold ixN
    rw [if_pos (by omega), if_pos (by omega)]; simp
  unfold atI; rw [e]; exact h
def PlainIx (b : Expr) : Prop := ∀ o i, subscripted b false o i = operate [o, i] (getItem o i)
def IxR (X : Cx) (r : R2) : Prop :=
  ∀ (value slice : Expr) (pins : List (Addr × Obj)) (s : Shared) (σ : St) (H : Hp) (x y : V) (v u : Value) (Q : VK), Inv X pins σ H s → RelV x v → RelV y u → r x y H Q →
    subscripted slice false v u = operate [v, u] (getItem v u) → wpAny (model X.prog X.w) X.A (subscriptTail value slice v u) (EP X pins σ Q) X.xe s
def MtR (X : Cx) (id : String) (r : V → List V → Hp → VK → Prop) : Prop :=
  ∀ (pins : List (Addr × Obj)) (s : Shared) (σ : St) (H : Hp) (x : V) (xs : List V) (v : Value) (us : List Value) (Q : VK), Inv X pins σ H s → RelV x v → Vals xs us → r x xs H Q →
    wpAny (model X.prog X.w) X.A (call (.builtin id) (v :: us)) (EP X pins σ Q) X.xe s
section
variable {X : Cx} {a b : Expr} {ta tb : TE} {pos : Pos}
theorem pe_ix {r : R2} (hr : IxR X r) (ha : PE X a ta) (hb : PE X b tb) (hs : PlainIx b) : PE X (.Subscript a b pos) (tOp r ta tb) := by
  intro pins s σ H Q I h
  exact Subscript_ (binT ha hb I h fun v u s2 x y H2 I2 rx ry q => hr a b pins s2 σ H2 x y v u Q I2 rx ry q (hs _ _))
def rIxL (K : PySem.W.Frag) : R2 := fun x y H Q => ∃ p xs i v, x = .ref p ∧ y = .int i ∧ SqL K H p xs ∧ atI xs i = some v ∧ Q v H
def rIxT (K : PySem.W.Frag) : R2 := fun x y H Q => ∃ p xs i v, x = .ref p ∧ y = .int i ∧ SqT K H p xs ∧ atI xs i = some v ∧ Q v H
theorem ix_list : IxR X (rIxL X.K) := by
  intro value slice pins s σ H x y v u Q I rx ry h hs
  obtain ⟨p, xs, i, z, rfl, rfl, hq, he, q⟩ := h
  cases rx
  obtain ⟨t, rfl⟩ := ry
  obtain ⟨its, r, pl, hz⟩ := I.list hq
  obtain ⟨j, h1, h2, h3, h4, h5⟩ := atI_get he
  obtain ⟨w, ew, rw'⟩ := r.get h2
  have hl := r.length
  have hn := line63
  have fin : EP X pins σ Q w s := ⟨z, H, I, rw', q⟩
  by_cases h0 : 0 ≤ i
  · have hj : i.toNat = j := by
      rw [seqIndex_of h0 h5] at h1
      exact Option.some.inj h1
    exact item_listR pl.isList h0 (by omega) (by rw [hj]; simpa using ew) fin hs
  · have hj : (i + (its.toArray.size : Int)).toNat = j := by
      rw [seqIndex_neg (by omega) h4] at h1
      rw [List.size_toArray, ← hl]
      exact Option.some.inj h1
    exact subscriptTail_builtinR (x := w) pl.isList.typeIs slot_list_getitem.lookup
      (wpAny_getItem_list_neg (Q := fun r s' => r = w ∧ EP X pins σ Q r s') pl.isList (by omega) (by rw [List.size_toArray] <;> omega) (by omega) (by rw [hj]; simpa using ew) ⟨rfl, fin⟩) hs
theorem ix_tup : IxR X (rIxT X.K) := by
  intro value slice pins s σ H x y v u Q I rx ry h hs
  obtain ⟨p, xs, i, z, rfl, rfl, hq, he, q⟩ := h
  cases rx
  obtain ⟨t, rfl⟩ := ry
  obtain ⟨its, r, pl, hz⟩ := I.tuple hq
  obtain ⟨j, h1, h2, h3, h4, h5⟩ := atI_get he
  obtain ⟨w, ew, rw'⟩ := r.get h2
  have hl := r.length
  have hn := line63
  have fin : EP X pins σ Q w s := ⟨z, H, I, rw', q⟩
  exact subscriptTail_builtinR (x := w) pl.typeIs slot_tuple_getitem.lookup
    (getItem_tuple (j := j) (Q := fun r s' => r = w ∧ EP X pins σ Q r s') pl (by omega) (by omega) (by rw [List.size_toArray, ← hl]; exact h1) (by simpa using ew) ⟨rfl, fin⟩) hs
theorem mapSeq_set (its : List Value) (n j : Nat) (u : Value) : Obj.mapSeq (·.setIfInBounds j u) { cls := .type "list", data := .seq its.toArray n } = { cls := .type "list", data := .seq (its.set j u).toArray n } := by
  simp [Obj.mapSeq]
theorem Inv.lst {pins : List (Addr × Obj)} {σ : St} {H : Hp} {s : Shared} {p : Addr} {xs : List V} (I : Inv X pins σ H s) (h : H p = some (.lst xs)) :
    ∃ (its : List Value) (n : Nat), Vals xs its ∧ s.heap.get? p = some { cls := .type "list", data := .seq its.toArray n } ∧ xs.length ≤ sizeLine := by
  obtain ⟨z, its, n, r, e⟩ := I.hok p _ h
  exact ⟨its, n, r, e, z⟩
theorem Inv.lstUpd {pins : List (Addr × Obj)} {σ : St} {H : Hp} {s : Shared} {p : Addr} {xs ys : List V} {its its' : List Value} {n n' : Nat} {f : Obj → Obj} (I : Inv X pins σ H s) (h : H p = some (.lst xs))
    (ho : s.heap.get? p = some { cls := .type "list", data := .seq its.toArray n }) (hf : f { cls := .type "list", data := .seq its.toArray n } = { cls := .type "list", data := .seq its'.toArray n' }) (r : Vals ys its') (hz : ys.length ≤ sizeLine) (t : Nat) :
    Inv X pins σ (upd H p (.lst ys)) { s with heap := s.heap.update p f, toks := t } := by
  have e : (s.heap.update p f).get? p = some { cls := .type "list", data := .seq its'.toArray n' } := by
    rw [Heap.get?_update_self f ho (by rw [hf] <;> rfl), hf]
  refine I.write (x := p) (e := p) (by rw [h]; trivial) (.inl rfl) (fun b u hb q => (Heap.get?_update_other _ _ (Ne.symm hb)).trans q) ⟨_, e⟩ ?_
  exact ⟨hz, its', n', r, e⟩
def rSetL : V → V → V → Hp → (Hp → Prop) → Prop := fun o i v H Q => ∃ p xs k j, o = .ref p ∧ i = .int k ∧ H p = some (.lst xs) ∧ ixN xs.length k = some j ∧ Q (upd H p (.lst (xs.set j v)))
theorem set_list : PSet X rSetL := by
  intro pins s σ H o i v ov iv u Q I ro ri rv h
  obtain ⟨p, xs, k, j, rfl, rfl, hp, hj, q⟩ := h
  cases ro
  obtain ⟨t, rfl⟩ := ri
  obtain ⟨its, n, r, ho, hz⟩ := I.lst hp
  obtain ⟨h1, h2, h3, h4⟩ := ixN_seq hj
  have hl := r.length
  have hn := line63
  have I' : Inv X pins σ (upd H p (.lst (xs.set j v))) { s with heap := s.heap.update p (Obj.mapSeq (·.setIfInBounds j u)) } :=
    I.lstUpd hp ho (mapSeq_set its n j u) (r.set rv j) (by rw [List.length_set]; exact hz) s.toks
  by_cases h0 : 0 ≤ k
  · have hk : k.toNat = j := by
      rw [seqIndex_of h0 h4] at h1
      exact Option.some.inj h1
    exact PySem.W.ki_setAt ho h0 (by omega) (by rw [List.size_toArray, ← hl]; exact h4) (by rw [hk]; exact ⟨_, I', q⟩)
  · have hk : (k + (its.toArray.size : Int)).toNat = j := by
      rw [seqIndex_neg (by omega) h3] at h1
      rw [List.size_toArray, ← hl]
      exact Option.some.inj h1
    exact PySem.W.ki_setBack ho (by omega) (by rw [List.size_toArray, ← hl]; exact h3) (by omega) (by rw [hk]; exact ⟨_, I', q⟩)
theorem slice_bounds (lo hi : Option Int) (n : Nat) : (sliceBounds lo hi none n).1 = ((HT.sIx n 0 lo : Nat) : Int) ∧ (sliceBounds lo hi none n).2.1 = ((HT.sIx n n hi : Nat) : Int) ∧ (sliceBounds lo hi none n).2.2 = 1 := by
  refine ⟨?_, ?_, rfl⟩
  · cases lo with
    | none => simp [sliceBounds, HT.sIx]
    | some i =>
      simp only [sliceBounds, HT.sIx, Option.getD_none, show (1 : Int) > 0 by decide, if_true]
      by_cases h : i < 0
      · simp only [h, if_true] <;> omega
      · simp only [h, if_false] <;> omega
  · cases hi with
    | none => simp [sliceBounds, HT.sIx]
    | some i =>
      simp only [sliceBounds, HT.sIx, Option.getD_none, show (1 : Int) > 0 by decide, if_true]
      by_cases h : i < 0
      · simp only [h, if_true] <;> omega
      · simp only [h, if_false] <;> omega
theorem slicePick_cut (its : List Value) (lo hi : Option Int) : slicePick its.toArray lo hi none = ((its.drop (HT.sIx its.length 0 lo)).take (HT.sIx its.length its.length hi - HT.sIx its.length 0 lo)).toArray := by
  obtain ⟨h1, h2, h3⟩ := slice_bounds lo hi its.toArray.size
  unfold slicePick
  rw [h1, h2, h3]
  simp only [sliceRange_one, pick_run, List.size_toArray] <;> rfl
def rSlL (K : PySem.W.Frag) : V → Option Int → Option Int → Hp → VK → Prop := fun x lo hi H Q => ∃ a xs, x = .ref a ∧ SqL K H a xs ∧ ∀ p, H p = none → Q (.ref p) (upd H p (.lst (cutV xs lo hi)))
theorem sl_list : SlR X (rSlL X.K) := by
  intro pins s σ H x v vl vu lo hi sl Q I rx hs pl pu h
  obtain ⟨a, xs, rfl, hx, q⟩ := h
  cases rx
  obtain ⟨its, r, ht, hz⟩ := I.list hx
  have hlen := r.length
  refine ⟨"list", _, slot_list_getitem.lookup, ht.isList.typeIs, ?_⟩
  refine wpAny_getItem_list_slice ht.isList hs pl pu .none (by simp) ?_ (by rw [List.size_toArray] <;> omega)
  rw [slicePick_cut, ← hlen]
  refine ⟨.ref s.heap.objs.size, _, I.laid (t' := s.toks) (o := .lst (cutV xs lo hi)) (fun b ob q => Heap.get?_push_of_some _ q) (Nat.le_refl _) ?_, rfl, q _ (I.hok.fresh (Nat.le_refl _))⟩
  exact ⟨Nat.le_trans (cutV_length xs lo hi) hz, _, 0, (r.drop (HT.sIx xs.length 0 lo)).take (HT.sIx xs.length xs.length hi - HT.sIx xs.length 0 lo), Heap.get?_push_size _ rfl⟩
def flatV : V → Bool
  | .non => true
  | .bl _ => true
  | .int _ => true
  | .str _ => true
  | _ => false
def eqV : V → V → Bool
  | .non, .non => true
  | .bl a, .bl b => a == b
  | .bl a, .int b => (if a then 1 else 0) == b
  | .int a, .bl b => a == (if b then 1 else 0)
  | .int a, .int b => a == b
  | .str a, .str b => a == b
  | _, _ => false
theorem eqAt_V {A : Around} {s : Shared} {y x : V} {u v : Value} (ry : RelV y u) (rx : RelV x v) (fy : flatV y = true) (fx : flatV x = true) : SeqAt.EqAt A s u v (eqV y x) := by
  cases y with
  | non =>
    cases ry
    cases x with
    | non => cases rx; exact SeqAt.EqAt.same _
    | bl b => cases rx; exact SeqAt.EqAt.none_bool b
    | int b => obtain ⟨t, rfl⟩ := rx; exact SeqAt.EqAt.none_int b t
    | str b => obtain ⟨t, rfl⟩ := rx; exact SeqAt.EqAt.none_str b t
    | _ => exact absurd (show false = true from fx) Bool.false_ne_true
  | bl a =>
    cases ry
    cases x with
    | non => cases rx; exact SeqAt.EqAt.bool_none a
    | bl b => cases rx; exact SeqAt.EqAt.bool_bool a b
    | int b => obtain ⟨t, rfl⟩ := rx; exact SeqAt.EqAt.bool_int a b t
    | str b => obtain ⟨t, rfl⟩ := rx; exact SeqAt.EqAt.bool_str a b t
    | _ => exact absurd (show false = true from fx) Bool.false_ne_true
  | int a =>
    obtain ⟨t', rfl⟩ := ry
    cases x with
    | non => cases rx; exact SeqAt.EqAt.int_none a t'
    | bl b => cases rx; exact SeqAt.EqAt.int_bool a t' b
    | int b => obtain ⟨t, rfl⟩ := rx; exact SeqAt.EqAt.int_int a t' b t
    | str b => obtain ⟨t, rfl⟩ := rx; exact SeqAt.EqAt.int_str a t' b t
    | _ => exact absurd (show false = true from fx) Bool.false_ne_true
  | str a =>
    obtain ⟨t', rfl⟩ := ry
    cases x with
    | non => cases rx; exact SeqAt.EqAt.str_none a t'
    | bl b => cases rx; exact SeqAt.EqAt.str_bool a t' b
    | int b => obtain ⟨t, rfl⟩ := rx; exact SeqAt.EqAt.str_int a t' b t
    | str b => obtain ⟨t, rfl⟩ := rx; exact SeqAt.EqAt.str_str a t' b t
    | _ => exact absurd (show false = true from fx) Bool.false_ne_true
  | _ => exact absurd (show false = true from fy) Bool.false_ne_true
def eqU (x : V) (u : Value) : Bool := match u with
  | .none => eqV .non x
  | .bool b => eqV (.bl b) x
  | .int i _ => eqV (.int i) x
  | .str z _ => eqV (.str z) x
  | _ => false
theorem eqU_of {x y : V} {u : Value} (r : RelV y u) (f : flatV y = true) : eqU x u = eqV y x := by
  cases y with
  | non => cases r; rfl
  | bl b => cases r; rfl
  | int i => obtain ⟨t, rfl⟩ := r; rfl
  | str z => obtain ⟨t, rfl⟩ := r; rfl
  | _ => exact absurd (show false = true from f) Bool.false_ne_true
theorem any_eqU {x : V} : ∀ {xs : List V} {us : List Value}, Vals xs us → xs.all flatV = true → us.any (eqU x) = xs.any fun y => eqV y x
  | _, _, .nil, _ => rfl
  | y :: xs, u :: us, .cons r t, f => by
    rw [List.all_cons, Bool.and_eq_true] at f
    rw [List.any_cons, List.any_cons, eqU_of r f.1, any_eqU t f.2]
theorem mem_eqAt {A : Around} {s : Shared} {x : V} {v : Value} (rx : RelV x v) (fx : flatV x = true) : ∀ {xs : List V} {us : List Value}, Vals xs us → xs.all flatV = true → ∀ u ∈ us, SeqAt.EqAt A s u v (eqU x u)
  | _, _, .nil, _ => fun u hu => by cases hu
  | y :: xs, u :: us, .cons r t, f => fun u' hu => by
    rw [List.all_cons, Bool.and_eq_true] at f
    rcases List.mem_cons.mp hu with rfl | hu
    · rw [eqU_of r f.1]; exact eqAt_V r rx f.1 fx
    · exact mem_eqAt rx fx t f.2 u' hu
def inV (x : V) (xs : List V) : Bool := xs.any fun y => eqV y x
def rIn (K : PySem.W.Frag) (neg : Bool) : R2 := fun x y H Q => ∃ p xs, y = .ref p ∧ (SqL K H p xs ∨ SqT K H p xs) ∧ flatV x = true ∧ xs.all flatV = true ∧ Q (.bl (if neg then !inV x xs else inV x xs)) H
theorem op_in_seq : OpR X (compareOp .In) (rIn X.K false) := by
  intro pins s σ H x y v u Q I rx ry h
  obtain ⟨p, xs, rfl, hq, fx, fs, q⟩ := h
  cases ry
  rcases hq with hq | hq
  · obtain ⟨its, r, pl, hz⟩ := I.list hq
    refine SeqAt.in_listAt (eqU x) pl.isList (fun w hw => mem_eqAt rx fx r fs w (by simpa using hw)) ⟨.bl _, H, I, rfl, ?_⟩
    rw [show its.toArray.any (eqU x) = its.any (eqU x) by simp, any_eqU r fs]
    exact q
  · obtain ⟨its, r, pl, hz⟩ := I.tuple hq
    refine SeqAt.in_tupleAt (eqU x) pl (fun w hw => mem_eqAt rx fx r fs w (by simpa using hw)) ⟨.bl _, H, I, rfl, ?_⟩
    rw [show its.toArray.any (eqU x) = its.any (eqU x) by simp, any_eqU r fs]
    exact q
theorem call_len_seq : CallR X (.builtin "len") (fun xs H Q => ∃ p ys, xs = [.ref p] ∧ (SqL X.K H p ys ∨ SqT X.K H p ys) ∧ Q (.int ys.length) H) := by
  intro pins s σ H xs us Q I r h
  obtain ⟨p, ys, rfl, hq, q⟩ := h
  obtain ⟨u, rfl, rx⟩ := vals1 r
  cases rx
  have hn := line63
  rcases hq with hq | hq
  · obtain ⟨its, r', pl, hz⟩ := I.list hq
    have hlen := r'.length
    exact Calls.call_len_list pl.isList (by simp only [List.size_toArray] <;> omega) ⟨.int ys.length, H, I.tok _, ⟨s.toks + 1, by rw [List.size_toArray, hlen]⟩, q⟩
  · obtain ⟨its, r', pl, hz⟩ := I.tuple hq
    have hlen := r'.length
    exact len_tuple pl (by simp only [List.size_toArray] <;> omega) ⟨.int ys.length, H, I.tok _, ⟨s.toks + 1, by rw [List.size_toArray, hlen]⟩, q⟩
theorem call_list_of : CallR X (.type "list") (fun xs H Q => ∃ p ys, xs = [.ref p] ∧ (SqL X.K H p ys ∨ SqT X.K H p ys) ∧ ∀ l, H l = none → Q (.ref l) (upd H l (.lst ys))) := by
  intro pins s σ H xs us Q I r h
  obtain ⟨p, ys, rfl, hq, q⟩ := h
  obtain ⟨u, rfl, rx⟩ := vals1 r
  cases rx
  have fin : ∀ (its : List Value), Vals ys its → ys.length ≤ sizeLine → ∀ (h' : Heap) (c' : Nat), (∀ b o', s.heap.get? b = some o' → h'.get? b = some o') →
      h'.get? s.heap.objs.size = some { cls := .type "list", dict := none, data := .seq its.toArray c', slots := #[] } → EP X pins σ Q (.ref s.heap.objs.size) { s with heap := h' } := fun its r' hz h' c' kp e =>
    ⟨.ref s.heap.objs.size, _, I.laid (t' := s.toks) kp (Nat.le_refl _) (show ObjOk X.prog X.w _ h' _ (.lst ys) from ⟨hz, its, c', r', e⟩), rfl, q _ (I.hok.fresh (Nat.le_refl _))⟩
  rcases hq with hq | hq
  · obtain ⟨its, r', pl, hz⟩ := I.list hq
    have hlen := r'.length
    obtain ⟨o, ho, hc, n, hd⟩ := pl.isList
    exact call_list_seq p (.inl rfl) ho hc hd (fun h' c' kp e => fin its r' hz h' c' kp e) (by simp only [List.size_toArray] <;> omega)
  · obtain ⟨its, r', pl, hz⟩ := I.tuple hq
    have hlen := r'.length
    obtain ⟨o, ho, hc, n, hd⟩ := pl
    exact call_list_seq p (.inr rfl) ho hc hd (fun h' c' kp e => fin its r' hz h' c' kp e) (by simp only [List.size_toArray] <;> omega)
def tyV (K : PySem.W.Frag) (T : String) (x : V) (H : Hp) : Prop := match x with
  | .str _ => T = "str"
  | .int _ => T = "int"
  | .ref p => (T = "list" ∧ ∃ xs, SqL K H p xs) ∨ (T = "tuple" ∧ ∃ o, K.lookup p = some o ∧ o.cls = .type "tuple" ∧ o.dict = none) ∨
      (T = "dict" ∧ ((∃ kvs, H p = some (.dK kvs)) ∨ ∃ kvs, H p = some (.dT kvs))) ∨ (T = "set" ∧ ∃ S n, H p = some (.set S n))
  | _ => False
theorem tyV_is {pins : List (Addr × Obj)} {σ : St} {H : Hp} {s : Shared} {T : String} {x : V} {v : Value} (I : Inv X pins σ H s) (r : RelV x v) (ty : tyV X.K T x H) :
    s.TypeIs v T ∧ ∀ a, v = .ref a → ∃ ob, s.heap.get? a = some ob ∧ ob.dict = none := by
  cases x with
  | str z =>
    obtain ⟨t, rfl⟩ := r
    cases (show T = "str" from ty)
    exact ⟨typeIs_str s z t, fun _ e => nomatch e⟩
  | int i =>
    obtain ⟨t, rfl⟩ := r
    cases (show T = "int" from ty)
    exact ⟨typeIs_int s i t, fun _ e => nomatch e⟩
  | ref p =>
    cases r
    rcases ty with ⟨rfl, xs, hq⟩ | ⟨rfl, o, hk, hc, hd⟩ | ⟨rfl, hk⟩ | ⟨rfl, S, n, hk⟩
    · obtain ⟨its, _, pl, _⟩ := I.list hq
      refine ⟨pl.isList.typeIs, fun a e => ?_⟩
      cases e
      obtain ⟨o, n, e, c, hd, _⟩ := pl
      exact ⟨o, e, hd⟩
    · refine ⟨⟨o, I.kIn p o hk, hc⟩, fun a e => ?_⟩
      cases e
      exact ⟨o, I.kIn _ o hk, hd⟩
    · have z : ∃ o, s.heap.get? p = some o ∧ o.ExactDict := by
        rcases hk with ⟨kvs, hk⟩ | ⟨kvs, hk⟩
        · obtain ⟨_, _, _, _, o, _, _, e, ex, _⟩ := I.hok p _ hk
          exact ⟨o, e, ex⟩
        · obtain ⟨_, _, _, _, o, _, _, e, ex, _⟩ := I.hok p _ hk
          exact ⟨o, e, ex⟩
      obtain ⟨o, e, ex⟩ := z
      refine ⟨⟨o, e, ex.1⟩, fun a e2 => ?_⟩
      cases e2
      exact ⟨o, e, ex.2.1⟩
    · obtain ⟨o, _, _, _, e, ex, _⟩ := I.hok p _ hk
      refine ⟨⟨o, e, ex.1⟩, fun a e2 => ?_⟩
      cases e2
      exact ⟨o, e, ex.2.1⟩
  | _ => exact False.elim ty
def tBM0 (K : PySem.W.Frag) (T : String) (r : V → List V → Hp → VK → Prop) (to : TE) : TE := fun σ H Q => to σ H fun x H1 => tyV K T x H1 ∧ r x [] H1 Q
def tBM (K : PySem.W.Frag) (T : String) (r : V → List V → Hp → VK → Prop) (to : TE) (t : TA) : TE := fun σ H Q => to σ H fun x H1 => tyV K T x H1 ∧ t σ H1 fun xs H2 => r x xs H2 Q
variable {o e : Expr} {es : List Expr} {to : TE} {t : TA} {name : Str} {apos cpos : Pos} {T id : String} {r : V → List V → Hp → VK → Prop}
theorem pe_bm0 (pa : PlainAttrs T) (slot : Slot T name id) (hty : typeOf (.builtin id) = pure (.type "method_descriptor")) (hm : MtR X id r) (ho : PE X o to)
    (hbase : attributeBase o name X.env (eval o X.env) = eval o X.env := by rfl) (hline : (apos.endLine == cpos.line) = true := by rfl) : PE X (.Call (.Attribute o name apos) [] [] cpos) (tBM0 X.K T r to) := by
  intro pins s σ H Q I h
  refine wpAny_Call_method0_late hbase hline (thn (ho pins s σ H _ I h) fun v s1 ⟨x, H1, I1, r1, ty, q1⟩ => ?_)
  obtain ⟨h1, h2⟩ := tyV_is I1 r1 ty
  exact ⟨T, id, pa, slot, hty, h1, h2, Calls.callWith_builtin rfl (PySem.evalArgs_none (hm pins s1 σ H1 x [] v [] Q I1 r1 .nil q1))⟩
theorem pe_bm (pa : PlainAttrs T) (slot : Slot T name id) (hty : typeOf (.builtin id) = pure (.type "method_descriptor")) (hm : MtR X id r) (ho : PE X o to) (ha : PA X (e :: es) t)
    (hbase : attributeBase o name X.env (eval o X.env) = eval o X.env := by rfl)
    (hfew : ((backTo cpos (starEach (e :: es) X.env)).all (fun x => !x.1) && (backToKw cpos (keywordEach [] X.env)).all (fun x => x.1.isSome)
      && decide ((e :: es).length + ([] : List Keyword).length + (if ([] : List Keyword).isEmpty then 0 else 1) < 30)) = true := by rfl)
    (hline : (apos.endLine == cpos.line) = true := by rfl) (hs : starEach (e :: es) X.env = (false, eval e X.env) :: starEach es X.env := by rfl) (hplain : (backTo cpos (starEach es X.env)).any (·.1) = false := by rfl) :
    PE X (.Call (.Attribute o name apos) (e :: es) [] cpos) (tBM X.K T r to t) := by
  intro pins s σ H Q I h
  refine wpAny_Call_method_late hbase hfew hline rfl (thn (ho pins s σ H _ I h) fun v s1 ⟨x, H1, I1, r1, ty, q1⟩ => ?_)
  obtain ⟨h1, h2⟩ := tyV_is I1 r1 ty
  refine ⟨T, id, pa, slot, hty, h1, h2, ?_⟩
  have hA := ha cpos pins s1 σ H1 _ I1 q1
  rw [hs] at hA ⊢
  refine Calls.callWith_builtin (by show (false || (backTo cpos (starEach es X.env)).any (·.1)) = false; rw [hplain] <;> rfl) (Calls.evalArgs_plain ?_)
  exact thn hA fun us s2 ⟨vs, H2, I2, r2, q2⟩ => hm pins s2 σ H2 x vs v us Q I2 r1 r2 q2
end
end L2
namespace L2
open PySem PySem.Spec PyProof.Rows
def MtM (X : Cx) (id : String) (r : V → List V → Hp → VK → Prop) : Prop :=
  ∀ (pins : List (Addr × Obj)) (s : Shared) (σ : St) (H : Hp) (x : V) (xs : List V) (v : Value) (us : List Value) (Q : VK), Inv X pins σ H s → RelV x v → Vals xs us → r x xs H Q →
    wpAny (model X.prog X.w) X.A (call (.builtin id) (v :: us)) (EP X pins σ Q) X.xe s
theorem Vals.one : ∀ {x : V} {us : List Value}, Vals [x] us → ∃ u, us = [u] ∧ RelV x u
  | _, _, .cons r .nil => ⟨_, rfl, r⟩
theorem Vals.zero : ∀ {us : List Value}, Vals [] us → us = []
  | _, .nil => rfl
theorem Vals.dropLast {xs : List V} {us : List Value} (h : Vals xs us) : Vals xs.dropLast us.dropLast := by
  induction h with
  | nil => exact .nil
  | cons r t ih =>
    cases t with
    | nil => exact .nil
    | cons q t' => exact .cons r ih
theorem erase_last {α : Type} (l : List α) : l.eraseIdx (l.length - 1) = l.dropLast := by
  induction l with
  | nil => rfl
  | cons a r ih =>
    cases r with
    | nil => rfl
    | cons b r =>
      have e : (a :: b :: r).length - 1 = ((b :: r).length - 1) + 1 := by
        have h1 : (a :: b :: r).length = r.length + 2 := rfl
        have h2 : (b :: r).length = r.length + 1 := rfl
        omega
      rw [e, List.eraseIdx_cons_succ, ih]
      all_goals rfl
section
variable {X : Cx} {pins : List (Addr × Obj)} {σ : St} {H : Hp} {s : Shared} {l b : Addr} {xs ys zs : List V}
theorem Inv.lset {its its' : List Value} {n : Nat} {f : Array Value → Array Value} {t' : Nat} (I : Inv X pins σ H s) (hH : H l = some (.lst xs))
    (e : s.heap.get? l = some { cls := .type "list", data := .seq its.toArray n }) (hf : f its.toArray = its'.toArray) (hv : Vals ys its') (hz : ys.length ≤ sizeLine) :
    Inv X pins σ (upd H l (.lst ys)) { s with heap := s.heap.update l (Obj.mapSeq f), toks := t' } := by
  have q := PySem.IsL.update e f
  rw [hf] at q
  refine I.write (x := l) (e := l) (by rw [hH]; exact trivial) (.inl rfl) (fun b' u hb hu => (Heap.get?_update_other s.heap (Obj.mapSeq f) (Ne.symm hb)).trans hu) ⟨_, q⟩ ?_
  exact ⟨hz, its', _, hv, q⟩
theorem Inv.lnew {its : List Value} {t' : Nat} (I : Inv X pins σ H s) (hv : Vals ys its) (hz : ys.length ≤ sizeLine) :
    Inv X pins σ (upd H s.heap.objs.size (.lst ys)) { s with heap := s.heap.push { cls := .type "list", data := .seq its.toArray }, toks := t' } :=
  I.laid (fun _ _ q => Heap.get?_push_of_some _ q) (Nat.le_refl _) ⟨hz, its, 0, hv, Heap.get?_push_size _ rfl⟩
theorem Inv.fresh (I : Inv X pins σ H s) : H s.heap.objs.size = none := I.hok.fresh (Nat.le_refl _)
theorem Inv.lstM (I : Inv X pins σ H s) (hH : H l = some (.lst xs)) : xs.length ≤ sizeLine ∧ ∃ (its : List Value) (n : Nat), Vals xs its ∧ xs.length = its.length ∧ s.heap.get? l = some { cls := .type "list", data := .seq its.toArray n } := by
  obtain ⟨z, its, n, r, e⟩ := I.hok l _ hH
  exact ⟨z, its, n, r, r.length, e⟩
theorem notLongL {n : Nat} (h : n ≤ sizeLine) : Builtin.List.listTooLong n = false := by
  unfold Builtin.List.listTooLong
  exact decide_eq_false (by omega)
end
section
variable {X : Cx}
def rAppend : V → List V → Hp → VK → Prop := fun x vs H Q => ∃ l xs y, x = .ref l ∧ vs = [y] ∧ H l = some (.lst xs) ∧ xs.length < sizeLine ∧ Q .non (upd H l (.lst (xs ++ [y])))
theorem mt_append : MtM X "list.append" rAppend := by
  intro pins s σ H x vs v us Q I rx rv h
  obtain ⟨l, xs, y, rfl, rfl, hH, hz, q⟩ := h
  cases rx
  obtain ⟨u, rfl, ru⟩ := rv.one
  obtain ⟨z, its, n, r, hl, e⟩ := I.lstM hH
  refine call_meets F.slot_list_append ⟨_, e, rfl⟩ F.entry_list_append (F.args_list_append_2 _ _) (PySem.list_append l its.toArray n u (by rw [List.size_toArray]; omega)) ⟨e, ?_⟩
  refine ⟨.non, _, I.lset (its' := its ++ [u]) hH e (by simp) (r.append (.cons ru .nil)) ?_, rfl, q⟩
  rw [List.length_append, List.length_singleton]
  omega
def rExtend : V → List V → Hp → VK → Prop := fun x vs H Q => ∃ l b xs zs, x = .ref l ∧ vs = [.ref b] ∧ H l = some (.lst xs) ∧ H b = some (.lst zs) ∧ xs.length + zs.length ≤ sizeLine ∧ Q .non (upd H l (.lst (xs ++ zs)))
theorem mt_extend : MtM X "list.extend" rExtend := by
  intro pins s σ H x vs v us Q I rx rv h
  obtain ⟨l, b, xs, zs, rfl, rfl, hH, hB, hz, q⟩ := h
  cases rx
  obtain ⟨u, rfl, ru⟩ := rv.one
  cases ru
  obtain ⟨z, its, n, r, hl, e⟩ := I.lstM hH
  obtain ⟨z2, its2, n2, r2, hl2, e2⟩ := I.lstM hB
  have hsz : its.toArray.size + its2.toArray.size ≤ sizeLine := by rw [List.size_toArray, List.size_toArray]; omega
  have hlong : ¬ (!its.toArray.isEmpty && Builtin.List.listTooLong (its.toArray.size + its2.toArray.size)) = true := by
    rw [notLongL hsz, Bool.and_false]
    exact Bool.false_ne_true
  refine call_meets F.slot_list_extend ⟨_, e, rfl⟩ F.entry_list_extend (F.args_list_extend_2 _ _)
    (AutoSeq1.list_extend_list_list_0 l its.toArray n b its2.toArray n2 hlong (by rw [List.size_toArray]; omega) (by omega)) ⟨e, e2, ?_⟩
  refine ⟨.non, _, I.lset (its' := its ++ its2) hH e (by simp) (r.append r2) ?_, rfl, q⟩
  rw [List.length_append]
  omega
def rPop : V → List V → Hp → VK → Prop := fun x vs H Q => ∃ l xs y, x = .ref l ∧ vs = [] ∧ H l = some (.lst xs) ∧ xs[xs.length - 1]? = some y ∧ Q y (upd H l (.lst xs.dropLast))
theorem mt_pop : MtM X "list.pop" rPop := by
  intro pins s σ H x vs v us Q I rx rv h
  obtain ⟨l, xs, y, rfl, rfl, hH, hy, q⟩ := h
  cases rx
  have hus := rv.zero
  subst hus
  obtain ⟨z, its, n, r, hl, e⟩ := I.lstM hH
  obtain ⟨u, hu, ru⟩ := r.get hy
  have hy' : its.toArray[its.toArray.size - 1]? = some u := by
    show its.toArray[its.length - 1]? = some u
    rw [← Array.getElem?_toList, ← hl]
    exact hu
  refine call_meets F.slot_list_pop ⟨_, e, rfl⟩ F.entry_list_pop (F.args_list_pop_1 _) (MeetsSeq.list_pop_last l its.toArray n u hy' (by rw [List.size_toArray]; omega)) ⟨e, ?_⟩
  refine ⟨y, _, I.lset (its' := its.dropLast) hH e ?_ r.dropLast ?_, ru, q⟩
  · show its.toArray.eraseIdxIfInBounds (its.toArray.size - 1) = its.dropLast.toArray
    rw [List.size_toArray, List.eraseIdxIfInBounds_toArray, erase_last]
  · rw [List.length_dropLast]
    omega
def rCat : R2 := fun x y H Q => ∃ l b xs zs, x = .ref l ∧ y = .ref b ∧ H l = some (.lst xs) ∧ H b = some (.lst zs) ∧ xs.length + zs.length ≤ sizeLine ∧ ∀ p, H p = none → Q (.ref p) (upd H p (.lst (xs ++ zs)))
theorem op_cat : OpR X (binaryOp .Add) rCat := by
  intro pins s σ H x y v u Q I rx ry h
  obtain ⟨l, b, xs, zs, rfl, rfl, hH, hB, hz, q⟩ := h
  cases rx
  cases ry
  obtain ⟨z, its, n, r, hl, e⟩ := I.lstM hH
  obtain ⟨z2, its2, n2, r2, hl2, e2⟩ := I.lstM hB
  refine PySem.P.add_list e e2 ?_ (by rw [List.size_toArray, List.size_toArray]; omega)
  have ea : its.toArray ++ its2.toArray = (its ++ its2).toArray := by simp
  rw [ea]
  exact ⟨.ref _, _, I.lnew (t' := s.toks) (r.append r2) (by rw [List.length_append]; omega), rfl, q _ I.fresh⟩
end
end L2
namespace L2
open PySem PySem.Spec PyProof.Rows
theorem Vals.ints : ∀ {ns : List Int} {us : List Value}, Vals (ns.map V.int) us → IntsAre us ns
  | [], us, h => by
    rw [List.map_nil] at h
    cases h
    exact IntsAre.nil
  | n :: ns, us, h => by
    rw [List.map_cons] at h
    cases h with
    | cons r t =>
      obtain ⟨k, rfl⟩ := r
      exact IntsAre.cons n k (Vals.ints t)
theorem Vals.ref1 {a : Addr} {us : List Value} (r : Vals [V.ref a] us) : us = [Value.ref a] := by
  cases r with
  | cons r t =>
    cases t
    cases r
    rfl
section
variable {prog : Program} {w : World} {A : Around} {E : Value → Shared → Prop} {s : Shared} {l : Addr} {its : List Value} {ns : List Int} {Q : Value → Shared → Prop}
theorem sum_raw (hh : A.handled = none) (hl : s.heap.IsList l its.toArray) (hi : IntsAre its ns)
    (h : ∀ h' tk t', (∀ b o, s.heap.get? b = some o → h'.get? b = some o) → Q (.int ns.sum t') { s with heap := h', toks := tk }) : wpAny (model prog w) A (call (.builtin "sum") [.ref l]) Q E s := by
  obtain ⟨xs, e⟩ := hi.allInts.items
  have hn : numsOf (intItems xs).toList = ns := by rw [← e]; exact hi.numsOf
  rw [nums_intItems] at hn
  rw [e] at hl
  refine PySem.sum_intListG hh hl fun h' tk t' hk => ?_
  have := h h' tk t' hk
  rw [preSum_eq, List.take_of_length_le (by simp), hn]; exact this
end
section
variable {X : Cx}
def rSum (K : PySem.W.Frag) : List V → Hp → VK → Prop := fun vs H Q => ∃ (a : Addr) (ns : List Int), vs = [V.ref a] ∧ SqL K H a (ns.map V.int) ∧ Q (.int ns.sum) H
theorem cr_sum (hc : X.calm = true) : CallR X (.builtin "sum") (rSum X.K) := by
  intro pins s σ H vs us Q I r h
  obtain ⟨a, ns, rfl, hs, q⟩ := h
  obtain ⟨its, rv, hl, _⟩ := I.list hs
  rw [Vals.ref1 r]
  exact sum_raw (I.ok.hd hc) hl.isList rv.ints fun h' tk t' hk => ⟨.int _, H, I.kept hk, ⟨_, rfl⟩, q⟩
end
end L2
namespace L2
open PySem PySem.Spec PyProof.Rows
abbrev CellAt (h : Heap) (c : Addr) (v : Option Value) : Prop := h.IsCell c v
def relS (scope sc : Scope) : Scope :=
  { scope with names := scope.names.map fun (n, k) => if (k == .free && sc.kind == .function && sc.names.lookup n == some .cell) then (n, .cell) else (n, k) }
def cloFrom (cells : List (Str × Addr)) : List (Str × NameKind) → List (Str × Addr) → List (Str × Addr)
  | [], acc => acc
  | (n, k) :: r, acc => if k == .free then cloFrom cells r ((n, (cells.lookup n).getD 0) :: acc) else cloFrom cells r acc
theorem closure_loop (env : Env) (f : Str × NameKind → List (Str × Addr) → Sem (ForInStep (List (Str × Addr))))
    (hf : ∀ n k c, f (n, k) c = if k == .free then (do let a ← cellOf env n; pure (.yield ((n, a) :: c))) else pure (.yield c)) :
    ∀ (names : List (Str × NameKind)) (acc : List (Str × Addr)), (∀ y ∈ names, y.2 = .free → ∃ c, env.cells.lookup y.1 = some c) → forIn names acc f = pure (cloFrom env.cells names acc)
  | [], acc, _ => by rw [List.forIn_nil]; rfl
  | (n, k) :: r, acc, h => by
    rw [List.forIn_cons, hf]
    have ih := fun acc => closure_loop env f hf r acc fun y hy => h y (List.mem_cons_of_mem _ hy)
    unfold cloFrom
    by_cases hk : (k == NameKind.free) = true
    · rw [if_pos hk, if_pos hk]
      obtain ⟨c, hc⟩ := h (n, k) List.mem_cons_self (by simpa using hk)
      have e : cellOf env n = pure c := by unfold cellOf; rw [hc]
      rw [e]
      have e2 : (env.cells.lookup n).getD 0 = c := by rw [hc]; rfl
      rw [e2]
      exact ih _
    · rw [if_neg hk, if_neg hk]
      exact ih _
theorem closure_ok {scope : Scope} {env : Env} (h : ∀ y ∈ scope.names, y.2 = .free → ∃ c, env.cells.lookup y.1 = some c) : closureFor scope env = pure (cloFrom env.cells scope.names []) := by
  simp only [closureFor]
  rw [closure_loop env _ (fun n k c => rfl) scope.names [] h]
  rfl
theorem mem_lookup {α : Type} : ∀ {l : List (Str × α)} {n : Str} {c : α}, (n, c) ∈ l → ∃ c', l.lookup n = some c'
  | (k, v) :: r, n, c, h => by
    rw [List.lookup_cons]
    cases hb : n == k with
    | true => exact ⟨_, rfl⟩
    | false =>
      rcases List.mem_cons.mp h with e | h
      · cases e; simp at hb
      · exact mem_lookup h
theorem cloFrom_mem {cells : List (Str × Addr)} : ∀ {names : List (Str × NameKind)} {acc : List (Str × Addr)} {n : Str} {c : Addr}, (n, c) ∈ cloFrom cells names acc → (n, c) ∈ acc ∨ ((n, .free) ∈ names ∧ c = (cells.lookup n).getD 0)
  | [], _, _, _, h => .inl h
  | (m, k) :: r, acc, n, c, h => by
    unfold cloFrom at h
    split at h
    · rename_i hk
      have hk : k = .free := by simpa using hk
      rcases cloFrom_mem h with h | ⟨h1, h2⟩
      · rcases List.mem_cons.mp h with e | h
        · cases e; exact .inr ⟨hk ▸ List.mem_cons_self, rfl⟩
        · exact .inl h
      · exact .inr ⟨List.mem_cons_of_mem _ h1, h2⟩
    · rcases cloFrom_mem h with h | ⟨h1, h2⟩
      · exact .inl h
      · exact .inr ⟨List.mem_cons_of_mem _ h1, h2⟩
theorem cloFrom_acc {cells : List (Str × Addr)} : ∀ {names : List (Str × NameKind)} {acc : List (Str × Addr)} {p : Str × Addr}, p ∈ acc → p ∈ cloFrom cells names acc
  | [], _, _, h => h
  | (m, k) :: r, acc, p, h => by
    unfold cloFrom
    split
    · exact cloFrom_acc (List.mem_cons_of_mem _ h)
    · exact cloFrom_acc h
theorem cloFrom_has {cells : List (Str × Addr)} : ∀ {names : List (Str × NameKind)} {acc : List (Str × Addr)} {n : Str}, (n, .free) ∈ names → (n, (cells.lookup n).getD 0) ∈ cloFrom cells names acc
  | (m, k) :: r, acc, n, h => by
    unfold cloFrom
    rcases List.mem_cons.mp h with e | h
    · cases e
      exact cloFrom_acc List.mem_cons_self
    · split
      · exact cloFrom_has h
      · exact cloFrom_has h
theorem cells_mem : ∀ {names : List (Str × NameKind)} {h : Heap} {acc : List (Str × Addr)} {x : Str} {c : Addr}, (x, c) ∈ cellsFrom h.objs.size names acc →
    (x, c) ∈ acc ∨ ((x, .cell) ∈ names ∧ h.objs.size ≤ c ∧ CellAt (pushCells h names) c none)
  | [], _, _, _, _, h => .inl h
  | (n, k) :: r, h, acc, x, c, hm => by
    unfold cellsFrom at hm
    unfold pushCells
    split at hm
    · rename_i hk
      rw [if_pos hk]
      have hk : k = .cell := by simpa using hk
      rw [← Heap.size_push h { cls := .type "cell", data := .cell none }] at hm
      rcases cells_mem hm with hm | ⟨h1, h2, h3⟩
      · rcases List.mem_cons.mp hm with e | hm
        · cases e
          exact .inr ⟨hk ▸ List.mem_cons_self, Nat.le_refl _, _, pushCells_keeps r _ _ _ (Heap.get?_push_size _ rfl), rfl⟩
        · exact .inl hm
      · rw [Heap.size_push] at h2
        exact .inr ⟨List.mem_cons_of_mem _ h1, Nat.le_of_succ_le h2, h3⟩
    · rename_i hk
      rw [if_neg hk]
      rcases cells_mem hm with hm | ⟨h1, h2, h3⟩
      · exact .inl hm
      · exact .inr ⟨List.mem_cons_of_mem _ h1, h2, h3⟩
theorem cells_acc : ∀ {names : List (Str × NameKind)} {n : Nat} {acc : List (Str × Addr)} {p : Str × Addr}, p ∈ acc → p ∈ cellsFrom n names acc
  | [], _, _, _, h => h
  | (m, k) :: r, n, acc, p, h => by
    unfold cellsFrom
    split
    · exact cells_acc (List.mem_cons_of_mem _ h)
    · exact cells_acc h
theorem cells_has : ∀ {names : List (Str × NameKind)} {n : Nat} {acc : List (Str × Addr)} {x : Str}, (x, .cell) ∈ names → ∃ c, (x, c) ∈ cellsFrom n names acc
  | (m, k) :: r, n, acc, x, h => by
    unfold cellsFrom
    rcases List.mem_cons.mp h with e | h
    · cases e
      exact ⟨n, cells_acc List.mem_cons_self⟩
    · split
      · exact cells_has h
      · exact cells_has h
theorem cells_inj : ∀ {names : List (Str × NameKind)} {h : Heap} {acc : List (Str × Addr)} {x y : Str} {c : Addr}, (∀ p ∈ acc, p.2 < h.objs.size) → (∀ x y c, (x, c) ∈ acc → (y, c) ∈ acc → x = y) →
    (x, c) ∈ cellsFrom h.objs.size names acc → (y, c) ∈ cellsFrom h.objs.size names acc → x = y
  | [], _, _, _, _, _, _, hi, h1, h2 => hi _ _ _ h1 h2
  | (n, k) :: r, h, acc, x, y, c, hl, hi, h1, h2 => by
    unfold cellsFrom at h1 h2
    split at h1
    · rename_i hk
      rw [if_pos hk] at h2
      rw [← Heap.size_push h { cls := .type "cell", data := .cell none }] at h1 h2
      refine cells_inj (h := h.push _) (fun p hp => ?_) (fun x y c a b => ?_) h1 h2
      · rw [Heap.size_push]
        rcases List.mem_cons.mp hp with rfl | hp
        · exact Nat.lt_succ_self _
        · exact Nat.lt_succ_of_lt (hl p hp)
      · rcases List.mem_cons.mp a with e | a <;> rcases List.mem_cons.mp b with e' | b
        · cases e; cases e'; rfl
        · cases e; exact absurd (hl _ b) (Nat.lt_irrefl _)
        · cases e'; exact absurd (hl _ a) (Nat.lt_irrefl _)
        · exact hi _ _ _ a b
    · rename_i hk
      rw [if_neg hk] at h2
      exact cells_inj hl hi h1 h2
theorem newEnv_comp {M : Model} {A : Around} {E : Value → Shared → Prop} {s : Shared} {scope : Scope} {globals : Addr} {closure : List (Str × Addr)} {qual : Str} {func : Option Addr} {code : Value} {around : Env} {builtins : Addr} {Q : Env → Shared → Prop}
    (h : Q (newEnv scope s.heap.objs.size globals (cellsFrom (s.heap.objs.size + 1) scope.names closure) qual func code (some around) builtins)
      { s with heap := pushCells (s.heap.push { cls := .type "dict", data := .dict #[] }) scope.names }) :
    wpAny M A (newFunctionEnv scope globals closure [] qual func code (some around) builtins) Q E s := by
  simp only [newFunctionEnv, Option.isSome_some, if_true]
  refine wpAny_bind (wpAny_alloc ?_)
  refine wpAny_bind (wpAny_layCells _ (fun n k c => rfl) scope.names closure _ _ ?_)
  rw [show ({ s with heap := s.heap.push { cls := .type "dict", data := .dict #[] } } : Shared).heap.objs.size = s.heap.objs.size + 1 from Heap.size_push ..]
  rw [List.forIn_nil]
  exact wpAny_bind (wpAny_pure (wpAny_pure h))
theorem lookup_relS {sc : Scope} : ∀ {names : List (Str × NameKind)} {x : Str} {k : NameKind},
    (names.map fun (n, k) => if (k == NameKind.free && sc.kind == .function && sc.names.lookup n == some .cell) then (n, NameKind.cell) else (n, k)).lookup x = some k →
    ∃ k', names.lookup x = some k' ∧ (k = k' ∨ (k' = .free ∧ k = .cell))
  | [], _, _, h => by simp at h
  | (n, k₀) :: r, x, k, h => by
    have ih := @lookup_relS sc r x k
    have h' : List.lookup x ((if (k₀ == NameKind.free && sc.kind == .function && sc.names.lookup n == some .cell) = true then (n, NameKind.cell) else (n, k₀)) :: (r.map _)) = some k := h
    cases hx : x == n with
    | true =>
      simp only [List.lookup_cons, hx]
      by_cases hc : (k₀ == NameKind.free && sc.kind == .function && sc.names.lookup n == some .cell) = true
      · rw [if_pos hc] at h'
        simp only [List.lookup_cons, hx] at h'
        cases h'
        simp only [Bool.and_eq_true, beq_iff_eq] at hc
        exact ⟨k₀, rfl, .inr ⟨hc.1.1, rfl⟩⟩
      · rw [if_neg hc] at h'
        simp only [List.lookup_cons, hx] at h'
        cases h'
        exact ⟨_, rfl, .inl rfl⟩
    | false =>
      simp only [List.lookup_cons, hx]
      by_cases hc : (k₀ == NameKind.free && sc.kind == .function && sc.names.lookup n == some .cell) = true
      · rw [if_pos hc] at h'
        simp only [List.lookup_cons, hx] at h'
        exact ih h'
      · rw [if_neg hc] at h'
        simp only [List.lookup_cons, hx] at h'
        exact ih h'
structure BlkOk (N : List Str) (sc scope : Scope) (own : List (Str × Nat)) : Prop where
  kind : scope.kind = .function
  uniq : ∀ y ∈ scope.names, scope.names.lookup y.1 = some y.2
  ix : ∀ p ∈ own, N[p.2]? = some p.1
  free : ∀ y ∈ scope.names, y.2 = .free → sc.names.lookup y.1 = some .cell ∨ sc.names.lookup y.1 = some .free
  own : ∀ y ∈ scope.names, y.2 = .local ∨ y.2 = .cell → y.1 ∈ own.map (·.1) ∨ y.1 ∉ N
def wipe (σ : St) : List Nat → St
  | [] => σ
  | v :: vs => (wipe σ vs).set v none
theorem wipe_length (σ : St) : ∀ vs : List Nat, (wipe σ vs).length = σ.length
  | [] => rfl
  | v :: vs => by unfold wipe; rw [List.length_set, wipe_length σ vs]
theorem wipe_some {σ : St} {i : Nat} {x : V} : ∀ {vs : List Nat}, (wipe σ vs)[i]? = some (some x) → σ[i]? = some (some x) ∧ i ∉ vs
  | [], h => ⟨h, by simp⟩
  | v :: vs, h => by
    unfold wipe at h
    by_cases hi : v = i
    · subst hi
      by_cases hv : v < (wipe σ vs).length
      · rw [List.getElem?_set_self hv] at h; cases h
      · rw [List.getElem?_eq_none (by simpa using hv)] at h; cases h
    · rw [List.getElem?_set_ne hi] at h
      obtain ⟨h1, h2⟩ := wipe_some h
      exact ⟨h1, by simp only [List.mem_cons, not_or]; exact ⟨fun e => hi e.symm, h2⟩⟩
abbrev Cx.blk (X : Cx) (s : Shared) (H : Hp) (scope : Scope) (cenv : Env) (fp : List Addr) : Cx := { X with s_0 := s, H_0 := H, env := cenv, outer := X.stack, ex := fp, fn := fun x => scope.names.lookup x == some .cell, pn := [], xe := fun _ _ => False }
section
variable {X : Cx} {pins : List (Addr × Obj)} {σ : St} {H : Hp} {s : Shared}
theorem block_start {scope : Scope} {own : List (Str × Nat)} {fp : List Addr} (I : Inv X pins σ H s) (ok : BlkOk X.N X.env.scope scope own) (hN : X.N.Nodup) (hfp : ∀ b ∈ fp, FpOk X pins H b ∧ b < s.heap.objs.size) :
    Inv (X.blk s H scope (compEnvC scope (cellsFrom (s.heap.objs.size + 1) scope.names (cloFrom X.env.cells scope.names [])) s.heap.objs.size X.env) fp) [] (wipe σ (own.map (·.2))) H { s with heap := pushCells (s.heap.push { cls := .type "dict", data := .dict #[] }) scope.names } := by
  have hfree : ∀ y ∈ scope.names, y.2 = .free → ∃ c, X.env.cells.lookup y.1 = some c := fun y hy e => by
    rcases ok.free y hy e with k | k
    · exact I.ok.has _ (.inl k)
    · exact I.ok.has _ (.inr k)
  generalize hcenv : compEnvC scope (cellsFrom (s.heap.objs.size + 1) scope.names (cloFrom X.env.cells scope.names [])) s.heap.objs.size X.env = cenv
  have kp : ∀ b o, s.heap.get? b = some o → (pushCells (s.heap.push { cls := .type "dict", data := .dict #[] }) scope.names).get? b = some o := fun b o e => pushCells_keeps _ _ _ _ (Heap.get?_push_of_some _ e)
  have hL : cenv.locals = s.heap.objs.size := by rw [← hcenv]; rfl
  have hcl : cenv.cells = cellsFrom (s.heap.objs.size + 1) scope.names (cloFrom X.env.cells scope.names []) := by rw [← hcenv]; rfl
  have hsc : cenv.scope = relS scope X.env.scope := by rw [← hcenv]; rfl
  rw [← Heap.size_push s.heap { cls := .type "dict", data := .dict #[] }] at hcl
  have cm : ∀ {y c}, (y, c) ∈ cloFrom X.env.cells scope.names [] → X.env.cells.lookup y = some c ∧ c < s.heap.objs.size := fun {y c} hm => by
    rcases cloFrom_mem hm with hm | ⟨h1, rfl⟩
    · cases hm
    · obtain ⟨c, hc⟩ := hfree _ h1 rfl
      rw [hc]
      obtain ⟨w, z⟩ := I.cell _ _ hc
      exact ⟨rfl, z.lt⟩
  have mem : ∀ {y c}, cenv.cells.lookup y = some c → (X.env.cells.lookup y = some c ∧ c < s.heap.objs.size) ∨ (s.heap.objs.size + 1 ≤ c ∧ CellAt (pushCells (s.heap.push { cls := .type "dict", data := .dict #[] }) scope.names) c none) := fun {y c} e => by
    rw [hcl] at e
    rcases cells_mem (PySem.mem_of_lookup e) with hm | ⟨_, h2, h3⟩
    · exact .inl (cm hm)
    · rw [Heap.size_push] at h2; exact .inr ⟨h2, h3⟩
  have look : ∀ {y}, scope.names.lookup y = some .free → ∃ c, cenv.cells.lookup y = some c ∧ X.env.cells.lookup y = some c := fun {y} hl => by
    have hy : (y, NameKind.free) ∈ scope.names := PySem.mem_of_lookup hl
    obtain ⟨c', e'⟩ := mem_lookup (cells_acc (names := scope.names) (n := (s.heap.push { cls := .type "dict", data := .dict #[] }).objs.size) (cloFrom_has (cells := X.env.cells) (acc := []) hy))
    rw [← hcl] at e'
    refine ⟨c', e', ?_⟩
    rw [hcl] at e'
    rcases cells_mem (PySem.mem_of_lookup e') with hm | ⟨h1, _, _⟩
    · exact (cm hm).1
    · have := ok.uniq _ h1
      rw [hl] at this; cases this
  have okB : (X.blk s H scope cenv fp).Ok := by
    refine ⟨I.ok.mod, by show cenv.scope.kind = _; rw [hsc]; exact ok.kind, by show cenv.globals = _; rw [← hcenv]; exact I.ok.glob, by show cenv.builtins = _; rw [← hcenv]; exact I.ok.blt, by show s.heap.objs.size ≤ cenv.locals; rw [hL]; exact Nat.le_refl _,
      fun y z c e1 e2 => ?_, fun y hy => ?_, fun y c z e => ?_, I.ok.hd, I.ok.frames, .inl rfl, fun b hb => ⟨?_, fun y c e z => ?_⟩, I.bs, Nat.le_trans I.ok.bsz I.sz, fun b o e hb => ?_, fun b hb z => ?_, I.stack, I.stkFree⟩
    · have e1 : cenv.cells.lookup y = some c := e1
      have e2 : cenv.cells.lookup z = some c := e2
      rw [hcl] at e1 e2
      refine cells_inj (fun p hp => ?_) (fun y z c a b => I.ok.inj y z c (cm a).1 (cm b).1) (PySem.mem_of_lookup e1) (PySem.mem_of_lookup e2)
      rw [Heap.size_push]
      exact Nat.lt_succ_of_lt (cm (y := p.1) (c := p.2) hp).2
    · show ∃ c, cenv.cells.lookup y = some c
      have key : ∀ k, cenv.kindOf y = some k → (k = .cell ∨ k = .free) → ∃ c, cenv.cells.lookup y = some c := fun k hk hk' => by
        unfold Env.kindOf at hk
        rw [hsc] at hk
        obtain ⟨k', e, r⟩ := lookup_relS hk
        have : k' = .cell ∨ k' = .free := by
          rcases r with rfl | ⟨rfl, _⟩
          · exact hk'
          · exact .inr rfl
        rcases this with rfl | rfl
        · obtain ⟨c, hm⟩ := cells_has (n := (s.heap.push { cls := .type "dict", data := .dict #[] }).objs.size) (acc := cloFrom X.env.cells scope.names []) (PySem.mem_of_lookup e)
          obtain ⟨c', e'⟩ := mem_lookup hm
          exact ⟨c', by rw [hcl]; exact e'⟩
        · obtain ⟨c, h1, _⟩ := look e
          exact ⟨c, h1⟩
      rcases hy with hy | hy
      · exact key _ hy (.inl rfl)
      · exact key _ hy (.inr rfl)
    · have z : (scope.names.lookup y == some NameKind.cell) = true := z
      have z : scope.names.lookup y = some .cell := by simpa using z
      have e : cenv.cells.lookup y = some c := e
      rw [hcl] at e
      rcases cells_mem (PySem.mem_of_lookup e) with hm | ⟨_, h2, _⟩
      · rcases cloFrom_mem hm with hm | ⟨h1, _⟩
        · cases hm
        · have q := ok.uniq _ h1
          rw [z] at q; cases q
      · rw [Heap.size_push] at h2
        exact Nat.le_of_succ_le h2
    · show b ≠ cenv.locals
      rw [hL]; exact Nat.ne_of_lt (hfp b hb).2
    · have e : cenv.cells.lookup y = some c := e
      rcases mem e with ⟨h1, _⟩ | ⟨h1, _⟩
      · exact (hfp b hb).1.2.2.2.2.1 y c h1 z
      · have h2 : s.heap.objs.size + 1 ≤ b := by rw [← z]; exact h1
        exact absurd (Nat.lt_of_lt_of_le (hfp b hb).2 (Nat.le_of_succ_le h2)) (Nat.lt_irrefl _)
    · rcases (hfp b hb).1.2.2.2.1 with z | z
      · exact I.ok.noex b o e z
      · exact absurd (Nat.lt_of_lt_of_le (Heap.lt_size e) (Nat.le_trans I.ok.bsz z)) (Nat.lt_irrefl _)
    · rcases List.mem_cons.mp (I.stkSub b z) with z | z
      · exact (hfp b hb).1.2.1 z
      · exact (hfp b hb).1.2.2.1 z
  refine ⟨okB, rfl, I.bare, Un.kept kp, ⟨fun _ => none, ?_, fun i y av e1 e2 e3 => ?_⟩, fun y c e => ?_, ?_, fun y c e => ?_, fun p hp => ?_, I.hok.kept kp, by rw [wipe_length]; exact I.len⟩
  · show Heap.Ns _ cenv.locals _
    rw [hL]
    exact Heap.Ns.keeps (Heap.Ns.new ..) fun b o e => pushCells_keeps _ _ _ _ e
  · obtain ⟨e2, hne⟩ := wipe_some e2
    have hfr : scope.names.lookup y = some .free ∧ (cenv.kindOf y = some .cell ∨ cenv.kindOf y = some .free) := by
      have key : ∀ k, cenv.scope.names.lookup y = some k → k = .local ∨ k = .cell ∨ k = .free → scope.names.lookup y = some .free ∧ (cenv.kindOf y = some .cell ∨ cenv.kindOf y = some .free) := fun k hk hk' => by
        have hk0 := hk
        rw [hsc] at hk
        obtain ⟨k', e, r⟩ := lookup_relS hk
        have no : ¬ (k' = .local ∨ k' = .cell) := fun hh => by
          rcases ok.own _ (PySem.mem_of_lookup e) hh with e' | e'
          · obtain ⟨p, hp, hpy⟩ := List.mem_map.mp e'
            have e3 := ok.ix p hp
            have : p.1 = y := hpy
            rw [this] at e3
            exact hne (List.mem_map.mpr ⟨p, hp, nodup_ix hN e3 e1⟩)
          · exact e' (List.mem_of_getElem? e1)
        rcases r with rfl | ⟨rfl, rfl⟩
        · rcases hk' with rfl | rfl | rfl
          · exact absurd (.inl rfl) no
          · exact absurd (.inr rfl) no
          · exact ⟨e, .inr hk0⟩
        · exact ⟨e, .inl hk0⟩
      have e3 : Vis cenv.scope y := e3
      rcases e3 with e3 | e3 | e3
      · exact key _ e3 (.inl rfl)
      · exact key _ e3 (.inr (.inl rfl))
      · exact key _ e3 (.inr (.inr rfl))
    obtain ⟨m, hn, hl⟩ := I.loc
    have hvis : Vis X.env.scope y := (ok.free _ (PySem.mem_of_lookup hfr.1) rfl).elim (fun k => .inr (.inl k)) (fun k => .inr (.inr k))
    obtain ⟨w, r, q⟩ := hl i y av e1 e2 hvis
    refine ⟨w, r, .inr ⟨hfr.2, ?_⟩⟩
    obtain ⟨c, h1, h2⟩ := look hfr.1
    rcases q with ⟨k, _⟩ | ⟨_, c', e', z⟩
    · have k : X.env.scope.names.lookup y = some .local := k
      rcases ok.free _ (PySem.mem_of_lookup hfr.1) rfl with k' | k' <;> rw [show X.env.scope.names.lookup y = _ from k'] at k <;> cases k
    · rw [h2] at e'; cases e'
      exact ⟨c, h1, z.keeps kp⟩
  · have e : cenv.cells.lookup y = some c := e
    rcases mem e with ⟨h1, _⟩ | ⟨_, z⟩
    · obtain ⟨w, z⟩ := I.cell y c h1
      exact ⟨w, z.keeps kp⟩
    · exact ⟨_, z⟩
  · show H cenv.locals = none
    rw [hL]; exact I.hok.fresh (Nat.le_refl _)
  · have e : cenv.cells.lookup y = some c := e
    rcases mem e with ⟨h1, _⟩ | ⟨h1, _⟩
    · exact I.freeC y c h1
    · exact I.hok.fresh (Nat.le_of_succ_le h1)
  · exact absurd (show p ∈ ([] : List (Addr × Obj)) ++ [] from hp) (by simp)
theorem app_ok {E : Value → Shared → Prop} {D : Addr} {xs : List V} {y : V} {v : Value} {Q : Value → Shared → Prop} (I : Inv X pins σ H s) (hD : H D = some (.lst xs)) (hz : xs.length < sizeLine) (r : RelV y v)
    (h : ∀ s', Inv X pins σ (upd H D (.lst (xs ++ [y]))) s' → Q .none s') : wpAny (model X.prog X.w) X.A (call (.builtin "list.append") [.ref D, v]) Q E s := by
  obtain ⟨hz', its, n, ri, e⟩ := I.hok D _ hD
  have hl := ri.length
  refine append_at (hsz := by rw [List.size_toArray]; omega) e fun h' sb ho' => ?_
  refine h { s with heap := h' } (I.write (t' := s.toks) (by rw [hD]; trivial) (.inl rfl) (fun b u hb q => (sb.2 b hb).trans q) ⟨_, ho'⟩ ⟨by rw [List.length_append]; exact hz, its ++ [v], n + 1, ri.append (.cons r .nil), ?_⟩)
  rw [ho']
  simp
def PTs (X : Cx) (ifs : List Expr) (t : TT) : Prop :=
  ∀ (pins : List (Addr × Obj)) (s : Shared) (σ : St) (H : Hp) (Q : Bool → Hp → Prop), Inv X pins σ H s → t σ H Q →
    wpAny (model X.prog X.w) X.A (forIn ifs true fun c r => if r = true then do let ok ← isTrue c X.env (eval c X.env); pure (ForInStep.yield ok) else pure (ForInStep.yield r)) (TP X pins σ Q) X.xe s
def tYes : TT := fun _ H Q => Q true H
theorem pts_nil : PTs X [] tYes := fun _ _ _ H _ I h => wpAny_tests_nil ⟨H, I, h⟩
theorem pts_one {c : Expr} {t : TT} (h : PT X c t) : PTs X [c] t := fun pins s σ H Q I hw => wpAny_tests_one (h pins s σ H Q I hw)
end
theorem thnF {α : Type} {t : Sem α} {Q Q' : α → Shared → Prop} {M : Model} {A : Around} {E : Value → Shared → Prop} {s : Shared} (h : wpAny M A t Q (fun _ _ => False) s) (hQ : ∀ a s, Q a s → Q' a s) : wpAny M A t Q' E s := wpAny_mono h hQ fun _ _ z => False.elim z
theorem compLoop_any {prog : Program} {w : World} {A : Around} {R : Result → Shared → Prop} {s : Shared} {elt target iter : Expr} {ifs : List Expr} {scope : Scope} {pos : Pos} {it acc : Value} {env : Env} (I : Nat → Shared → Prop)
    (turn : ∀ n s, I n s → wpAny (model prog w) A (pyNext it) (fun r s₁ => match r with
      | none => R (.ok .next) s₁
      | some v => wpAny (model prog w) A (letOwnedTupleGo target it v) (fun _ s₁' => wpAny (model prog w) A (assign target env v) (fun _ s₂ =>
          wpAny (model prog w) A (forIn ifs true fun c r => if r = true then do let ok ← isTrue c env (eval c env); pure (ForInStep.yield ok) else pure (ForInStep.yield r)) (fun ok s₃ =>
            if ok = true then wpAny (model prog w) A (eval elt env) (fun x s₄ =>
              wpAny (model prog w) A (call (.builtin "list.append") [acc, x]) (fun _ s₅ => ∃ m, m < n ∧ I m s₅) (notedBy (model prog w) A env fun e s' => R (.error e) s') s₄) (notedBy (model prog w) A env fun e s' => R (.error e) s') s₃
            else ∃ m, m < n ∧ I m s₃) (notedBy (model prog w) A env fun e s' => R (.error e) s') s₂) (notedBy (model prog w) A env fun e s' => R (.error e) s') s₁') (notedBy (model prog w) A env fun e s' => R (.error e) s') s₁) (notedBy (model prog w) A env fun e s' => R (.error e) s') s)
    (n : Nat) (h : I n s) :
    codeAny (model prog w) A (.compLoop (.ListComp elt [⟨target, iter, ifs, 0⟩] scope pos) 0 it acc env) R s := by
  refine codeAny_loop rfl I (fun n s hI => ?_) n h
  show wpAny _ A ((compTurn (.ListComp elt [⟨target, iter, ifs, 0⟩] scope pos) 0 it acc env).onRaise (fun x => do noteFrame x env; theTreesLotGoes x)) _ _ s
  refine wpAny_noted ?_
  rw [compTurn_list]
  refine wpAny_bind (wpAny_standAt (wpAny_bind (wpAny_mono (turn n s hI) (fun r s₁ h₁ => ?_) fun _ _ h' => h')))
  cases r with
  | none => exact wpAny_pure h₁
  | some v =>
    refine wpAny_bind (wpAny_mono h₁ (fun _ s₁' h₁' => ?_) fun _ _ h' => h')
    refine wpAny_bind (wpAny_mono h₁' (fun _ s₂ h₂ => wpAny_bind (wpAny_mono h₂ (fun ok s₃ h₃ => ?_) fun _ _ h' => h')) fun _ _ h' => h')
    cases ok with
    | false => exact wpAny_pure ⟨rfl, h₃⟩
    | true =>
      exact wpAny_bind (wpAny_bind (wpAny_mono h₃ (fun x s₄ h₄ => wpAny_bind (wpAny_mono h₄ (fun _ s₅ h₅ => wpAny_pure (wpAny_pure ⟨rfl, h₅⟩)) fun _ _ h' => h')) fun _ _ h' => h'))
section
variable {X : Cx}
def tLc (wi : TI) (g : TG) (tt : TT) (te : TE) (vs : List Nat) : TE := fun σ H Q => wi σ H fun J H1 => ∀ D, H1 D = none → ∃ W : Nat → Nat → Hp → Prop, (∃ m, W 0 m (upd H1 D (.lst []))) ∧ ∀ i m H, W i m H →
  (J.stop i H ∧ Q (.ref D) H) ∨ (J.go i H ∧ ∃ Nx : Hp → Prop, (∀ H', Nx H' → ∃ m', m' < m ∧ W (i + 1) m' H') ∧ ∀ x H', J.yld i H x H' → g x (wipe σ vs) H' fun σ2 H2 => wipe σ2 vs = wipe σ vs ∧ tt σ2 H2 fun b H3 =>
    if b = true then te σ2 H3 fun y H4 => ∃ acc, H4 D = some (.lst acc) ∧ acc.length < sizeLine ∧ Nx (upd H4 D (.lst (acc ++ [y]))) else Nx H3)
theorem lc_core {pins : List (Addr × Obj)} {s : Shared} {σ : St} {H : Hp} {Q : VK} {elt tg iter : Expr} {ifs : List Expr} {scope : Scope} {own : List (Str × Nat)} {pos pos' : Pos} {wi : TI} {g : TG} {tt : TT} {te : TE} {use : Option (Value → Sem Unit)} {Qf : Value → Shared → Prop}
    (hc : X.calm = true) (hN : X.N.Nodup) (I : Inv X pins σ H s) (hi : PI X tg iter wi) (ok : BlkOk X.N X.env.scope scope own)
    (hg : ∀ (s : Shared) (H : Hp) (C : Addr) (cl : List (Str × Addr)) (fp : List Addr), PG (X.blk s H scope (compEnvC scope cl C X.env) fp) tg g) (ht : ∀ (s : Shared) (H : Hp) (C : Addr) (cl : List (Str × Addr)) (fp : List Addr), PTs (X.blk s H scope (compEnvC scope cl C X.env) fp) ifs tt)
    (he : ∀ (s : Shared) (H : Hp) (C : Addr) (cl : List (Str × Addr)) (fp : List Addr), PE (X.blk s H scope (compEnvC scope cl C X.env) fp) elt te) (hs : ∀ x, foldedSetIterable iter X.env x = pure x)
    (h : tLc wi g tt te (own.map (·.2)) σ H Q)
    (hRR : ∀ D C s' m H', Inv X pins σ H' s' → Q (.ref D) H' → s'.heap.Ns C m → FpOk X pins H' C → compPost (model X.prog X.w) X.A X.xe use Qf (.ref D) C (.ok .next) s') :
    wpAny (model X.prog X.w) X.A (comprehension (.ListComp elt [⟨tg, iter, ifs, 0⟩] scope pos) scope X.env pos' (newList []) false (eval iter X.env) use) Qf X.xe s := by
  have hfree : ∀ y ∈ scope.names, y.2 = .free → ∃ c, X.env.cells.lookup y.1 = some c := fun y hy e => by
    rcases ok.free y hy e with k | k
    · exact I.ok.has _ (.inl k)
    · exact I.ok.has _ (.inr k)
  refine wpAny_comprehension_free (use := use) rfl hs (closure_ok hfree) ok.kind (fun y hy e => by rw [ok.uniq y hy, e])
    (thn (hi pins s σ H _ I h) fun xv s1 hx => thn hx fun itv s2 h2 => ?_)
  obtain ⟨it, fp, tn, J, H2, e, I2, T, st2, f2, q⟩ := h2
  subst e
  refine wpAny_newObj_type (newEnv_comp ?_) (by show 0 ≤ sizeLine; decide)
  generalize hD : s2.heap.objs.size = D
  have hDn : H2 D = none := I2.hok.fresh (Nat.le_of_eq hD)
  obtain ⟨W, ⟨m0, w0⟩, turn⟩ := q D hDn
  -- the new list
  generalize hs3 : ({ s2 with heap := s2.heap.push { cls := .type "list", data := .seq ([] : List Value).toArray } } : Shared) = s3
  have I3 : Inv X pins σ (upd H2 D (.lst [])) s3 := by
    rw [← hs3]
    refine I2.laid (t' := s2.toks) (fun b o e => Heap.get?_push_of_some _ e) (Nat.le_of_eq hD) ⟨Nat.zero_le _, [], 0, .nil, ?_⟩
    rw [← hD]
    exact Heap.get?_push_size _ rfl
  have h3 : s3.heap = s2.heap.push { cls := .type "list", data := .seq ([] : List Value).toArray } := by rw [← hs3]
  have sz : ∀ b ∈ fp, b < s2.heap.objs.size := fun b hb => by
    obtain ⟨o, e, _⟩ := T.obj _ _ st2 b hb
    exact Heap.lt_size e
  have f3 : ∀ b ∈ fp, FpOk X pins (upd H2 D (.lst [])) b ∧ b < s3.heap.objs.size := fun b hb => by
    have hlt := sz b hb
    refine ⟨⟨?_, (f2 b hb).2⟩, by rw [h3, Heap.size_push]; exact Nat.lt_succ_of_lt hlt⟩
    rw [upd_ne (by rw [← hD]; exact Nat.ne_of_lt hlt)]
    exact (f2 b hb).1
  have st3 : tn 0 s3.heap := T.keep _ _ _ st2 fun b _ o e => by rw [h3]; exact Heap.get?_push_of_some _ e
  have I4 := block_start I3 ok hN f3
  have pg := hg s3 (upd H2 D (.lst [])) s3.heap.objs.size (cellsFrom (s3.heap.objs.size + 1) scope.names (cloFrom X.env.cells scope.names [])) fp
  have pt := ht s3 (upd H2 D (.lst [])) s3.heap.objs.size (cellsFrom (s3.heap.objs.size + 1) scope.names (cloFrom X.env.cells scope.names [])) fp
  have pe := he s3 (upd H2 D (.lst [])) s3.heap.objs.size (cellsFrom (s3.heap.objs.size + 1) scope.names (cloFrom X.env.cells scope.names [])) fp
  show codeAny _ _ (.compStart (.ListComp elt [⟨tg, iter, ifs, 0⟩] scope pos) 0 (.ref it) (.ref D) (compEnvC scope (cellsFrom (s3.heap.objs.size + 1) scope.names (cloFrom X.env.cells scope.names [])) s3.heap.objs.size X.env)) (compPost (model X.prog X.w) X.A X.xe use Qf (.ref D) s3.heap.objs.size) { s3 with heap := pushCells (s3.heap.push { cls := .type "dict", data := .dict #[] }) scope.names }
  have nfp : ∀ b ∈ fp, (upd H2 D (.lst [])) b = none := fun b hb => (f3 b hb).1.1
  generalize hce : compEnvC scope (cellsFrom (s3.heap.objs.size + 1) scope.names (cloFrom X.env.cells scope.names [])) s3.heap.objs.size X.env = ce at I4 pg pt pe ⊢
  have cL : ce.locals = s3.heap.objs.size := by subst hce; rfl
  generalize hH3 : upd H2 D (.lst []) = H3 at I3 I4 pg pt pe w0 nfp f3
  generalize hs4 : ({ s3 with heap := pushCells (s3.heap.push { cls := .type "dict", data := .dict #[] }) scope.names } : Shared) = s4 at I4 ⊢
  have st4 : tn 0 s4.heap := T.keep _ _ _ st3 fun b _ o e => by rw [← hs4]; exact pushCells_keeps _ _ _ _ (Heap.get?_push_of_some _ e)
  have stat : ∀ {σ' : St} {H' : Hp} {s' : Shared}, Inv (X.blk s3 H3 scope ce fp) [] σ' H' s' → (∀ b ∈ fp, H' b = none) → ∀ b ∈ fp, FpOk (X.blk s3 H3 scope ce fp) [] H' b := fun {σ' H' s'} I' hn b hb =>
    ⟨hn b hb, (I'.ok.exf b hb).1, I'.ok.exfs b hb, .inl hb, fun x c e => (I'.ok.exf b hb).2 x c e, fun p hp => absurd (show p ∈ ([] : List (Addr × Obj)) ++ [] from hp) (by simp)⟩
  have loop : codeAny (model X.prog X.w) X.A (.compLoop (.ListComp elt [⟨tg, iter, ifs, 0⟩] scope pos) 0 (.ref it) (.ref D) ce) (compPost (model X.prog X.w) X.A X.xe use Qf (.ref D) s3.heap.objs.size) s4 := by
    refine compLoop_any (fun n s' => ∃ i H', Inv (X.blk s3 H3 scope ce fp) [] (wipe σ (own.map (·.2))) H' s' ∧ tn i s'.heap ∧ (∀ b ∈ fp, H' b = none) ∧ W i n H') ?_ m0 ⟨0, H3, I4, st4, nfp, w0⟩
    rintro n s5 ⟨i, H5, I5, st5, n5, w5⟩
    rcases turn i n H5 w5 with ⟨stop, qq⟩ | ⟨go, Nx, hNx, step⟩
    · have td := T.done (X.blk s3 H3 scope ce fp) rfl rfl rfl hc i [] s5 _ H5 (fun _ _ => False) I5 (stat I5 n5) st5 stop
      refine thnF td fun r s6 ⟨hr, I6⟩ => ?_
      subst hr
      -- back in the def's context
      have I7 : Inv X pins σ H5 s6 := I3.call' (ch := fp) I6.os I6.base I6.hok I6.bare fun b hb => ⟨(f3 b hb).1.2.2.2.1, (f3 b hb).1.2.1, (f3 b hb).1.2.2.2.2.1, (f3 b hb).1.2.2.2.2.2⟩
      have nC : H5 s3.heap.objs.size = none := by
        have z : H5 ce.locals = none := I6.free
        rw [cL] at z
        exact z
      obtain ⟨m, hn, _⟩ := I6.loc
      have hn : s6.heap.Ns ce.locals m := hn
      rw [cL] at hn
      exact hRR D s3.heap.objs.size s6 m H5 I7 qq hn (I3.fpOk (Nat.le_refl _) nC)
    · have ti := T.item (X.blk s3 H3 scope ce fp) rfl rfl rfl hc i [] s5 _ H5 (fun _ _ => False) I5 (stat I5 n5) st5 go
      refine thnF ti fun r s6 ⟨u, hr, h6⟩ => ?_
      subst hr
      refine thnF h6 fun _ s7 ⟨x, H7, I7, r7, y7, st7, n7⟩ => ?_
      have I7' := I7.pinned (stat I7 n7) (T.obj _ _ st7)
      refine thnF (pg _ s7 _ H7 x u _ I7' r7 (step x H7 y7)) fun _ s8 ⟨σ8, H8, I8, hw8, q8⟩ => ?_
      refine thnF (pt _ s8 σ8 H8 _ I8 q8) fun b s9 ⟨H9, I9, q9⟩ => ?_
      -- the turn's end
      have fin : ∀ {s' : Shared} {H' : Hp}, Inv (X.blk s3 H3 scope ce fp) ([] ++ pinsAt fp s7.heap) σ8 H' s' → Nx H' → ∃ m, m < n ∧ ∃ i H', Inv (X.blk s3 H3 scope ce fp) [] (wipe σ (own.map (·.2))) H' s' ∧ tn i s'.heap ∧ (∀ b ∈ fp, H' b = none) ∧ W i m H' := fun {s' H'} I' nx => by
        obtain ⟨m', hm, w'⟩ := hNx H' nx
        have pin' : ∀ b ∈ fp, ∀ o, s7.heap.get? b = some o → s'.heap.get? b = some o ∧ H' b = none := fun b hb o e =>
          let z := I'.pin (b, o) (List.mem_append_right _ (List.mem_append_right _ (mem_pinsAt hb e)))
          ⟨z.1, z.2.1⟩
        have hl : (wipe σ (own.map (·.2))).length = σ8.length := by rw [← hw8, wipe_length]
        refine ⟨m', hm, i + 1, H', (I'.unpinned (pins := [])).weak hl (fun j v e => ?_), T.keep _ _ _ st7 fun b hb o e => (pin' b hb o e).1, fun b hb => ?_, w'⟩
        · rw [← hw8] at e
          exact (wipe_some e).1
        · obtain ⟨o, e, _⟩ := T.obj _ _ st7 b hb
          exact (pin' b hb o e).2
      cases b with
      | false =>
        simp only [Bool.false_eq_true, if_false] at q9 ⊢
        exact fin I9 q9
      | true =>
        simp only [if_true] at q9 ⊢
        refine thnF (pe _ s9 σ8 H9 _ I9 q9) fun z s10 ⟨yv, H10, I10, r10, acc, hD10, hz10, nx⟩ => ?_
        exact app_ok (X := X.blk s3 H3 scope ce fp) I10 hD10 hz10 r10 fun s11 I11 => fin I11 nx
  exact codeAny_compStart_list loop (T.self X.A 0 _ _ _ st4 loop)
theorem pe_lc {elt tg iter : Expr} {ifs : List Expr} {scope : Scope} {own : List (Str × Nat)} {pos : Pos} {wi : TI} {g : TG} {tt : TT} {te : TE} (hc : X.calm = true) (hN : X.N.Nodup) (hi : PI X tg iter wi) (ok : BlkOk X.N X.env.scope scope own)
    (hg : ∀ (s : Shared) (H : Hp) (C : Addr) (cl : List (Str × Addr)) (fp : List Addr), PG (X.blk s H scope (compEnvC scope cl C X.env) fp) tg g) (ht : ∀ (s : Shared) (H : Hp) (C : Addr) (cl : List (Str × Addr)) (fp : List Addr), PTs (X.blk s H scope (compEnvC scope cl C X.env) fp) ifs tt)
    (he : ∀ (s : Shared) (H : Hp) (C : Addr) (cl : List (Str × Addr)) (fp : List Addr), PE (X.blk s H scope (compEnvC scope cl C X.env) fp) elt te) (hs : ∀ x, foldedSetIterable iter X.env x = pure x := by intro _; rfl) :
    PE X (.ListComp elt [⟨tg, iter, ifs, 0⟩] scope pos) (tLc wi g tt te (own.map (·.2))) := by
  intro pins s σ H Q I h
  rw [eval_ListComp]
  refine lc_core hc hN I hi ok hg ht he hs h fun D C s' m H' I' q hn f => ⟨m, hn, fun h'' sb => ?_⟩
  obtain ⟨f0, f1, f2, f3, f4, f5⟩ := f
  exact ⟨.ref D, H', I'.turned (t' := s'.toks) (fun b o hb e => (sb.2 b hb).trans e) f0 f1 f3 f4 f5, rfl, q⟩
theorem ps_setLc {i : Nat} {y : Str} {py : Pos} {elt tg iter : Expr} {ifs : List Expr} {scope : Scope} {own : List (Str × Nat)} {pos spos : Pos} {wi : TI} {g : TG} {tt : TT} {te : TE} (hc : X.calm = true) (hN : X.N.Nodup) (hy : X.N[i]? = some y) (hyl : X.env.scope.names.lookup y = some .local)
    (hsw : swapsWith (.ListComp elt [⟨tg, iter, ifs, 0⟩] scope pos) (some (.Name y py)) spos.line X.env = pure true) (hi : PI X tg iter wi) (ok : BlkOk X.N X.env.scope scope own)
    (hg : ∀ (s : Shared) (H : Hp) (C : Addr) (cl : List (Str × Addr)) (fp : List Addr), PG (X.blk s H scope (compEnvC scope cl C X.env) fp) tg g) (ht : ∀ (s : Shared) (H : Hp) (C : Addr) (cl : List (Str × Addr)) (fp : List Addr), PTs (X.blk s H scope (compEnvC scope cl C X.env) fp) ifs tt)
    (he : ∀ (s : Shared) (H : Hp) (C : Addr) (cl : List (Str × Addr)) (fp : List Addr), PE (X.blk s H scope (compEnvC scope cl C X.env) fp) elt te) (hs : ∀ x, foldedSetIterable iter X.env x = pure x := by intro _; rfl) :
    PS X (.Assign [.Name y py] (.ListComp elt [⟨tg, iter, ifs, 0⟩] scope pos) spos) (tAsg (tLc wi g tt te (own.map (·.2))) (gName i)) := by
  intro pins s σ H D I h
  rw [exec_Assign_Name_used _ _ _ _ hsw]
  refine wpAny_bind (wpAny_standAt (wpAny_bind ?_))
  show wpAny _ X.A (do let _ ← comprehension (.ListComp elt [⟨tg, iter, ifs, 0⟩] scope pos) scope X.env (firstIterPos [⟨tg, iter, ifs, 0⟩] pos) (newList []) false (eval iter X.env) (some (assign (.Name y py) X.env))) _ _ s
  have h : tLc wi g tt te (own.map (·.2)) σ H (fun x H1 => gName i x σ H1 D.nx) := h
  refine wpAny_bind (thn (lc_core (Qf := fun _ s' => SP X pins D .next s') hc hN I hi ok hg ht he hs h fun L C s' m H' I' q hn f => ?_) fun _ s' hq => wpAny_pure (wpAny_pure hq))
  show wpAny _ _ (assign (.Name y py) X.env (.ref L)) _ _ _
  refine wpAny_assign_Name (store_ok2 (v := V.ref L) I' hN hy (.inl hyl) rfl (fun s2 I2 ⟨a, sb, ha⟩ => ?_) (.inr hyl))
  obtain ⟨f0, f1, f2, f3, f4, f5⟩ := f
  have haC : C ≠ a := by
    rcases ha with z | z
    · rw [z]; exact f1
    · exact fun e => f4 y a z e.symm
  refine ⟨m, hn.sameBut sb haC, fun h3 sb3 => ?_⟩
  exact ⟨_, H', I2.turned (t' := s2.toks) (fun b o hb e => (sb3.2 b hb).trans e) f0 f1 f3 f4 f5, q⟩
theorem sw_true {elt : Expr} {gs : List Comprehension} {scope : Scope} {pos py : Pos} {y : Str} {l : Nat} {env : Env} (hk : env.scope.kind = .function) (hy : env.scope.names.lookup y = some .local) (hl : (py.line == pos.line) = true)
    (ha : (scope.names.any fun (n, k) => n == y && (k == .local || k == .cell)) = false) : swapsWith (.ListComp elt gs scope pos) (some (.Name y py)) l env = pure true := by
  have ky : env.kindOf y = some .local := hy
  have hb : env.blockKind = .function := by unfold Env.blockKind; rw [hk]; rfl
  unfold swapsWith
  simp only [hb, ky, ha, Expr.pos, hl]
  rfl
end
theorem lc_range {lo : Int} {n : Nat} {g : TG} {tt : TT} {te : TE} {vs : List Nat} {σ : St} {H1 : Hp} {D : Addr} {Qd : Hp → Prop} (Pv : Nat → Hp → Prop) (h0 : Pv 0 (upd H1 D (.lst [])))
    (hs : ∀ i H, i < n → Pv i H → g (.int (lo + i)) (wipe σ vs) H fun σ2 H2 => wipe σ2 vs = wipe σ vs ∧ tt σ2 H2 fun b H3 =>
      if b = true then te σ2 H3 fun y H4 => ∃ acc, H4 D = some (.lst acc) ∧ acc.length < sizeLine ∧ Pv (i + 1) (upd H4 D (.lst (acc ++ [y]))) else Pv (i + 1) H3) (hd : ∀ H, Pv n H → Qd H) :
    ∃ W : Nat → Nat → Hp → Prop, (∃ m, W 0 m (upd H1 D (.lst []))) ∧ ∀ i m H, W i m H →
      ((Itr lo n).stop i H ∧ Qd H) ∨ ((Itr lo n).go i H ∧ ∃ Nx : Hp → Prop, (∀ H', Nx H' → ∃ m', m' < m ∧ W (i + 1) m' H') ∧ ∀ x H', (Itr lo n).yld i H x H' → g x (wipe σ vs) H' fun σ2 H2 => wipe σ2 vs = wipe σ vs ∧ tt σ2 H2 fun b H3 =>
        if b = true then te σ2 H3 fun y H4 => ∃ acc, H4 D = some (.lst acc) ∧ acc.length < sizeLine ∧ Nx (upd H4 D (.lst (acc ++ [y]))) else Nx H3) := by
  refine ⟨fun i m H => m = n - i ∧ i ≤ n ∧ Pv i H, ⟨n, by simp, Nat.zero_le _, h0⟩, ?_⟩
  rintro i m H ⟨rfl, hi, p⟩
  by_cases hlt : i < n
  · refine .inr ⟨hlt, Pv (i + 1), fun H' p' => ⟨n - (i + 1), by omega, rfl, hlt, p'⟩, fun x H' y => ?_⟩
    obtain ⟨e, y⟩ := y
    subst e y
    exact hs i _ hlt p
  · have e : i = n := by omega
    subst e
    exact .inl ⟨Nat.le_refl _, hd H p⟩
theorem lc_list {K : PySem.W.Frag} {a : Addr} {xs : List V} {g : TG} {tt : TT} {te : TE} {vs : List Nat} {σ : St} {H1 : Hp} {D : Addr} {Qd : Hp → Prop} (Pv : Nat → Hp → Prop) (h0 : Pv 0 (upd H1 D (.lst []))) (hl : ∀ i H, i ≤ xs.length → Pv i H → SqL K H a xs)
    (hs : ∀ i x H, xs[i]? = some x → Pv i H → g x (wipe σ vs) H fun σ2 H2 => wipe σ2 vs = wipe σ vs ∧ tt σ2 H2 fun b H3 =>
      if b = true then te σ2 H3 fun y H4 => ∃ acc, H4 D = some (.lst acc) ∧ acc.length < sizeLine ∧ Pv (i + 1) (upd H4 D (.lst (acc ++ [y]))) else Pv (i + 1) H3) (hd : ∀ H, Pv xs.length H → Qd H) :
    ∃ W : Nat → Nat → Hp → Prop, (∃ m, W 0 m (upd H1 D (.lst []))) ∧ ∀ i m H, W i m H →
      ((Itl K a).stop i H ∧ Qd H) ∨ ((Itl K a).go i H ∧ ∃ Nx : Hp → Prop, (∀ H', Nx H' → ∃ m', m' < m ∧ W (i + 1) m' H') ∧ ∀ x H', (Itl K a).yld i H x H' → g x (wipe σ vs) H' fun σ2 H2 => wipe σ2 vs = wipe σ vs ∧ tt σ2 H2 fun b H3 =>
        if b = true then te σ2 H3 fun y H4 => ∃ acc, H4 D = some (.lst acc) ∧ acc.length < sizeLine ∧ Nx (upd H4 D (.lst (acc ++ [y]))) else Nx H3) := by
  refine ⟨fun i m H => m = xs.length - i ∧ i ≤ xs.length ∧ Pv i H, ⟨xs.length, by simp, Nat.zero_le _, h0⟩, ?_⟩
  rintro i m H ⟨rfl, hi, p⟩
  have q := hl i H hi p
  by_cases hlt : i < xs.length
  · refine .inr ⟨⟨xs, xs[i], q, by simp [hlt]⟩, Pv (i + 1), fun H' p' => ⟨xs.length - (i + 1), by omega, rfl, hlt, p'⟩, fun x H' y => ?_⟩
    obtain ⟨e, y⟩ := y
    subst e
    exact hs i x _ (y xs q) p
  · have e : i = xs.length := by omega
    subst e
    exact .inl ⟨⟨xs, q, Nat.le_refl _⟩, hd H p⟩
def blkC (N : List Str) (sc scope : Scope) (own : List (Str × Nat)) : Bool :=
  (match scope.kind with | .function => true | _ => false) && (scope.names.all fun y => decide (scope.names.lookup y.1 = some y.2)) && (own.all fun p => decide (N[p.2]? = some p.1)) &&
    (scope.names.all fun y => match y.2 with
      | .free => (match sc.names.lookup y.1 with | some .cell => true | some .free => true | _ => false)
      | .local => decide (y.1 ∈ own.map (·.1)) || decide (y.1 ∉ N)
      | .cell => decide (y.1 ∈ own.map (·.1)) || decide (y.1 ∉ N)
      | _ => true)
theorem blkOk_by {N : List Str} {sc scope : Scope} {own : List (Str × Nat)} (h : blkC N sc scope own = true) : BlkOk N sc scope own := by
  unfold blkC at h
  simp only [Bool.and_eq_true, List.all_eq_true, decide_eq_true_eq] at h
  obtain ⟨⟨⟨h1, h2⟩, h3⟩, h4⟩ := h
  refine ⟨?_, h2, h3, fun y hy e => ?_, fun y hy e => ?_⟩
  · split at h1
    · assumption
    · cases h1
  · have q := h4 y hy
    simp only [e] at q
    split at q <;> first | exact .inl (by assumption) | exact .inr (by assumption) | cases q
  · have q := h4 y hy
    rcases e with e | e <;> (simp only [e, Bool.or_eq_true, decide_eq_true_eq] at q; exact q)
end L2
namespace L2
open PySem PySem.Spec PyProof.Rows
section
variable {X : Cx}
theorem pi_one {tg : Expr} {pins : List (Addr × Obj)} {σ : St} {H : Hp} {s : Shared} {R : It → Hp → Prop} {J : It} {tn : Nat → Heap → Prop} {tk : Nat} (I : Inv X pins σ H s) (o : Obj)
    (T : Turn X.prog X.w X.K tg J [s.heap.objs.size] s.heap.objs.size tn) (st : tn 0 (s.heap.push o)) (q : R J H) : PIE X pins σ tg R (.ref s.heap.objs.size) { s with heap := s.heap.push o, toks := tk } := by
  refine ⟨s.heap.objs.size, [s.heap.objs.size], tn, J, H, rfl, I.kept fun b ob e => Heap.get?_push_of_some _ e, T, st, fun b hb => ?_, q⟩
  have e : b = s.heap.objs.size := by simpa using hb
  subst e
  exact I.fpOk (Nat.le_refl _) (I.hok.fresh (Nat.le_refl _))
end
def Itc (lo c : Int) (n : Nat) : It := ⟨fun i _ => i < n, fun i H x H' => H' = H ∧ x = .int (lo + (i : Nat) * c), fun i _ => n ≤ i⟩
theorem turn_rangeC {P : Program} {w : World} {K : PySem.W.Frag} {tg : Expr} (it : Addr) (lo c : Int) (n : Nat) : Turn P w K tg (Itc lo c n) [it] it (fun i h => IsRangeIter h it (lo + (i : Nat) * c) ((n : Int) - (i : Nat)) c) where
  mem := by simp
  obj := fun i h st b hb => by
    have e : b = it := by simpa using hb
    subst e
    exact ⟨_, st, fun v z => nomatch z⟩
  keep := fun i h h' st k => k it (by simp) _ st
  item := by
    intro X hP hw hK hc i pins s σ H E I hf st hg
    subst hP hw hK
    obtain ⟨f0, f1, f2, f3, f4, f5⟩ := hf it (by simp)
    have W := Walks.range (prog := X.prog) (w := X.w) (I.ok.hd hc) it lo c n
    refine W.item i s _ _ hg st fun v h' tk hv st' kk => ?_
    obtain ⟨t, rfl⟩ := hv
    have I1 : Inv X pins σ H { s with heap := h', toks := tk } := I.turned (fun b o hb e => kk b o (by simpa using hb) e) f0 f1 f3 f4 f5
    exact ⟨_, rfl, go_of (s := { s with heap := h', toks := tk }) (n := "range_iterator") st' rfl rfl (by decide) ⟨.int (lo + (i : Nat) * c), H, I1, ⟨t, rfl⟩, ⟨rfl, rfl⟩, st', fun b hb => (hf b hb).1⟩⟩
  done := by
    intro X hP hw hK hc i pins s σ H E I hf st hg
    subst hP hw hK
    obtain ⟨f0, f1, f2, f3, f4, f5⟩ := hf it (by simp)
    exact wpAny_pyNext_range_end (I.ok.hd hc) st (by have : n ≤ i := hg; omega) fun h' eb => ⟨rfl, I.turned (t' := s.toks) (fun b o hb e => eb b o hb e) f0 f1 f3 f4 f5⟩
  self := fun A i s Q E st h => wpAny_pyIter_rangeiter st h
def RgC (i j c : Int) (n : Nat) : Prop := c ≠ 0 ∧ c.natAbs < 1073741824 ∧ Builtin.Range.small i j c = true ∧ Builtin.Range.rangeSize i j c = n
def iRng3 (ta : TA) : TI := fun σ H R => ta σ H fun vs H1 => ∃ (i j c : Int) (n : Nat), vs = [.int i, .int j, .int c] ∧ RgC i j c n ∧ R (Itc i c n) H1
section
variable {X : Cx} {tg : Expr}
theorem pi_range3 {a b c : Expr} {ta : TA} {p pos : Pos} (hg : Gl X "range") (hm : X.mg "range" = none) (ha : PA X [a, b, c] ta)
    (hs : starEach [a, b, c] X.env = (false, eval a X.env) :: starEach [b, c] X.env := by rfl) (hpl : (backTo pos (starEach [b, c] X.env)).any (·.1) = false := by rfl) :
    PI X tg (.Call (.Name "range" p) [a, b, c] [] pos) (iRng3 ta) := by
  intro pins s σ H R I h
  refine Call_ (ld_blt I hg hm boot_range (PyProof.Rows.callWith_type1 (thn (ha pos pins s σ H _ I h) fun us s1 ⟨vs, H1, I1, r1, q1⟩ => ?_) hs hpl))
  obtain ⟨i, j, k, n, e, ⟨c0, c1, c2, c3⟩, q⟩ := q1
  subst e
  cases r1 with
  | cons r rr =>
    cases rr with
    | cons r' rr =>
      cases rr with
      | cons r'' rr =>
        cases rr
        obtain ⟨t, rfl⟩ := r
        obtain ⟨t', rfl⟩ := r'
        obtain ⟨t'', rfl⟩ := r''
        refine call_range_3 c0 ?_ (.inl (PyProof.noPylong_small c1))
        refine wpAny_pyIter_range (IsRange.new ..) c2 ?_
        have I2 : Inv X pins σ H1 { s1 with heap := s1.heap.push { cls := .type "range", data := .fields #[.int i t, .int j t', .int k t''] } } := I1.kept (t' := s1.toks) fun b o e => Heap.get?_push_of_some _ e
        refine pi_one (tk := s1.toks) I2 _ (turn_rangeC _ i k n) ?_ q
        have e1 : i + ((0 : Nat) : Int) * k = i := by simp
        have e2 : (n : Int) - ((0 : Nat) : Int) = Builtin.Range.rangeSize i j k := by rw [c3]; simp
        show IsRangeIter _ _ (i + ((0 : Nat) : Int) * k) ((n : Int) - ((0 : Nat) : Int)) k
        rw [e1, e2]
        exact Heap.get?_push_size _ rfl
end
theorem for_rangeC {lo c : Int} {n : Nat} {g : TG} {tb : TS} {D : Ends} {σ : St} {H : Hp} (Pv : Nat → St → Hp → Prop) (h0 : Pv 0 σ H)
    (hs : ∀ i σ H, i < n → Pv i σ H → g (.int (lo + (i : Nat) * c)) σ H fun σ2 H2 => tb { D with nx := Pv (i + 1), ct := Pv (i + 1), bk := D.nx } σ2 H2) (hd : ∀ σ H, Pv n σ H → D.nx σ H) :
    ∃ W : Nat → Nat → St → Hp → Prop, (∃ m, W 0 m σ H) ∧ ∀ i m σ H, W i m σ H →
      ((Itc lo c n).stop i H ∧ D.nx σ H) ∨ ((Itc lo c n).go i H ∧ ∃ N : St → Hp → Prop, (∀ σ' H', N σ' H' → ∃ m', m' < m ∧ W (i + 1) m' σ' H') ∧ ∀ x H', (Itc lo c n).yld i H x H' → g x σ H' fun σ2 H2 => tb { D with nx := N, ct := N, bk := D.nx } σ2 H2) := by
  refine ⟨fun i m σ H => m = n - i ∧ i ≤ n ∧ Pv i σ H, ⟨n, by simp, Nat.zero_le _, h0⟩, ?_⟩
  rintro i m σ H ⟨rfl, hi, p⟩
  by_cases hlt : i < n
  · refine .inr ⟨hlt, Pv (i + 1), fun σ' H' p' => ⟨n - (i + 1), by omega, rfl, hlt, p'⟩, fun x H' y => ?_⟩
    obtain ⟨e, y⟩ := y
    subst e y
    exact hs i σ _ hlt p
  · have e : i = n := by omega
    subst e
    exact .inl ⟨Nat.le_refl _, hd σ H p⟩
end L2
namespace L2
open PySem PySem.Spec PyProof.Rows
abbrev KOf {K : PySem.W.Frag} {h : Heap} (_ : K.In h) : PySem.W.Frag := K
end L2
namespace L2
open PySem PySem.Spec PyProof.Rows
def inClass (s : Stmt) (j : Nat) : Stmt := match s with
  | .ClassDef _ _ _ body _ _ _ _ _ _ _ => body.getD j (.Pass ⟨0, 0, 0, 0⟩)
  | _ => .Pass ⟨0, 0, 0, 0⟩
def defArgs (s : Stmt) : Arguments := match s with
  | .FunctionDef _ a _ _ _ _ _ _ _ _ => a
  | _ => { posonlyargs := [], args := [], vararg := none, kwonlyargs := [], kw_defaults := [], kwarg := none, defaults := [] }
def defBody (s : Stmt) : List Stmt := match s with
  | .FunctionDef _ _ b _ _ _ _ _ _ _ => b
  | _ => []
def defScope (s : Stmt) : Scope := match s with
  | .FunctionDef _ _ _ _ _ _ sc _ _ _ => sc
  | _ => { kind := .function, names := [], isGenerator := false, isCoroutine := false }
abbrev CX0 : CXT := fun _ _ _ _ _ _ => False
abbrev E0 : XK := fun _ _ _ => False
theorem pass0 {X : Cx} : Passes CX0 X E0 := fun _ _ _ _ _ _ _ h => h.elim
structure Fun (K : PySem.W.Frag) (x qual : Str) (st : Stmt) (f : Addr) (fd : FuncData) : Prop where
  ex : ∃ (oc : Value) (od : Option Addr) (kV doc pm : Value) (an : Option Addr) (cdv ct : Value) (osl : Array (Option Value)),
    fd = PySem.W.fnOf x qual (defArgs st) (defBody st) (defScope st) .none kV doc pm an cdv ct ∧ K.lookup f = some ⟨oc, od, .func fd, osl⟩ ∧ PySem.W.codeIn K cdv qual = true
  kp : PySem.W.keepIn K (.ref f) = true
section
variable {P : Program} {w : World} {K : PySem.W.Frag} {mg : Str → Option Value} {base : Heap}
theorem Fun.ok {x qual : Str} {st : Stmt} {f : Addr} {fd : FuncData} {N ps : List Str} {k : Nat} {sp : Sp} (F : Fun K x qual st f fd) (S : FnScope N ps (defScope st)) (len : ∀ vs H Q E, sp vs H Q E → vs.length = ps.length)
    (hbody : ∀ (cdv : Value) (A : Around) (outer : List Env) (s : Shared) (H : Hp) (vs : List V) (Q : VK) (E : XK), Room k (A.deeper (envOfC qual (defScope st) s.heap.objs.size f cdv)) → sp vs H Q E →
      ∃ t, PSs (cxOf CX0 P w K mg base N qual (defScope st) f cdv A outer s H E).nox (defBody st) t ∧ t { nx := fun _ H' => Q .non H', rt := Q } (start N vs) H) : FnOk P w K mg base CX0 (k + 1) f fd ps sp := by
  obtain ⟨oc, od, kV, doc, pm, an, cdv, ct, osl, rfl, lk, hcd⟩ := F.ex
  refine fn_of lk hcd S len fun A outer s H vs Q E hr hsp => ?_
  obtain ⟨t, h, q⟩ := hbody cdv A outer s H vs Q E hr hsp
  exact ⟨t, h.nox, q⟩
theorem Fun.binds {x qual : Str} {st : Stmt} {f : Addr} {fd : FuncData} {ps : List Str} (F : Fun K x qual st f fd)
    (h : ∀ (kV doc pm : Value) (an : Option Addr) (cdv ct : Value) (us : List Value), us.length = ps.length → bindArgs (PySem.W.fnOf x qual (defArgs st) (defBody st) (defScope st) .none kV doc pm an cdv ct) ⟨us, []⟩ = pure (ps.zip us)) : Binds K fd ps [] := by
  obtain ⟨oc, od, kV, doc, pm, an, cdv, ct, osl, rfl, lk, hcd⟩ := F.ex
  exact .all (h kV doc pm an cdv ct)
theorem fun_mk {x qual : Str} {st : Stmt} {f : Addr} {oc : Value} {od an : Option Addr} {osl : Array (Option Value)} {kV doc pm cdv ct : Value} (l : K.lookup f = some ⟨oc, od, .func (PySem.W.fnOf x qual (defArgs st) (defBody st) (defScope st) .none kV doc pm an cdv ct), osl⟩)
    (c : PySem.W.codeIn K cdv qual = true) (k : PySem.W.keepIn K (.ref f) = true) : Fun K x qual st f (PySem.W.fnOf x qual (defArgs st) (defBody st) (defScope st) .none kV doc pm an cdv ct) := ⟨⟨oc, od, kV, doc, pm, an, cdv, ct, osl, rfl, l, c⟩, k⟩
end
section
variable {X : Cx}
theorem pv (i : Nat) {x : Str} {pos : Pos} (hN : X.N[i]? = some x := by rfl) (hv : Vis X.env.scope x := by first | exact Or.inl rfl | exact Or.inr (Or.inl rfl) | exact Or.inr (Or.inr rfl)) (hd : (x == ("__debug__" : Str)) = false := by decide)
    (hcd : (x == ("__classdict__" : Str)) = false := by decide) : PE X (.Name x pos) (tVar i) := pe_var hN hv hd hcd
end
theorem iteT {A B : Prop} (h : A) : if true = true then A else B := by
  rw [if_pos rfl]
  exact h
theorem ite2 {c A B : Prop} [Decidable c] (h1 : c → A) (h2 : ¬ c → B) : if c then A else B := by
  by_cases h : c
  · rw [if_pos h]
    exact h1 h
  · rw [if_neg h]
    exact h2 h
def Same (H H' : Hp) : Prop := ∀ b o, H b = some o → H' b = some o
theorem Same.refl (H : Hp) : Same H H := fun _ _ h => h
theorem Same.trans {H H1 H2 : Hp} (a : Same H H1) (b : Same H1 H2) : Same H H2 := fun c o h => b c o (a c o h)
theorem Same.free {H H' : Hp} (e : Same H H') {l : Addr} (h : H' l = Option.none) : H l = Option.none := by
  cases q : H l with
  | none => rfl
  | some o =>
    rw [e l o q] at h
    cases h
theorem Same.seq {K : PySem.W.Frag} {H H' : Hp} {a : Addr} {xs : List V} (e : Same H H') (h : SqL K H a xs) : SqL K H' a xs := by
  rcases h with (h | ⟨o, h⟩) | h
  · exact .inl (.inl (e _ _ h))
  · exact .inl (.inr ⟨o, e _ _ h⟩)
  · exact .inr h
theorem at_of {xs : List V} {z : Int} {j : Nat} {v : V} (e : z = (j : Int)) (h : xs[j]? = some v) : atI xs z = some v := by
  rw [e]
  exact atI_nat h
theorem Same.made {H H1 : Hp} {x dx C : Addr} (nx : H x = Option.none) (nd : H dx = Option.none) (k : ∀ b o, (upd (upd H dx (.own x)) x (.ins C dx [])) b = some o → b ≠ x → H1 b = some o) : Same H H1 := fun b o e =>
  k b o (by rw [upd_ne (ne_of_none e nx), upd_ne (ne_of_none e nd)]; exact e) (ne_of_none e nx)
end L2
end
section
set_option Elab.async false
set_option linter.all false
set_option maxRecDepth 100000
set_option maxHeartbeats 2000000
namespace L2
open PySem PySem.Spec PyProof.Rows
open PySem.W (WData Codec OpenSpec Well WellAll ReadsW ReadsAllW)
mutual
inductive Dw (K : PySem.W.Frag) (H : Hp) : V → WData → Prop
  | non : Dw K H .non .none
  | bl (b : Bool) : Dw K H (.bl b) (.bool b)
  | int (i : Int) : Dw K H (.int i) (.int i)
  | str (x : Str) : Dw K H (.str x) (.str x)
  | byt (b : Array UInt8) : Dw K H (.byt b) (.bytes b.toList)
  | lst {a : Addr} {xs : List V} {ds : List WData} : SqL K H a xs → DwAll K H xs ds → Dw K H (.ref a) (.list ds)
  | tup {a : Addr} {xs : List V} {ds : List WData} : SqT K H a xs → DwAll K H xs ds → Dw K H (.ref a) (.tuple ds)
inductive DwAll (K : PySem.W.Frag) (H : Hp) : List V → List WData → Prop
  | nil : DwAll K H [] []
  | cons {v : V} {vs : List V} {d : WData} {ds : List WData} : Dw K H v d → DwAll K H vs ds → DwAll K H (v :: vs) (d :: ds)
end
theorem dw_ints {K : PySem.W.Frag} {H : Hp} : ∀ ns : List Int, DwAll K H (ns.map V.int) (ns.map WData.int)
  | [] => .nil
  | n :: r => .cons (.int n) (dw_ints r)
theorem ints_dw {K : PySem.W.Frag} {H : Hp} : ∀ (ns : List Int) (xs : List V), DwAll K H xs (ns.map WData.int) → xs = ns.map V.int
  | [], xs, h => by
    cases h
    rfl
  | n :: r, xs, h => by
    cases h with
    | cons h1 h2 =>
      cases h1
      rw [ints_dw r _ h2] <;> rfl
section
variable {P : Program} {w : World} {K : PySem.W.Frag} {H : Hp} {h : Heap} {R : PySem.W.WRecords} {cl : Str → Option Addr}
theorem sqL_at {a : Addr} {xs : List V} (hok : HOk P w H h) (KX : K.In h) (q : SqL K H a xs) : ∃ (its : List Value) (o : Obj) (n : Nat), Vals xs its ∧ h.get? a = some o ∧ o.cls = .type "list" ∧ o.data = .seq its.toArray n := by
  rcases q with q | ⟨o, its, n, e, hc, _, hd, _, hv⟩
  · obtain ⟨_, its, n, hv, e⟩ := (show ObjOk P w H h a (.lst xs) from q.ok hok)
    exact ⟨its, _, n, hv, e, rfl, rfl⟩
  · exact ⟨its.toList, o, n, hv, KX _ _ e, hc, by simp [hd]⟩
theorem sqT_at {a : Addr} {xs : List V} (hok : HOk P w H h) (KX : K.In h) (q : SqT K H a xs) : ∃ (its : List Value) (o : Obj) (n : Nat), Vals xs its ∧ h.get? a = some o ∧ o.cls = .type "tuple" ∧ o.data = .seq its.toArray n := by
  rcases q with q | ⟨o, its, n, e, hc, hd, _, hv⟩
  · obtain ⟨_, its, hv, o, e, hc, n, hd⟩ := (show ObjOk P w H h a (.tup xs) from q.ok hok)
    exact ⟨its, o, n, hv, e, hc, hd⟩
  · exact ⟨its.toList, o, n, hv, KX _ _ e, hc, by simp [hd]⟩
mutual
theorem Dw.reads (hok : HOk P w H h) (KX : K.In h) : ∀ (d : WData) (v : V) (u : Value), Dw K H v d → RelV v u → ∃ as, ReadsW R cl h u d as
  | .none, _, _, x, r => by
    cases x
    cases r
    exact ⟨_, ReadsW.none⟩
  | .bool b, _, _, x, r => by
    cases x
    cases r
    exact ⟨_, ReadsW.bool b⟩
  | .int i, _, _, x, r => by
    cases x
    obtain ⟨t, rfl⟩ := r
    exact ⟨_, ReadsW.int i t⟩
  | .str s, _, _, x, r => by
    cases x
    obtain ⟨t, rfl⟩ := r
    exact ⟨_, ReadsW.str s t⟩
  | .bytes b, _, _, x, r => by
    cases x
    obtain ⟨t, rfl⟩ := r
    exact ⟨_, ReadsW.bytes _ t⟩
  | .list ds, _, _, x, r => by
    cases x with
    | lst hs ha =>
      cases r
      obtain ⟨its, o, n, rv, ho, hc, hd⟩ := sqL_at hok KX hs
      obtain ⟨as, hr⟩ := Dw.readsAll hok KX ds _ its ha rv
      exact ⟨_, ReadsW.list ho hc hd hr⟩
  | .tuple ds, _, _, x, r => by
    cases x with
    | tup hs ha =>
      cases r
      obtain ⟨its, o, n, rv, ho, hc, hd⟩ := sqT_at hok KX hs
      obtain ⟨as, hr⟩ := Dw.readsAll hok KX ds _ its ha rv
      exact ⟨_, ReadsW.tuple ho hc hd hr⟩
  | .float _, _, _, x, _ => by cases x
  | .dict _, _, _, x, _ => by cases x
  | .bytearray _, _, _, x, _ => by cases x
  | .set _, _, _, x, _ => by cases x
  | .frozenset _, _, _, x, _ => by cases x
  | .obj _ _, _, _, x, _ => by cases x
theorem Dw.readsAll (hok : HOk P w H h) (KX : K.In h) : ∀ (ds : List WData) (vs : List V) (us : List Value), DwAll K H vs ds → Vals vs us → ∃ as, ReadsAllW R cl h us ds as
  | [], _, _, x, r => by
    cases x
    cases r
    exact ⟨_, ReadsAllW.nil⟩
  | d :: ds, _, _, x, r => by
    cases x with
    | cons h1 h2 =>
      cases r with
      | cons r1 r2 =>
        obtain ⟨as, q1⟩ := Dw.reads hok KX d _ _ h1 r1
        obtain ⟨bs, q2⟩ := Dw.readsAll hok KX ds _ _ h2 r2
        exact ⟨_, ReadsAllW.cons q1 q2⟩
end
end
mutual
def plW : WData → Bool
  | .none => true
  | .bool _ => true
  | .int _ => true
  | .str _ => true
  | .bytes _ => true
  | .list xs => plWs xs
  | .tuple xs => plWs xs
  | _ => false
def plWs : List WData → Bool
  | [] => true
  | x :: r => plW x && plWs r
end
theorem plWs_map {α : Type} {f : α → WData} (h : ∀ a, plW (f a) = true) : ∀ l : List α, plWs (l.map f) = true
  | [] => rfl
  | x :: r => by
    show (plW (f x) && plWs (r.map f)) = true
    rw [h x, plWs_map h r] <;> rfl
theorem pl_enc : ∀ (c : Codec) (a : c.denote), plW (c.enc a) = true
  | .unit, _ => rfl
  | .bool, _ => rfl
  | .int _ _, _ => rfl
  | .nat _ _, _ => rfl
  | .u8, _ => rfl
  | .bytes _ _, _ => rfl
  | .text _ _ _ _, _ => rfl
  | .list _ _ c, a => plWs_map (fun x => pl_enc c x) a
  | .pair c d, a => by
    show (plW (c.enc a.1) && (plW (d.enc a.2) && true)) = true
    rw [pl_enc c a.1, pl_enc d a.2] <;> rfl
  | .triple c d e, a => by
    show (plW (c.enc a.1) && (plW (d.enc a.2.1) && (plW (e.enc a.2.2) && true))) = true
    rw [pl_enc c a.1, pl_enc d a.2.1, pl_enc e a.2.2] <;> rfl
  | .option c, none => rfl
  | .option c, some x => pl_enc c x
theorem pl_encAll : ∀ (cs : List Codec) (a : Codec.denoteAll cs), plWs (Codec.encAll cs a) = true
  | [], _ => rfl
  | c :: cs, a => by
    show (plW (c.enc a.1) && plWs (Codec.encAll cs a.2)) = true
    rw [pl_enc c a.1, pl_encAll cs a.2] <;> rfl
theorem weight_mem : ∀ {xs : List WData} {d : WData}, d ∈ xs → d.weight ≤ WData.weightAll xs
  | [], d, h => absurd h (by simp)
  | x :: r, d, h => by
    show d.weight ≤ x.weight + 1 + WData.weightAll r
    rcases List.mem_cons.mp h with e | m
    · rw [e]
      omega
    · have z := weight_mem m
      omega
def toV : Value → V
  | .none => .non
  | .bool b => .bl b
  | .int i _ => .int i
  | .str x _ => .str x
  | .bytes b _ => .byt b
  | .ref a => .ref a
  | _ => .non
def OkU (A : List Addr) : Value → Prop
  | .none => True
  | .bool _ => True
  | .int _ _ => True
  | .str _ _ => True
  | .bytes _ _ => True
  | .ref a => a ∈ A
  | _ => False
theorem OkU.mono {A B : List Addr} (h : ∀ a ∈ A, a ∈ B) : ∀ {u : Value}, OkU A u → OkU B u := fun {u} x => by
  cases u with
  | ref a => exact h a x
  | none => trivial
  | bool b => trivial
  | int i t => trivial
  | str s t => trivial
  | bytes b t => trivial
  | _ => exact False.elim x
theorem relV_toV {A : List Addr} {u : Value} (x : OkU A u) : RelV (toV u) u := by
  cases u with
  | ref a => rfl
  | none => rfl
  | bool b => rfl
  | int i t => exact ⟨t, rfl⟩
  | str s t => exact ⟨t, rfl⟩
  | bytes b t => exact ⟨t, rfl⟩
  | _ => exact False.elim x
theorem vals_toV {A : List Addr} : ∀ {vs : List Value}, (∀ u ∈ vs, OkU A u) → Vals (vs.map toV) vs
  | [], _ => .nil
  | u :: r, h => .cons (relV_toV (h u (List.mem_cons_self ..))) (vals_toV fun x hx => h x (List.mem_cons_of_mem _ hx))
def ArgOb (h : Heap) (A : List Addr) (a : Addr) : Prop := ∃ vs : List Value, vs.length ≤ sizeLine ∧ (∀ u ∈ vs, OkU A u) ∧
  (h.get? a = some { cls := .type "list", data := .seq vs.toArray } ∨ h.get? a = some { cls := .type "tuple", data := .seq vs.toArray })
theorem ArgOb.mono {h : Heap} {A B : List Addr} {a : Addr} (k : ∀ a ∈ A, a ∈ B) (x : ArgOb h A a) : ArgOb h B a := by
  obtain ⟨vs, h1, h2, h3⟩ := x
  exact ⟨vs, h1, fun u hu => (h2 u hu).mono k, h3⟩
theorem wellAll_len {P : Params} {h : Heap} : ∀ {vs : List Value} {ds : List WData}, WellAll P h vs ds → vs.length = ds.length
  | _, _, .nil => rfl
  | _, _, .cons _ b => by
    show _ + 1 = _ + 1
    rw [wellAll_len b]
theorem well_list {P : Params} {h : Heap} {v : Value} {ds : List WData} (x : Well P h v (.list ds)) : ∃ (a : Addr) (vs : List Value), v = .ref a ∧ h.get? a = some { cls := .type "list", data := .seq vs.toArray } ∧ WellAll P h vs ds := by
  cases x with
  | list ho hall => exact ⟨_, _, rfl, ho, hall⟩
theorem well_tuple {P : Params} {h : Heap} {v : Value} {ds : List WData} (x : Well P h v (.tuple ds)) : ∃ (a : Addr) (vs : List Value), v = .ref a ∧ h.get? a = some { cls := .type "tuple", data := .seq vs.toArray } ∧ WellAll P h vs ds := by
  cases x with
  | tuple ho hall => exact ⟨_, _, rfl, ho, hall⟩
theorem well_cons {P : Params} {h : Heap} {us : List Value} {d : WData} {ds : List WData} (x : WellAll P h us (d :: ds)) : ∃ (v : Value) (vs : List Value), us = v :: vs ∧ Well P h v d ∧ WellAll P h vs ds := by
  cases x with
  | cons a b => exact ⟨_, _, rfl, a, b⟩
theorem line_of {n : Nat} (h : n ≤ 1048576) : n ≤ sizeLine := Nat.le_trans h (by decide)
section
variable {P : Params} {h : Heap}
mutual
theorem area_one : ∀ (d : WData) (v : Value), Well P h v d → plW d = true → d.weight ≤ 1048576 → ∃ A : List Addr, OkU A v ∧ ∀ a ∈ A, ArgOb h A a
  | .none, _, x, _, _ => by
    cases x
    exact ⟨[], trivial, fun a m => absurd m (by simp)⟩
  | .bool b, _, x, _, _ => by
    cases x
    exact ⟨[], trivial, fun a m => absurd m (by simp)⟩
  | .int i, _, x, _, _ => by
    cases x
    exact ⟨[], trivial, fun a m => absurd m (by simp)⟩
  | .str s, _, x, _, _ => by
    cases x
    exact ⟨[], trivial, fun a m => absurd m (by simp)⟩
  | .bytes b, _, x, _, _ => by
    cases x
    exact ⟨[], trivial, fun a m => absurd m (by simp)⟩
  | .list ds, _, x, p, z => by
    obtain ⟨a, vs, rfl, ho, hall⟩ := well_list x
    have z2 : WData.weightAll ds ≤ 1048576 := z
    obtain ⟨A, h1, h2⟩ := area_all ds _ hall p fun d hd => Nat.le_trans (weight_mem hd) z2
    have k : ∀ b ∈ A, b ∈ a :: A := fun b hb => List.mem_cons_of_mem _ hb
    refine ⟨a :: A, List.mem_cons_self .., fun b hb => ?_⟩
    rcases List.mem_cons.mp hb with e | m
    · rw [e]
      exact ⟨vs, line_of (by rw [wellAll_len hall]; exact Nat.le_trans (PySem.W.length_le_weightAllW ds) z2), fun u hu => (h1 u hu).mono k, .inl ho⟩
    · exact (h2 b m).mono k
  | .tuple ds, _, x, p, z => by
    obtain ⟨a, vs, rfl, ho, hall⟩ := well_tuple x
    have z2 : WData.weightAll ds ≤ 1048576 := z
    obtain ⟨A, h1, h2⟩ := area_all ds _ hall p fun d hd => Nat.le_trans (weight_mem hd) z2
    have k : ∀ b ∈ A, b ∈ a :: A := fun b hb => List.mem_cons_of_mem _ hb
    refine ⟨a :: A, List.mem_cons_self .., fun b hb => ?_⟩
    rcases List.mem_cons.mp hb with e | m
    · rw [e]
      exact ⟨vs, line_of (by rw [wellAll_len hall]; exact Nat.le_trans (PySem.W.length_le_weightAllW ds) z2), fun u hu => (h1 u hu).mono k, .inr ho⟩
    · exact (h2 b m).mono k
  | .float _, _, _, p, _ => Bool.noConfusion (show false = true from p)
  | .dict _, _, _, p, _ => Bool.noConfusion (show false = true from p)
  | .bytearray _, _, _, p, _ => Bool.noConfusion (show false = true from p)
  | .set _, _, _, p, _ => Bool.noConfusion (show false = true from p)
  | .frozenset _, _, _, p, _ => Bool.noConfusion (show false = true from p)
  | .obj _ _, _, _, p, _ => Bool.noConfusion (show false = true from p)
theorem area_all : ∀ (ds : List WData) (vs : List Value), WellAll P h vs ds → plWs ds = true → (∀ d ∈ ds, d.weight ≤ 1048576) → ∃ A : List Addr, (∀ u ∈ vs, OkU A u) ∧ ∀ a ∈ A, ArgOb h A a
  | [], _, x, _, _ => by
    cases x
    exact ⟨[], fun u m => absurd m (by simp), fun a m => absurd m (by simp)⟩
  | d :: ds, _, x, p, z => by
    obtain ⟨v, vs, rfl, x1, x2⟩ := well_cons x
    have q : plW d = true ∧ plWs ds = true := Bool.and_eq_true_iff.mp p
    obtain ⟨A, a1, a2⟩ := area_one d v x1 q.1 (z d (List.mem_cons_self ..))
    obtain ⟨B, b1, b2⟩ := area_all ds vs x2 q.2 fun e he => z e (List.mem_cons_of_mem _ he)
    have kA : ∀ b ∈ A, b ∈ A ++ B := fun b hb => List.mem_append.mpr (.inl hb)
    have kB : ∀ b ∈ B, b ∈ A ++ B := fun b hb => List.mem_append.mpr (.inr hb)
    refine ⟨A ++ B, fun u hu => ?_, fun b hb => ?_⟩
    · rcases List.mem_cons.mp hu with e | m
      · rw [e]
        exact a1.mono kA
      · exact (b1 u m).mono kB
    · rcases List.mem_append.mp hb with m | m
      · exact (a2 b m).mono kA
      · exact (b2 b m).mono kB
end
end
def hoOf (o : Obj) : Option HO := match o.data with
  | .seq vs _ => if (o.cls == Value.type "list") = true then some (.frz o (.lst (vs.toList.map toV))) else some (.frz o (.tup (vs.toList.map toV)))
  | _ => none
def argH (K : PySem.W.Frag) (h : Heap) (A : List Addr) : Hp := fun b => if b ∈ A then (if (K.lookup b).isNone = true then (h.get? b).bind hoOf else none) else none
def OnlyF (H : Hp) : Prop := ∀ b, H b = none ∨ ∃ o u, H b = some (.frz o u)
theorem hoOf_lst (vs : List Value) : hoOf { cls := .type "list", data := .seq vs.toArray } = some (.frz { cls := .type "list", data := .seq vs.toArray } (.lst (vs.map toV))) := by
  show (if (Value.type "list" == Value.type "list") = true then some (HO.frz { cls := .type "list", data := .seq vs.toArray } (.lst (vs.toArray.toList.map toV))) else some (HO.frz { cls := .type "list", data := .seq vs.toArray } (.tup (vs.toArray.toList.map toV)))) = _
  rw [if_pos (beq_self_eq_true _)]
theorem hoOf_tup (vs : List Value) : hoOf { cls := .type "tuple", data := .seq vs.toArray } = some (.frz { cls := .type "tuple", data := .seq vs.toArray } (.tup (vs.map toV))) := by
  show (if (Value.type "tuple" == Value.type "list") = true then some (HO.frz { cls := .type "tuple", data := .seq vs.toArray } (.lst (vs.toArray.toList.map toV))) else some (HO.frz { cls := .type "tuple", data := .seq vs.toArray } (.tup (vs.toArray.toList.map toV)))) = _
  rw [if_neg (by decide)]
section
variable {P : Program} {w : World} {K : PySem.W.Frag} {h : Heap} {A : List Addr}
theorem argH_at {b : Addr} {o : Obj} (hb : b ∈ A) (hk : K.lookup b = none) (e : h.get? b = some o) : argH K h A b = hoOf o := by
  unfold argH
  rw [if_pos hb, hk, if_pos (show (none : Option Obj).isNone = true from rfl), e] <;> rfl
theorem of_argH {b : Addr} {u : HO} (q : argH K h A b = some u) : b ∈ A ∧ K.lookup b = none := by
  unfold argH at q
  by_cases hb : b ∈ A
  · rw [if_pos hb] at q
    cases hk : K.lookup b with
    | none => exact ⟨hb, rfl⟩
    | some o =>
      rw [hk, if_neg (by simp)] at q
      cases q
  · rw [if_neg hb] at q
    cases q
theorem argH_is (ar : ∀ a ∈ A, ArgOb h A a) {b : Addr} {u : HO} (q : argH K h A b = some u) : K.lookup b = none ∧ ∃ vs : List Value, vs.length ≤ sizeLine ∧ (∀ u ∈ vs, OkU A u) ∧
    ((h.get? b = some { cls := .type "list", data := .seq vs.toArray } ∧ u = .frz { cls := .type "list", data := .seq vs.toArray } (.lst (vs.map toV))) ∨
     (h.get? b = some { cls := .type "tuple", data := .seq vs.toArray } ∧ u = .frz { cls := .type "tuple", data := .seq vs.toArray } (.tup (vs.map toV)))) := by
  obtain ⟨hb, hk⟩ := of_argH q
  obtain ⟨vs, h1, h2, h3⟩ := ar b hb
  refine ⟨hk, vs, h1, h2, ?_⟩
  rcases h3 with e | e
  · rw [argH_at hb hk e, hoOf_lst] at q
    exact .inl ⟨e, (Option.some.inj q).symm⟩
  · rw [argH_at hb hk e, hoOf_tup] at q
    exact .inr ⟨e, (Option.some.inj q).symm⟩
theorem argH_only (ar : ∀ a ∈ A, ArgOb h A a) : OnlyF (argH K h A) := fun b => by
  cases q : argH K h A b with
  | none => exact .inl rfl
  | some u =>
    obtain ⟨_, vs, _, _, ⟨_, e⟩ | ⟨_, e⟩⟩ := argH_is ar q
    · exact .inr ⟨_, _, by rw [e]⟩
    · exact .inr ⟨_, _, by rw [e]⟩
theorem argH_ok (ar : ∀ a ∈ A, ArgOb h A a) : HOk P w (argH K h A) h := fun b u q => by
  obtain ⟨_, vs, h1, h2, ⟨e, rfl⟩ | ⟨e, rfl⟩⟩ := argH_is ar q
  · exact ⟨e, by rw [List.length_map]; exact h1, vs, _, vals_toV h2, e⟩
  · exact ⟨e, by rw [List.length_map]; exact h1, vs, vals_toV h2, _, e, rfl, _, rfl⟩
theorem seq_inj {c c' : Value} {vs us : List Value} (e : (some { cls := c, data := .seq vs.toArray } : Option Obj) = some { cls := c', data := .seq us.toArray }) : c = c' ∧ vs = us := by
  have e1 := Option.some.inj e
  have e2 : c = c' := congrArg Obj.cls e1
  have e3 : Data.seq vs.toArray = Data.seq us.toArray := congrArg Obj.data e1
  injection e3 with e4
  refine ⟨e2, ?_⟩
  have e5 := congrArg Array.toList e4
  simpa using e5
theorem argL (KX : K.In h) (ar : ∀ a ∈ A, ArgOb h A a) {a : Addr} {vs : List Value} (ha : a ∈ A) (e : h.get? a = some { cls := .type "list", data := .seq vs.toArray }) : (∀ u ∈ vs, OkU A u) ∧ SqL K (argH K h A) a (vs.map toV) := by
  obtain ⟨us, h1, h2, h3⟩ := ar a ha
  have hu : us = vs := by
    rcases h3 with q | q
    · rw [e] at q
      exact (seq_inj q).2.symm
    · rw [e] at q
      exact absurd (Value.type.inj (seq_inj q).1) (by decide)
  subst hu
  refine ⟨h2, ?_⟩
  cases hk : K.lookup a with
  | none => exact .inl (.inr ⟨_, by rw [argH_at ha hk e, hoOf_lst]⟩)
  | some o =>
    have e2 := KX a o hk
    rw [e] at e2
    obtain rfl := Option.some.inj e2
    exact .inr ⟨_, us.toArray, _, hk, rfl, rfl, rfl, by rw [List.size_toArray]; exact h1, by simpa using vals_toV h2⟩
theorem argT (KX : K.In h) (ar : ∀ a ∈ A, ArgOb h A a) {a : Addr} {vs : List Value} (ha : a ∈ A) (e : h.get? a = some { cls := .type "tuple", data := .seq vs.toArray }) : (∀ u ∈ vs, OkU A u) ∧ SqT K (argH K h A) a (vs.map toV) := by
  obtain ⟨us, h1, h2, h3⟩ := ar a ha
  have hu : us = vs := by
    rcases h3 with q | q
    · rw [e] at q
      exact absurd (Value.type.inj (seq_inj q).1) (by decide)
    · rw [e] at q
      exact (seq_inj q).2.symm
  subst hu
  refine ⟨h2, ?_⟩
  cases hk : K.lookup a with
  | none => exact .inl (.inr ⟨_, by rw [argH_at ha hk e, hoOf_tup]⟩)
  | some o =>
    have e2 := KX a o hk
    rw [e] at e2
    obtain rfl := Option.some.inj e2
    exact .inr ⟨_, us.toArray, _, hk, rfl, rfl, by rw [List.size_toArray]; exact h1, by simpa using vals_toV h2⟩
mutual
theorem dw_one {Pm : Params} (KX : K.In h) (ar : ∀ a ∈ A, ArgOb h A a) : ∀ (d : WData) (v : Value), Well Pm h v d → plW d = true → OkU A v → Dw K (argH K h A) (toV v) d
  | .none, _, x, _, _ => by
    cases x
    exact .non
  | .bool b, _, x, _, _ => by
    cases x
    exact .bl b
  | .int i, _, x, _, _ => by
    cases x
    exact .int i
  | .str s, _, x, _, _ => by
    cases x
    exact .str s
  | .bytes b, _, x, _, _ => by
    cases x
    have z := Dw.byt (K := K) (H := argH K h A) b.toArray
    exact z
  | .list ds, _, x, p, hu => by
    obtain ⟨a, vs, rfl, ho, hall⟩ := well_list x
    obtain ⟨h2, hs⟩ := argL KX ar hu ho
    exact .lst hs (dw_all KX ar ds _ hall p h2)
  | .tuple ds, _, x, p, hu => by
    obtain ⟨a, vs, rfl, ho, hall⟩ := well_tuple x
    obtain ⟨h2, hs⟩ := argT KX ar hu ho
    exact .tup hs (dw_all KX ar ds _ hall p h2)
  | .float _, _, _, p, _ => Bool.noConfusion (show false = true from p)
  | .dict _, _, _, p, _ => Bool.noConfusion (show false = true from p)
  | .bytearray _, _, _, p, _ => Bool.noConfusion (show false = true from p)
  | .set _, _, _, p, _ => Bool.noConfusion (show false = true from p)
  | .frozenset _, _, _, p, _ => Bool.noConfusion (show false = true from p)
  | .obj _ _, _, _, p, _ => Bool.noConfusion (show false = true from p)
theorem dw_all {Pm : Params} (KX : K.In h) (ar : ∀ a ∈ A, ArgOb h A a) : ∀ (ds : List WData) (vs : List Value), WellAll Pm h vs ds → plWs ds = true → (∀ u ∈ vs, OkU A u) → DwAll K (argH K h A) (vs.map toV) ds
  | [], _, x, _, _ => by
    cases x
    exact .nil
  | d :: ds, _, x, p, hu => by
    obtain ⟨v, vs, rfl, x1, x2⟩ := well_cons x
    have q : plW d = true ∧ plWs ds = true := Bool.and_eq_true_iff.mp p
    exact .cons (dw_one KX ar d v x1 q.1 (hu _ (List.mem_cons_self ..))) (dw_all KX ar ds vs x2 q.2 fun u m => hu u (List.mem_cons_of_mem _ m))
end
end
theorem spec_call {P : Program} {w : World} {K : PySem.W.Frag} {mg mb : Str → Option Value} {CX : CXT} {k : Nat} {fa : Addr} {fd : FuncData} {ps : List Str} {sp : Sp} {s₁ : Shared} {vals : List Value} {ds : List WData} {R : PySem.W.WRecords} {cl : Str → Option Addr} {d0 : WData}
    (KX : K.In s₁.heap) (hns : s₁.heap.Ns mainGlobals mg) (hb : s₁.heap.Ns builtinsNs mb) (hbb : ∀ x : Str, x ≠ "__name__" → mb x = bootBuiltins x) (hlim : s₁.heap.NoLimit) (hg : s₁.gens = #[])
    (hwl : WellAll w.params s₁.heap vals ds) (hpl : plWs ds = true) (hwt : ∀ d ∈ ds, d.weight ≤ 1048576) (hr : Room k callerA)
    (F : ∀ base : Heap, K.In base → base.Ns mainGlobals mg → FnOk P w K mg base CX k fa fd ps sp) (hbind : ∀ (s : Shared) (us : List Value), us.length = ps.length → BindsTo s fd ⟨us, []⟩ (ps.zip us)) (hlen : ds.length = ps.length)
    (hsp : ∀ (H : Hp) (xs : List V), OnlyF H → DwAll K H xs ds → sp xs H (fun v H' => Dw K H' v d0) fun _ _ _ => False)
    (hCX : ∀ H e s', CX [] H s₁ (fun _ _ _ => False) e s' → False) :
    codeAny (model P w) callerA (.call (.ref fa) ⟨vals, []⟩) (fun r s' => ∃ u as, r = .ok (.ret u) ∧ ReadsW R cl s'.heap u d0 as ∧ OldK s₁.heap s'.heap ∧ s'.os = s₁.os ∧ AllBare s'.gens) s₁ := by
  obtain ⟨A, ho, ar⟩ := area_all ds vals hwl hpl hwt
  have hO : OnlyF (argH K s₁.heap A) := argH_only ar
  have hok : HOk P w (argH K s₁.heap A) s₁.heap := argH_ok ar
  have hS := dw_all KX ar ds vals hwl hpl ho
  have hV := vals_toV ho
  have hK : ∀ b u, argH K s₁.heap A b = some u → K.lookup b = none := fun b u q => (argH_is ar q).1
  have noA : ∀ {b : Addr} {o : Obj} {es : Array DictEntry} {ep : Nat}, s₁.heap.get? b = some o → o.data = .dict es ep → argH K s₁.heap A b = none := fun {b o es ep} e d => by
    cases q : argH K s₁.heap A b with
    | none => rfl
    | some u =>
      obtain ⟨_, vs, _, _, ⟨e2, _⟩ | ⟨e2, _⟩⟩ := argH_is ar q
      · rw [e2] at e
        cases e
        have d' : Data.seq vs.toArray _ = Data.dict es ep := d
        cases d'
      · rw [e2] at e
        cases e
        have d' : Data.seq vs.toArray _ = Data.dict es ep := d
        cases d'
  generalize argH K s₁.heap A = H at hO hok hS hK noA
  have base_of : ∀ {b : Addr} {o : Obj}, s₁.heap.get? b = some o → H b = none → (hidT s₁.heap H).get? b = some o := fun e n => hidT_get e n
  have nsK : ∀ {b : Addr} {m : Str → Option Value}, s₁.heap.Ns b m → (hidT s₁.heap H).Ns b m := fun {b m} ⟨o, es, ep, e, d, r⟩ => ⟨o, es, ep, base_of e (noA e d), d, r⟩
  have nK : ∀ b o, K.lookup b = some o → H b = none := fun b o e => by
    cases q : H b with
    | none => rfl
    | some u =>
      rw [hK b u q] at e
      cases e
  have hKb : K.In (hidT s₁.heap H) := fun b o e => base_of (KX b o e) (nK b o e)
  have hM : Mod K mg (hidT s₁.heap H) := ⟨hKb, nsK hns, ⟨mb, nsK hb, hbb⟩, let ⟨mc, h1, h2⟩ := hlim; ⟨mc, nsK h1, h2⟩⟩
  have e0 : Env0 P w K mg (hidT s₁.heap H) callerA [] s₁ H := ⟨rfl, hM, fun b o e => of_hidT e, Nat.le_of_eq (hidT_size _ _), trivial, fun b hb => absurd (show b ∈ ([] : List Addr) from hb) (by simp), hok, .of_eq hg⟩
  have hl : vals.length = ps.length := by rw [wellAll_len hwl]; exact hlen
  refine codeAny_mono ((F _ hKb (nsK hns)).run callerA [] s₁ H ⟨vals, []⟩ vals (vals.map toV) _ _ hr e0 (hbind s₁ vals hl) hV (hsp H _ hO hS)) fun r s' x => ?_
  cases r with
  | error e => exact (hCX H e s' x).elim
  | ok fl =>
    cases fl with
    | next => exact False.elim x
    | brk => exact False.elim x
    | cont => exact False.elim x
    | ret u =>
      obtain ⟨v, H', os, bare, un, hok', r', q⟩ := x
      have kept : ∀ b o, s₁.heap.get? b = some o → s'.heap.get? b = some o := fun b o e => by
        cases q2 : H b with
        | none => exact un.keep b o e q2 (by intro z; exact absurd (show b ∈ ([] : List Addr) from z) (by simp)) (by simp)
        | some u2 =>
          rcases hO b with z | ⟨ob, u3, z⟩
          · rw [q2] at z
            cases z
          · have z2 := un.frzs b ob _ z
            obtain ⟨e1, _⟩ := hok b _ z
            obtain ⟨e2, _⟩ := hok' b _ z2
            rw [e] at e1
            cases e1
            exact e2
      have KX' : K.In s'.heap := fun b o e => kept b o (KX b o e)
      obtain ⟨as, hrd⟩ := Dw.reads (R := R) (cl := cl) hok' KX' d0 v u q r'
      exact ⟨u, as, rfl, hrd, OldK.of_keep kept, os, bare⟩
theorem layable_weight {ds : List WData} (h : WData.layableAll ds = true) : ∀ d ∈ ds, d.weight ≤ 1048576 := fun d hd =>
  (PySem.W.layableW_iff.mp (List.all_eq_true.mp h d hd)).2.2
theorem encAll_len : ∀ (cs : List Codec) (a : Codec.denoteAll cs), (Codec.encAll cs a).length = cs.length
  | [], _ => rfl
  | c :: cs, a => by
    show (Codec.encAll cs a.2).length + 1 = cs.length + 1
    rw [encAll_len cs a.2]
theorem walk_spec {r : OpenSpec} {k : Nat} {q : Program} {loose : List Str} {XP : (Str → Option Value) → Heap → Prop} {YP : World → Heap → Prop} {d : DefRec} {K : Params → PySem.W.Frag} {CX : World → CXT} {ps : List Str} {sp : World → Sp}
    (hwell : r.wellSaid = true) (hdf : d.params.defaults = []) (hlen : r.args.length = ps.length) (hr : Room k callerA)
    (hY : ∀ (w : World) (h : Heap), YP w h → (K w.params).In h)
    (F : ∀ (w : World) (mg : Str → Option Value) (fa : Addr) (h : Heap), YP w h → (K w.params).In h → h.Ns mainGlobals mg → mg d.name = some (.ref fa) →
      ∃ fd : FuncData, (∀ (s : Shared) (us : List Value), us.length = ps.length → BindsTo s fd ⟨us, []⟩ (ps.zip us)) ∧
        ∀ base : Heap, (K w.params).In base → base.Ns mainGlobals mg → FnOk r.prog w (K w.params) mg base (CX w) k fa fd ps (sp w))
    (hsp : ∀ (w : World) (H : Hp) (xs : List V) (a : Codec.denoteAll r.args), OnlyF H → Codec.withinAll r.args a = true → Codec.app r.args r.asked a = true → DwAll (K w.params) H xs (Codec.encAll r.args a) →
      sp w xs H (fun v H' => Dw (K w.params) H' v (r.ret.enc (Codec.app r.args r.f a))) fun _ _ _ => False)
    (hCX : ∀ (w : World) (H : Hp) (s : Shared) (e : Value) (s' : Shared), CX w [] H s (fun _ _ _ => False) e s' → False) :
    PySem.W.WalkOS q loose XP YP r d [] (fun f vs => PySem.call f vs) := by
  intro w s_0 s₁ mg mb G Y fa o pm cd doc dV kV ho hd hcd hD hmg hg args vals as hpre hlay hrd hwl hlo
  obtain ⟨a, e1, e2⟩ := PySem.W.os_pre_some hpre
  obtain ⟨e3, hwi⟩ := Codec.encAll_of_decAll r.args args a e1
  subst e3
  have KX := hY w _ Y
  obtain ⟨fd, hb, hF⟩ := F w mg fa _ Y KX G.T.g hmg
  refine PySem.W.enter_call (codeAny_mono (spec_call (R := []) (cl := classAt s_0.heap) (d0 := r.ret.enc (Codec.app r.args r.f a)) KX G.T.g G.T.b G.T.builtins G.T.nolimit hg hwl (pl_encAll _ _) (layable_weight hlay) hr hF hb (by rw [encAll_len]; exact hlen)
    (fun H xs hO hS => hsp w H xs a hO hwi e2 hS) fun H e s' => hCX w H s₁ e s') fun r' s' hq => ?_)
  obtain ⟨u, as', rfl, h1, h2, h3, h4⟩ := hq
  exact ⟨.inl ⟨u, _, as', rfl, fun _ => rfl, h1, (OpenSpec.post_iff hwell hwi _ _).mpr rfl, fun z => Bool.noConfusion (show false = true from z)⟩, h2, h3, h4⟩
theorem walk_specK {r : OpenSpec} {k : Nat} {q : Program} {loose : List Str} {XP : (Str → Option Value) → Heap → Prop} {YP : World → Heap → Prop} {d : DefRec} {K : Params → PySem.W.Frag} {CX : CXT} {ps : List Str} {sp : PySem.W.Frag → Sp}
    (hwell : r.wellSaid = true) (hdf : d.params.defaults = []) (hlen : r.args.length = ps.length) (hr : Room k callerA)
    (hY : ∀ (w : World) (h : Heap), YP w h → (K w.params).In h)
    (F : ∀ (w : World) (mg : Str → Option Value) (fa : Addr) (h : Heap), YP w h → (K w.params).In h → h.Ns mainGlobals mg → mg d.name = some (.ref fa) →
      ∃ fd : FuncData, (∀ (s : Shared) (us : List Value), us.length = ps.length → BindsTo s fd ⟨us, []⟩ (ps.zip us)) ∧
        ∀ base : Heap, (K w.params).In base → base.Ns mainGlobals mg → FnOk r.prog w (K w.params) mg base CX k fa fd ps (sp (K w.params)))
    (hsp : ∀ (K : PySem.W.Frag) (H : Hp) (xs : List V) (a : Codec.denoteAll r.args), OnlyF H → Codec.withinAll r.args a = true → Codec.app r.args r.asked a = true → DwAll K H xs (Codec.encAll r.args a) →
      sp K xs H (fun v H' => Dw K H' v (r.ret.enc (Codec.app r.args r.f a))) fun _ _ _ => False)
    (hCX : ∀ (H : Hp) (s : Shared) (e : Value) (s' : Shared), CX [] H s (fun _ _ _ => False) e s' → False) :
    PySem.W.WalkOS q loose XP YP r d [] (fun f vs => PySem.call f vs) :=
  walk_spec (K := K) (CX := fun _ => CX) (sp := fun w => sp (K w.params)) hwell hdf hlen hr hY F (fun w H xs a h1 h2 h3 h4 => hsp (K w.params) H xs a h1 h2 h3 h4) fun _ H s e s' => hCX H s e s'
end L2
end

/-! The list of calls, read one call after another. -/
namespace MD
open Km408 (Call Desk Ans act fresh)
open Km408Neutral (S told step may asked1 natural)
/-- the numbers of a call behind its place, and the call that they are -/
inductive CallAt : Nat → List Nat → Call → Prop
  | c0 (k : Nat) : CallAt 0 [k] (.start k)
  | c1 (g f r : Nat) : CallAt 1 [g, f, r] (.kind g f r)
  | c2 (k n : Nat) : CallAt 2 [k, n] (.die k n)
  | c3 (p g x : Nat) : CallAt 3 [p, g, x] (.bring p g x)
  | c4 (p k g : Nat) : CallAt 4 [p, k, g] (.old p k g)
  | c5 (b : Nat) : CallAt 5 [b] (.melt b)
  | c6 (g c : Nat) : CallAt 6 [g, c] (.add g c)
  | c7 (k : Nat) : CallAt 7 [k] (.fits k)
  | c8 (k : Nat) : CallAt 8 [k] (.need k)
  | c9 (k n : Nat) : CallAt 9 [k, n] (.plan k n)
  | c10 (k e n : Nat) (l : List Nat) : l.length = 8 → CallAt 10 (k :: e :: n :: 8 :: l) (.strike k e l n)
  | c11 (k : Nat) : CallAt 11 [k] (.enough k)
  | c12 (k : Nat) : CallAt 12 [k] (.trial k)
  | c13 (k : Nat) : CallAt 13 [k] (.open_ k)
  | c14 (k : Nat) : CallAt 14 [k] (.break_ k)
  | c15 (p k n : Nat) : CallAt 15 [p, k, n] (.pay p k n)
  | c16 (p : Nat) : CallAt 16 [p] (.credit p)
  | c17 (k : Nat) : CallAt 17 [k] (.stock k)
  | c18 (k : Nat) : CallAt 18 [k] (.off k)
  | c19 : CallAt 19 [] .pot
  | c20 : CallAt 20 [] .lots
  | c21 : CallAt 21 [] .worn
  | c22 : CallAt 22 [] .ledger
  | c23 : CallAt 23 [] .claims
  | c24 : CallAt 24 [] .back
  | c25 : CallAt 25 [] .again
  | c26 : CallAt 26 [] .state
/-- what a call is, by its place -/
def forms : List (List Nat → Call → Prop) := [
  fun xs x => ∃ k, xs = [k] ∧ x = (.start k),
  fun xs x => ∃ g f r, xs = [g, f, r] ∧ x = (.kind g f r),
  fun xs x => ∃ k n, xs = [k, n] ∧ x = (.die k n),
  fun xs x => ∃ p g y, xs = [p, g, y] ∧ x = (.bring p g y),
  fun xs x => ∃ p k g, xs = [p, k, g] ∧ x = (.old p k g),
  fun xs x => ∃ b, xs = [b] ∧ x = (.melt b),
  fun xs x => ∃ g c, xs = [g, c] ∧ x = (.add g c),
  fun xs x => ∃ k, xs = [k] ∧ x = (.fits k),
  fun xs x => ∃ k, xs = [k] ∧ x = (.need k),
  fun xs x => ∃ k n, xs = [k, n] ∧ x = (.plan k n),
  fun xs x => ∃ k e n l, l.length = 8 ∧ xs = k :: e :: n :: 8 :: l ∧ x = .strike k e l n,
  fun xs x => ∃ k, xs = [k] ∧ x = (.enough k),
  fun xs x => ∃ k, xs = [k] ∧ x = (.trial k),
  fun xs x => ∃ k, xs = [k] ∧ x = (.open_ k),
  fun xs x => ∃ k, xs = [k] ∧ x = (.break_ k),
  fun xs x => ∃ p k n, xs = [p, k, n] ∧ x = (.pay p k n),
  fun xs x => ∃ p, xs = [p] ∧ x = (.credit p),
  fun xs x => ∃ k, xs = [k] ∧ x = (.stock k),
  fun xs x => ∃ k, xs = [k] ∧ x = (.off k),
  fun xs x => xs = [] ∧ x = .pot,
  fun xs x => xs = [] ∧ x = .lots,
  fun xs x => xs = [] ∧ x = .worn,
  fun xs x => xs = [] ∧ x = .ledger,
  fun xs x => xs = [] ∧ x = .claims,
  fun xs x => xs = [] ∧ x = .back,
  fun xs x => xs = [] ∧ x = .again,
  fun xs x => xs = [] ∧ x = .state]
def Is (c : Nat) (xs : List Nat) (x : Call) : Prop := forms.getD c (fun _ _ => False) xs x
theorem CallAt.is {c : Nat} {xs : List Nat} {x : Call} (h : CallAt c xs x) : Is c xs x := by
  cases h with
  | c0 a0 => exact ⟨a0, rfl, rfl⟩
  | c1 a0 a1 a2 => exact ⟨a0, a1, a2, rfl, rfl⟩
  | c2 a0 a1 => exact ⟨a0, a1, rfl, rfl⟩
  | c3 a0 a1 a2 => exact ⟨a0, a1, a2, rfl, rfl⟩
  | c4 a0 a1 a2 => exact ⟨a0, a1, a2, rfl, rfl⟩
  | c5 a0 => exact ⟨a0, rfl, rfl⟩
  | c6 a0 a1 => exact ⟨a0, a1, rfl, rfl⟩
  | c7 a0 => exact ⟨a0, rfl, rfl⟩
  | c8 a0 => exact ⟨a0, rfl, rfl⟩
  | c9 a0 a1 => exact ⟨a0, a1, rfl, rfl⟩
  | c10 k e n l hl => exact ⟨k, e, n, l, hl, rfl, rfl⟩
  | c11 a0 => exact ⟨a0, rfl, rfl⟩
  | c12 a0 => exact ⟨a0, rfl, rfl⟩
  | c13 a0 => exact ⟨a0, rfl, rfl⟩
  | c14 a0 => exact ⟨a0, rfl, rfl⟩
  | c15 a0 a1 a2 => exact ⟨a0, a1, a2, rfl, rfl⟩
  | c16 a0 => exact ⟨a0, rfl, rfl⟩
  | c17 a0 => exact ⟨a0, rfl, rfl⟩
  | c18 a0 => exact ⟨a0, rfl, rfl⟩
  | c19 => exact ⟨rfl, rfl⟩
  | c20 => exact ⟨rfl, rfl⟩
  | c21 => exact ⟨rfl, rfl⟩
  | c22 => exact ⟨rfl, rfl⟩
  | c23 => exact ⟨rfl, rfl⟩
  | c24 => exact ⟨rfl, rfl⟩
  | c25 => exact ⟨rfl, rfl⟩
  | c26 => exact ⟨rfl, rfl⟩
/-- the desk that stands for an object that has not begun: one begun with 0 -/
def dOf (s : S) : Desk := s.getD (fresh 0)
def next (s : S) (x : Call) : S := match s with
  | some a => some (act a x).1
  | none => if (told (act (fresh 0) x).2).headD 0 < 0 then none else some (act (fresh 0) x).1
def intsOf (l : List Nat) : List Int := l.map fun (x : Nat) => (x : Int)
/-- so many calls, from this state: what is handed in, what is due -/
inductive Line : Nat → S → List Int → List Int → Prop
  | nil {s : S} : Line 0 s [] []
  | cons {n : Nat} {s : S} {p : Nat} {xs : List Nat} {c : Call} {r a : List Int} : CallAt p xs c → (∀ y ∈ xs, y < 4294967296) → (s = none → ∃ k, c = .start k) → Line n (next s c) r a →
      Line (n + 1) s ((p : Int) :: (intsOf xs ++ r)) (((told (act (dOf s) c).2).length : Int) :: (told (act (dOf s) c).2 ++ a))
theorem told_ne (a : Ans) : told a ≠ [] := by
  intro h
  cases h
theorem step_of {s : S} {c : List (List Int)} {x : Call} (h : Km408Neutral.callOf c = some x) (hm : (step s c).2.isEmpty = false) : (s = none → ∃ k, x = .start k) ∧ (step s c).2 = told (act (dOf s) x).2 ∧ (step s c).1 = next s x := by
  unfold step at hm ⊢
  rw [h] at hm ⊢
  cases s with
  | some a => exact ⟨(fun q => nomatch q), rfl, rfl⟩
  | none =>
    simp only at hm ⊢
    by_cases q : Km408Neutral.isStart x = true
    · rw [if_pos q] at hm ⊢
      refine ⟨fun _ => ?_, rfl, rfl⟩
      cases x with
      | start k => exact ⟨k, rfl⟩
      | _ => cases q
    · rw [if_neg q] at hm
      cases hm
theorem nat_of {z : Int} (h : natural z 32 = true) : ∃ n : Nat, z = (n : Int) ∧ n < 4294967296 := by
  unfold natural at h
  rw [Bool.and_eq_true, decide_eq_true_eq, decide_eq_true_eq] at h
  exact ⟨z.toNat, by omega, by omega⟩
theorem nats_of : ∀ {l : List Int}, (l.all fun z => natural z 32) = true → ∃ m : List Nat, l = intsOf m ∧ ∀ y ∈ m, y < 4294967296
  | [], _ => ⟨[], rfl, fun y h => by cases h⟩
  | z :: l, h => by
    rw [List.all_cons, Bool.and_eq_true] at h
    obtain ⟨n, e, hn⟩ := nat_of h.1
    obtain ⟨m, e2, hm⟩ := nats_of h.2
    refine ⟨n :: m, by rw [e, e2]; rfl, fun y hy => ?_⟩
    cases hy with
    | head => exact hn
    | tail _ q => exact hm y q
theorem nats_ints (m : List Nat) : Km408Neutral.nats (intsOf m) = m := by
  unfold Km408Neutral.nats intsOf
  rw [List.map_map]
  conv => rhs; rw [← List.map_id m]
  apply List.map_congr_left
  intro a _
  exact Int.toNat_natCast a
/-- what a call is: its place, its numbers -/
def CallIs (p : Int) (r t : List Int) (c : List (List Int)) : Prop := ∃ (q : Nat) (xs : List Nat) (x : Call), p = (q : Int) ∧ r = intsOf xs ++ t ∧ CallAt q xs x ∧ (∀ y ∈ xs, y < 4294967296) ∧ Km408Neutral.callOf c = some x ∧ PyKm408.whole c = c
/-- one call: its place, its numbers -/
theorem call_of {p : Int} {r t : List Int} {c : List (List Int)} (h : PyFlat.call PyKm408.shape (p :: r) = some (c, t)) (ha : asked1 (PyKm408.whole c) = true) : CallIs p r t c := by
  unfold PyFlat.call at h
  simp only at h
  unfold PyKm408.shape at h
  have one : ∀ (q : Nat) (mk : Nat → Call), p = (q : Int) → (if r.length < 1 then none else some ((p :: r.take 1) :: [], r.drop 1)) = some (c, t) → (∀ b, asked1 [[(q : Int), b]] = natural b 32) → (∀ k, CallAt q [k] (mk k)) → (∀ b, Km408Neutral.callOf [[(q : Int), b]] = some (mk b.toNat)) → (∀ b, PyKm408.whole [[(q : Int), b]] = [[(q : Int), b]]) →
      CallIs p r t c := by
    intro q mk e h1 h2 h3 h4 h5
    match r, h1 with
    | [], h1 => cases h1
    | b :: r', h1 =>
      rw [if_neg (by simp)] at h1
      obtain ⟨rfl, rfl⟩ := Prod.mk.inj (Option.some.inj h1)
      subst e
      have hb : natural b 32 = true := by rw [← h2, ← h5]; exact ha
      obtain ⟨n, rfl, hn⟩ := nat_of hb
      refine ⟨q, [n], mk n, rfl, rfl, h3 n, fun y hy => ?_, h4 _, h5 _⟩
      simp at hy
      omega
  have two : ∀ (q : Nat) (mk : Nat → Nat → Call), p = (q : Int) → (if r.length < 2 then none else some ((p :: r.take 2) :: [], r.drop 2)) = some (c, t) → (∀ b d, asked1 [[(q : Int), b, d]] = (natural b 32 && natural d 32)) → (∀ k n, CallAt q [k, n] (mk k n)) → (∀ b d, Km408Neutral.callOf [[(q : Int), b, d]] = some (mk b.toNat d.toNat)) → (∀ b d, PyKm408.whole [[(q : Int), b, d]] = [[(q : Int), b, d]]) →
      CallIs p r t c := by
    intro q mk e h1 h2 h3 h4 h5
    match r, h1 with
    | [], h1 => cases h1
    | [_], h1 => cases h1
    | b :: d :: r', h1 =>
      rw [if_neg (by simp)] at h1
      obtain ⟨rfl, rfl⟩ := Prod.mk.inj (Option.some.inj h1)
      subst e
      have hb : (natural b 32 && natural d 32) = true := by rw [← h2, ← h5]; exact ha
      rw [Bool.and_eq_true] at hb
      obtain ⟨n, rfl, hn⟩ := nat_of hb.1
      obtain ⟨m, rfl, hm⟩ := nat_of hb.2
      refine ⟨q, [n, m], mk n m, rfl, rfl, h3 n m, fun y hy => ?_, h4 _ _, h5 _ _⟩
      simp at hy
      omega
  have three : ∀ (q : Nat) (mk : Nat → Nat → Nat → Call), p = (q : Int) → (if r.length < 3 then none else some ((p :: r.take 3) :: [], r.drop 3)) = some (c, t) → (∀ b d f, asked1 [[(q : Int), b, d, f]] = (natural b 32 && natural d 32 && natural f 32)) → (∀ k n m, CallAt q [k, n, m] (mk k n m)) → (∀ b d f, Km408Neutral.callOf [[(q : Int), b, d, f]] = some (mk b.toNat d.toNat f.toNat)) → (∀ b d f, PyKm408.whole [[(q : Int), b, d, f]] = [[(q : Int), b, d, f]]) →
      CallIs p r t c := by
    intro q mk e h1 h2 h3 h4 h5
    match r, h1 with
    | [], h1 => cases h1
    | [_], h1 => cases h1
    | [_, _], h1 => cases h1
    | b :: d :: f :: r', h1 =>
      rw [if_neg (by simp)] at h1
      obtain ⟨rfl, rfl⟩ := Prod.mk.inj (Option.some.inj h1)
      subst e
      have hb : (natural b 32 && natural d 32 && natural f 32) = true := by rw [← h2, ← h5]; exact ha
      rw [Bool.and_eq_true, Bool.and_eq_true] at hb
      obtain ⟨n, rfl, hn⟩ := nat_of hb.1.1
      obtain ⟨m, rfl, hm⟩ := nat_of hb.1.2
      obtain ⟨k, rfl, hk⟩ := nat_of hb.2
      refine ⟨q, [n, m, k], mk n m k, rfl, rfl, h3 n m k, fun y hy => ?_, h4 _ _ _, h5 _ _ _⟩
      simp at hy
      omega
  have none0 : ∀ (q : Nat) (x : Call), p = (q : Int) → (if r.length < 0 then none else some ((p :: r.take 0) :: [], r.drop 0)) = some (c, t) → CallAt q [] x → Km408Neutral.callOf [[(q : Int)]] = some x → PyKm408.whole [[(q : Int)]] = [[(q : Int)]] →
      CallIs p r t c := by
    intro q x e h1 h3 h4 h5
    rw [if_neg (by simp)] at h1
    obtain ⟨rfl, rfl⟩ := Prod.mk.inj (Option.some.inj h1)
    subst e
    exact ⟨q, [], x, rfl, rfl, h3, (fun y hy => by cases hy), h4, h5⟩
  by_cases e0 : p = 0
  · subst e0; exact one 0 .start rfl h (fun _ => rfl) .c0 (fun _ => rfl) (fun _ => rfl)
  rw [if_neg e0] at h
  by_cases e1 : p = 1
  · subst e1; exact three 1 .kind rfl h (fun _ _ _ => rfl) .c1 (fun _ _ _ => rfl) (fun _ _ _ => rfl)
  rw [if_neg e1] at h
  by_cases e2 : p = 2
  · subst e2; exact two 2 .die rfl h (fun _ _ => rfl) .c2 (fun _ _ => rfl) (fun _ _ => rfl)
  rw [if_neg e2] at h
  by_cases e3 : p = 3
  · subst e3; exact three 3 .bring rfl h (fun _ _ _ => rfl) .c3 (fun _ _ _ => rfl) (fun _ _ _ => rfl)
  rw [if_neg e3] at h
  by_cases e4 : p = 4
  · subst e4; exact three 4 .old rfl h (fun _ _ _ => rfl) .c4 (fun _ _ _ => rfl) (fun _ _ _ => rfl)
  rw [if_neg e4] at h
  by_cases e5 : p = 5
  · subst e5; exact one 5 .melt rfl h (fun _ => rfl) .c5 (fun _ => rfl) (fun _ => rfl)
  rw [if_neg e5] at h
  by_cases e6 : p = 6
  · subst e6; exact two 6 .add rfl h (fun _ _ => rfl) .c6 (fun _ _ => rfl) (fun _ _ => rfl)
  rw [if_neg e6] at h
  by_cases e7 : p = 7
  · subst e7; exact one 7 .fits rfl h (fun _ => rfl) .c7 (fun _ => rfl) (fun _ => rfl)
  rw [if_neg e7] at h
  by_cases e8 : p = 8
  · subst e8; exact one 8 .need rfl h (fun _ => rfl) .c8 (fun _ => rfl) (fun _ => rfl)
  rw [if_neg e8] at h
  by_cases e9 : p = 9
  · subst e9; exact two 9 .plan rfl h (fun _ _ => rfl) .c9 (fun _ _ => rfl) (fun _ _ => rfl)
  rw [if_neg e9] at h
  by_cases e10 : p = 10
  · subst e10
    simp only [if_true] at h
    match r, h with
    | [], h => cases h
    | [_], h => cases h
    | [_, _], h => cases h
    | b :: d :: f :: r3, h =>
      rw [if_neg (by simp)] at h
      match r3, h with
      | [], h => cases h
      | z :: r4, h =>
        by_cases hz : 0 ≤ z ∧ z.toNat ≤ r4.length
        · have er : PyFlat.rows 1 (z :: r4) = some ([r4.take z.toNat], r4.drop z.toNat) := by
            show (match PyFlat.row (z :: r4) with
              | none => none
              | some (x, s) => match PyFlat.rows 0 s with
                | none => none
                | some (xs, t) => some (x :: xs, t)) = _
            have er0 : PyFlat.row (z :: r4) = some (r4.take z.toNat, r4.drop z.toNat) := if_pos hz
            rw [er0]
            rfl
          have h' : (match PyFlat.rows 1 (z :: r4) with
            | none => none
            | some (xs, t) => some (((10 : Int) :: [b, d, f]) :: xs, t)) = some (c, t) := h
          rw [er] at h'
          obtain ⟨rfl, rfl⟩ := Prod.mk.inj (Option.some.inj h')
          have hb : (natural b 32 && natural d 32 && (decide ((r4.take z.toNat).length = 8) && (r4.take z.toNat).all (fun (z : Int) => natural z 32)) && natural f 32) = true := ha
          rw [Bool.and_eq_true, Bool.and_eq_true, Bool.and_eq_true, Bool.and_eq_true, decide_eq_true_eq] at hb
          obtain ⟨⟨⟨h1, h2⟩, hl, h3⟩, h4⟩ := hb
          obtain ⟨n, rfl, hn⟩ := nat_of h1
          obtain ⟨m, rfl, hm⟩ := nat_of h2
          obtain ⟨k, rfl, hk⟩ := nat_of h4
          obtain ⟨l, el, hlb⟩ := nats_of h3
          have hz8 : z.toNat = 8 := by
            rw [List.length_take] at hl
            omega
          have ez : z = 8 := by omega
          have ll : l.length = 8 := by
            rw [el] at hl
            unfold intsOf at hl
            rw [List.length_map] at hl
            exact hl
          refine ⟨10, n :: m :: k :: 8 :: l, .strike n m l k, rfl, ?_, .c10 n m k l ll, fun y hy => ?_, ?_, rfl⟩
          · subst ez
            show _ = (n : Int) :: (m : Int) :: (k : Int) :: 8 :: (intsOf l ++ _)
            rw [← el]
            show _ = (n : Int) :: (m : Int) :: (k : Int) :: 8 :: (r4.take 8 ++ r4.drop 8)
            rw [List.take_append_drop]
          · simp only [List.mem_cons] at hy
            rcases hy with rfl | rfl | rfl | rfl | hy
            · exact hn
            · exact hm
            · exact hk
            · decide
            · exact hlb y hy
          · show some (Call.strike _ _ (Km408Neutral.nats (r4.take z.toNat)) _) = _
            rw [el, nats_ints]
            rfl
        · have er : PyFlat.rows 1 (z :: r4) = none := by
            show (match PyFlat.row (z :: r4) with
              | none => none
              | some (x, s) => match PyFlat.rows 0 s with
                | none => none
                | some (xs, t) => some (x :: xs, t)) = _
            have er0 : PyFlat.row (z :: r4) = none := if_neg hz
            rw [er0]
          have h' : (match PyFlat.rows 1 (z :: r4) with
            | none => none
            | some (xs, t) => some (((10 : Int) :: [b, d, f]) :: xs, t)) = some (c, t) := h
          rw [er] at h'
          cases h'
  rw [if_neg e10] at h
  by_cases e11 : p = 11
  · subst e11; exact one 11 .enough rfl h (fun _ => rfl) .c11 (fun _ => rfl) (fun _ => rfl)
  rw [if_neg e11] at h
  by_cases e12 : p = 12
  · subst e12; exact one 12 .trial rfl h (fun _ => rfl) .c12 (fun _ => rfl) (fun _ => rfl)
  rw [if_neg e12] at h
  by_cases e13 : p = 13
  · subst e13; exact one 13 .open_ rfl h (fun _ => rfl) .c13 (fun _ => rfl) (fun _ => rfl)
  rw [if_neg e13] at h
  by_cases e14 : p = 14
  · subst e14; exact one 14 .break_ rfl h (fun _ => rfl) .c14 (fun _ => rfl) (fun _ => rfl)
  rw [if_neg e14] at h
  by_cases e15 : p = 15
  · subst e15; exact three 15 .pay rfl h (fun _ _ _ => rfl) .c15 (fun _ _ _ => rfl) (fun _ _ _ => rfl)
  rw [if_neg e15] at h
  by_cases e16 : p = 16
  · subst e16; exact one 16 .credit rfl h (fun _ => rfl) .c16 (fun _ => rfl) (fun _ => rfl)
  rw [if_neg e16] at h
  by_cases e17 : p = 17
  · subst e17; exact one 17 .stock rfl h (fun _ => rfl) .c17 (fun _ => rfl) (fun _ => rfl)
  rw [if_neg e17] at h
  by_cases e18 : p = 18
  · subst e18; exact one 18 .off rfl h (fun _ => rfl) .c18 (fun _ => rfl) (fun _ => rfl)
  rw [if_neg e18] at h
  by_cases e19 : p = 19
  · subst e19; exact none0 19 .pot rfl h .c19 rfl rfl
  rw [if_neg e19] at h
  by_cases e20 : p = 20
  · subst e20; exact none0 20 .lots rfl h .c20 rfl rfl
  rw [if_neg e20] at h
  by_cases e21 : p = 21
  · subst e21; exact none0 21 .worn rfl h .c21 rfl rfl
  rw [if_neg e21] at h
  by_cases e22 : p = 22
  · subst e22; exact none0 22 .ledger rfl h .c22 rfl rfl
  rw [if_neg e22] at h
  by_cases e23 : p = 23
  · subst e23; exact none0 23 .claims rfl h .c23 rfl rfl
  rw [if_neg e23] at h
  by_cases e24 : p = 24
  · subst e24; exact none0 24 .back rfl h .c24 rfl rfl
  rw [if_neg e24] at h
  by_cases e25 : p = 25
  · subst e25; exact none0 25 .again rfl h .c25 rfl rfl
  rw [if_neg e25] at h
  by_cases e26 : p = 26
  · subst e26; exact none0 26 .state rfl h .c26 rfl rfl
  rw [if_neg e26] at h
  cases h
theorem line_gen : ∀ (f : Nat) (l : List Int) (cs : List (List (List Int))) (s : S), PyFlat.calls PyKm408.shape f l = some cs → (cs.map PyKm408.whole).all asked1 = true → may s (cs.map PyKm408.whole) = true → Line cs.length s l (PyFlat.told (PyFlat.played step s (cs.map PyKm408.whole)))
  | f, [], cs, s, h, _, _ => by
    have e : cs = [] := by
      cases f <;> exact (Option.some.inj h).symm
    subst e
    exact .nil
  | 0, _ :: _, _, _, h, _, _ => by cases h
  | f + 1, p :: r, cs, s, h, ha, hm => by
    have h' : (match PyFlat.call PyKm408.shape (p :: r) with
      | none => none
      | some (c, t) => match PyFlat.calls PyKm408.shape f t with
        | none => none
        | some cs => some (c :: cs)) = some cs := h
    cases e1 : PyFlat.call PyKm408.shape (p :: r) with
    | none => rw [e1] at h'; cases h'
    | some ct =>
      obtain ⟨c, t⟩ := ct
      rw [e1] at h'
      simp only at h'
      cases e2 : PyFlat.calls PyKm408.shape f t with
      | none => rw [e2] at h'; cases h'
      | some cs' =>
        rw [e2] at h'
        have e3 : c :: cs' = cs := Option.some.inj h'
        subst e3
        rw [List.map_cons] at ha hm ⊢
        rw [List.all_cons, Bool.and_eq_true] at ha
        obtain ⟨q, xs, x, rfl, rfl, hx, hb, hc, ew⟩ := call_of e1 ha.1
        rw [ew] at hm ⊢
        have hm' : (!((step s c).2.isEmpty) && may (step s c).1 (cs'.map PyKm408.whole)) = true := hm
        rw [Bool.and_eq_true, Bool.not_eq_true'] at hm'
        obtain ⟨g1, g2, g3⟩ := step_of hc hm'.1
        have ih := line_gen f t cs' (step s c).1 e2 ha.2 hm'.2
        rw [g3] at ih
        have e4 : PyFlat.told (PyFlat.played step s (c :: cs'.map PyKm408.whole)) = ((told (act (dOf s) x).2).length : Int) :: (told (act (dOf s) x).2 ++ PyFlat.told (PyFlat.played step (next s x) (cs'.map PyKm408.whole))) := by
          show PyFlat.told ((step s c).2 :: PyFlat.played step (step s c).1 (cs'.map PyKm408.whole)) = _
          unfold PyFlat.told
          rw [List.flatMap_cons, g2, g3]
          rfl
        rw [e4]
        exact .cons hx hb g1 ih
theorem line_of {l : List Int} (h : PyKm408.answers_asked l = true) : ∃ n, n ≤ 1000 ∧ Line n none l (PyKm408.answers l) ∧ (PyKm408.answers l).length ≤ 10000000 := by
  unfold PyKm408.answers_asked at h
  cases e : PyFlat.calls PyKm408.shape l.length l with
  | none => rw [e] at h; cases h
  | some cs =>
    rw [e] at h
    simp only [Bool.and_eq_true] at h
    obtain ⟨⟨⟨⟨_, h1⟩, _⟩, h2⟩, h3⟩ := h
    unfold Km408Neutral.asked at h2
    simp only [Bool.and_eq_true] at h2
    obtain ⟨_, _, h4, h5⟩ := h2
    refine ⟨cs.length, of_decide_eq_true h1, ?_, of_decide_eq_true h3⟩
    have ea : PyKm408.answers l = PyFlat.told (PyFlat.played step none (cs.map PyKm408.whole)) := by
      unfold PyKm408.answers PyKm408.calls
      rw [e]
      rfl
    rw [ea]
    exact line_gen _ _ _ _ e h4 h5
end MD

/-! What's needed: the specification's search, as the program reckons it. -/
namespace MN
open Km408 (Metal copperFor needOf)
/-- the least gold, of fewer than f grains, that makes the rest a nought -/
def rest (f a : Nat) : Option Nat := (List.range f).find? fun k => decide ((a + 24 * k) % f = 0)
def low (m : Metal) (f : Nat) : Nat := if f * m.grains ≤ m.carats then 0 else if f = 24 then 0 else (f * m.grains - m.carats + (24 - f) - 1) / (24 - f)
def over (m : Metal) (f : Nat) : Nat := m.carats + 24 * low m f - f * (m.grains + low m f)
theorem low_ok {m : Metal} {f : Nat} (hf : f ≤ 24) (h : ¬ (m.carats < f * m.grains ∧ f = 24)) : f * (m.grains + low m f) ≤ m.carats + 24 * low m f := by
  unfold low
  rw [Nat.mul_add]
  by_cases h1 : f * m.grains ≤ m.carats
  · rw [if_pos h1]; omega
  · rw [if_neg h1]
    have h2 : f ≠ 24 := fun e => h ⟨by omega, e⟩
    rw [if_neg h2]
    obtain ⟨d, hd⟩ : ∃ d, 24 - f = d + 1 := ⟨24 - f - 1, by omega⟩
    have e : f = 24 - (d + 1) := by omega
    generalize hq : f * m.grains - m.carats = q
    rw [hd]
    have h3 : q ≤ (d + 1) * ((q + (d + 1) - 1) / (d + 1)) := by
      have h4 := Nat.div_add_mod (q + (d + 1) - 1) (d + 1)
      have h5 := Nat.mod_lt (q + (d + 1) - 1) (Nat.succ_pos d)
      generalize (d + 1) * ((q + (d + 1) - 1) / (d + 1)) = A at *
      generalize (q + (d + 1) - 1) % (d + 1) = B at *
      have : d.succ = d + 1 := rfl
      omega
    generalize hx : (q + (d + 1) - 1) / (d + 1) = x at *
    have h6 : (d + 1) * x + f * x = 24 * x := by
      rw [← Nat.add_mul]
      congr 1
      omega
    omega
theorem copper_eq {m : Metal} {f : Nat} (k : Nat) (hf : f ≤ 24) (h : ¬ (m.carats < f * m.grains ∧ f = 24)) :
    copperFor m f (low m f + k) = if (over m f + 24 * k) % f = 0 then some ((over m f + (24 - f) * k) / f) else none := by
  have h1 := low_ok hf h
  unfold copperFor
  simp only
  have e1 : f * (m.grains + (low m f + k)) = f * (m.grains + low m f) + f * k := by rw [← Nat.add_assoc, Nat.mul_add]
  have e2 : (24 - f) * k + f * k = 24 * k := by
    rw [← Nat.add_mul]
    congr 1
    omega
  have e3 : m.carats + 24 * (low m f + k) - f * (m.grains + (low m f + k)) = over m f + (24 - f) * k := by
    unfold over
    omega
  rw [if_neg (by omega), e3]
  have e4 : (over m f + 24 * k) % f = (over m f + (24 - f) * k) % f := by
    rw [← e2, ← Nat.add_assoc, Nat.add_mul_mod_self_left]
  rw [e4]
theorem find_more {P : Nat → Bool} {f n : Nat} (h : ∀ k, P (k + f) = P k) (h0 : 0 < f) (hn : f ≤ n) : (List.range n).find? P = (List.range f).find? P := by
  obtain ⟨d, rfl⟩ : ∃ d, n = f + d := ⟨n - f, by omega⟩
  rw [List.range_add, List.find?_append]
  cases e : (List.range f).find? P with
  | some x => rfl
  | none =>
    have e' := List.find?_eq_none.mp e
    have per : ∀ k, P k = P (k % f) := by
      intro k
      induction k using Nat.strongRecOn with
      | ind k ih =>
        by_cases hk : k < f
        · rw [Nat.mod_eq_of_lt hk]
        · obtain ⟨j, rfl⟩ : ∃ j, k = j + f := ⟨k - f, by omega⟩
          rw [h j, ih j (by omega), Nat.add_mod_right]
    show Option.or none _ = none
    have e2 : List.find? P (List.map (fun x => f + x) (List.range d)) = none := by
      rw [List.find?_eq_none]
      intro x hx
      rw [per x]
      exact e' _ (List.mem_range.mpr (Nat.mod_lt _ h0))
    rw [e2]
    rfl
theorem findSome_if {α : Type} {p : Nat → Bool} {g : Nat → α} : ∀ l : List Nat, l.findSome? (fun k => if p k = true then some (g k) else none) = (l.find? p).map g
  | [] => rfl
  | a :: l => by
    rw [List.findSome?_cons, List.find?_cons]
    cases e : p a with
    | true => simp
    | false => simp [findSome_if l]
/-- the specification's need, as it is reckoned -/
theorem needOf_eq (m : Metal) {f : Nat} (h1 : 1 ≤ f) (hf : f ≤ 24) :
    needOf m f = if m.carats < f * m.grains ∧ f = 24 then none else (rest f (over m f)).map fun k => (low m f + k, (over m f + (24 - f) * k) / f) := by
  by_cases h : m.carats < f * m.grains ∧ f = 24
  · rw [if_pos h]
    unfold needOf
    rw [List.findSome?_eq_none_iff]
    intro k _
    obtain ⟨h2, rfl⟩ := h
    have : copperFor m 24 ((if 24 * m.grains ≤ m.carats then 0 else if 24 = 24 then 0 else (24 * m.grains - m.carats + (24 - 24) - 1) / (24 - 24)) + k) = none := by
      unfold copperFor
      simp only
      rw [if_pos (by omega)]
    rw [this]
    rfl
  · rw [if_neg h]
    show (List.range 25).findSome? (fun k => (copperFor m f (low m f + k)).map fun c => (low m f + k, c)) = _
    have e : (fun k => (copperFor m f (low m f + k)).map fun c => (low m f + k, c)) = fun k => if (decide ((over m f + 24 * k) % f = 0)) = true then some (low m f + k, (over m f + (24 - f) * k) / f) else none := by
      funext k
      rw [copper_eq k hf h]
      by_cases q : (over m f + 24 * k) % f = 0
      · rw [if_pos q, if_pos (decide_eq_true q)]; rfl
      · rw [if_neg q, if_neg (by rw [decide_eq_true_eq]; exact q)]; rfl
    rw [e, findSome_if, find_more (f := f) ?_ h1 (by omega)]
    · rfl
    · intro k
      show decide _ = decide _
      have : (over m f + 24 * (k + f)) % f = (over m f + 24 * k) % f := by
        rw [Nat.mul_add, ← Nat.add_assoc, Nat.add_mul_mod_self_right]
      rw [this]
/-- the table of the least gold by rests: -1 where none does -/
def golds (f : Nat) : List Int := (List.range f).map fun r => match rest f r with
  | some k => (k : Int)
  | none => -1
theorem rest_mod (f a : Nat) : rest f (a % f) = rest f a := by
  unfold rest
  congr 1
  funext k
  have : (a % f + 24 * k) % f = (a + 24 * k) % f := by rw [Nat.add_mod, Nat.mod_mod, ← Nat.add_mod]
  rw [this]
theorem golds_at {f : Nat} (h : 0 < f) (a : Nat) : (golds f)[a % f]? = some (match rest f a with
    | some k => (k : Int)
    | none => -1) := by
  unfold golds
  rw [List.getElem?_map, List.getElem?_range (Nat.mod_lt _ h)]
  show some (match rest f (a % f) with
    | some k => (k : Int)
    | none => -1) = _
  rw [rest_mod]
/-- the loop that writes the table, from the greatest gold down -/
def goldsLoop (f : Nat) : Nat → List Int → List Int
  | 0, l => l
  | n + 1, l => goldsLoop f n (l.set (((-24 * (n : Int)) % (f : Int)).toNat) (n : Int))
theorem golds_loop : ∀ f : Nat, f ≤ 24 → goldsLoop f f (List.replicate f (-1)) = golds f := by
  intro f hf
  have h : ∀ f ∈ List.range 25, goldsLoop f f (List.replicate f (-1)) = golds f := by decide +kernel
  exact h f (List.mem_range.mpr (by omega))
/-! ### the same in whole numbers, as the program reckons it -/
theorem over_pos {m : Metal} {f : Nat} (h : ¬ ((m.carats : Int) - (f : Int) * m.grains < 0)) : low m f = 0 ∧ (m.carats : Int) - (f : Int) * m.grains = ((over m f : Nat) : Int) := by
  have e : ((f * m.grains : Nat) : Int) = (f : Int) * m.grains := Int.natCast_mul _ _
  have h0 : low m f = 0 := by
    unfold low
    rw [if_pos (by omega)]
  refine ⟨h0, ?_⟩
  unfold over
  rw [h0]
  have : f * (m.grains + 0) = f * m.grains := rfl
  omega
theorem over_neg {m : Metal} {f : Nat} (hf : f ≤ 24) (h : (m.carats : Int) - (f : Int) * m.grains < 0) (h2 : ¬ (24 : Int) - f = 0) :
    (-((m.carats : Int) - (f : Int) * m.grains) + ((24 : Int) - f) - 1) / ((24 : Int) - f) = ((low m f : Nat) : Int) ∧ (m.carats : Int) - (f : Int) * m.grains + ((24 : Int) - f) * ((low m f : Nat) : Int) = ((over m f : Nat) : Int) := by
  have e : ((f * m.grains : Nat) : Int) = (f : Int) * m.grains := Int.natCast_mul _ _
  have hn : ¬ (m.carats < f * m.grains ∧ f = 24) := by omega
  have h1 := low_ok hf hn
  have e24 : (24 : Int) - f = ((24 - f : Nat) : Int) := by omega
  have el : low m f = (f * m.grains - m.carats + (24 - f) - 1) / (24 - f) := by
    unfold low
    rw [if_neg (by omega), if_neg (by omega)]
  constructor
  · rw [el, e24, Int.natCast_ediv]
    congr 1
    omega
  · unfold over
    rw [e24, ← Int.natCast_mul]
    have h3 : (24 - f) * low m f + f * low m f = 24 * low m f := by
      rw [← Nat.add_mul]
      congr 1
      omega
    have h4 : f * (m.grains + low m f) = f * m.grains + f * low m f := Nat.mul_add _ _ _
    omega
theorem need_none24 {m : Metal} {f : Nat} (h1 : 1 ≤ f) (hf : f ≤ 24) (h : (m.carats : Int) - (f : Int) * m.grains < 0) (h2 : (24 : Int) - f = 0) : needOf m f = none := by
  have e : ((f * m.grains : Nat) : Int) = (f : Int) * m.grains := Int.natCast_mul _ _
  rw [needOf_eq m h1 hf, if_pos (by omega)]
theorem need_rest {m : Metal} {f : Nat} (h1 : 1 ≤ f) (hf : f ≤ 24) (h : (m.carats : Int) - (f : Int) * m.grains < 0 → ¬ (24 : Int) - f = 0) : needOf m f = (rest f (over m f)).map fun k => (low m f + k, (over m f + (24 - f) * k) / f) := by
  have e : ((f * m.grains : Nat) : Int) = (f : Int) * m.grains := Int.natCast_mul _ _
  rw [needOf_eq m h1 hf, if_neg (by omega)]
theorem copper_int {a f k : Nat} (hf : f ≤ 24) : ((a : Int) + ((24 : Int) - f) * k) / f = (((a + (24 - f) * k) / f : Nat) : Int) := by
  have e24 : (24 : Int) - f = ((24 - f : Nat) : Int) := by omega
  rw [e24, ← Int.natCast_mul, ← Int.natCast_add, ← Int.natCast_ediv]
theorem goldsLoop_len (f : Nat) : ∀ (n : Nat) (l : List Int), (goldsLoop f n l).length = l.length
  | 0, _ => rfl
  | n + 1, l => by
    show (goldsLoop f n (l.set _ _)).length = _
    rw [goldsLoop_len f n, List.length_set]
theorem golds_len (f : Nat) : (golds f).length = f := by
  unfold golds
  rw [List.length_map, List.length_range]
end MN

/-! The plan: the fold over all bits is a fold over the choices that there are, in their order. -/
namespace MP
open Km408 (Metal Mint Kind metals ones less)
/-- the choices of the first i places, as bits, in the order in which they are made -/
def picks (av : Nat → Bool) : Nat → List Nat
  | 0 => [0]
  | i + 1 => if av i = true then picks av i ++ (picks av i).map (fun b => b + 2 ^ i) else picks av i
theorem picks_succ (av : Nat → Bool) (i : Nat) : picks av (i + 1) = if av i = true then picks av i ++ (picks av i).map (fun b => b + 2 ^ i) else picks av i := rfl
def fine (av : Nat → Bool) (i b : Nat) : Bool := (List.range i).all fun j => !b.testBit j || av j
theorem testBit_top {b i : Nat} (h : b < 2 ^ i) : (b + 2 ^ i).testBit i = true := by
  rw [Nat.add_comm, Nat.testBit_two_pow_add_eq, Nat.testBit_lt_two_pow h]
  rfl
theorem testBit_low {b i j : Nat} (h : j < i) : (b + 2 ^ i).testBit j = b.testBit j := by
  rw [Nat.add_comm, Nat.testBit_two_pow_add_gt h]
theorem testBit_high {b i j : Nat} (hb : b < 2 ^ i) (h : i < j) : (b + 2 ^ i).testBit j = false := by
  apply Nat.testBit_lt_two_pow
  have h1 : 2 ^ (i + 1) ≤ 2 ^ j := Nat.pow_le_pow_right (by decide) h
  have h2 : 2 ^ (i + 1) = 2 ^ i + 2 ^ i := by rw [Nat.pow_succ]; omega
  omega
theorem fine_succ (av : Nat → Bool) (i b : Nat) : fine av (i + 1) b = (fine av i b && (!b.testBit i || av i)) := by
  unfold fine
  rw [List.range_succ, List.all_append]
  simp
theorem all_congr' {l : List Nat} {p q : Nat → Bool} (h : ∀ x ∈ l, p x = q x) : l.all p = l.all q := by
  induction l with
  | nil => rfl
  | cons a l ih =>
    rw [List.all_cons, List.all_cons, h a (List.Mem.head _), ih fun x hx => h x (List.Mem.tail _ hx)]
theorem fine_top (av : Nat → Bool) (i b : Nat) : fine av i (b + 2 ^ i) = fine av i b := by
  unfold fine
  apply all_congr'
  intro j hj
  rw [testBit_low (List.mem_range.mp hj)]
theorem picks_eq (av : Nat → Bool) : ∀ i, picks av i = (List.range (2 ^ i)).filter (fine av i)
  | 0 => rfl
  | i + 1 => by
    have ih := picks_eq av i
    have e : 2 ^ (i + 1) = 2 ^ i + 2 ^ i := by rw [Nat.pow_succ]; omega
    rw [e, List.range_add, List.filter_append, List.filter_map]
    have e1 : (List.range (2 ^ i)).filter (fine av (i + 1)) = picks av i := by
      rw [ih]
      apply List.filter_congr
      intro b hb
      rw [fine_succ, Nat.testBit_lt_two_pow (List.mem_range.mp hb)]
      simp
    have e2 : (List.range (2 ^ i)).filter (fine av (i + 1) ∘ fun x => 2 ^ i + x) = if av i = true then picks av i else [] := by
      have h1 : ∀ b ∈ List.range (2 ^ i), (fine av (i + 1) ∘ fun x => 2 ^ i + x) b = (fine av i b && av i) := by
        intro b hb
        show fine av (i + 1) (2 ^ i + b) = _
        rw [Nat.add_comm (2 ^ i) b, fine_succ, fine_top, testBit_top (List.mem_range.mp hb)]
        simp
      rw [List.filter_congr h1]
      cases q : av i with
      | true =>
        rw [if_pos rfl, ih]
        apply List.filter_congr
        intro b _
        simp
      | false =>
        rw [if_neg (by decide)]
        rw [List.filter_eq_nil_iff]
        intro b _
        simp
    rw [e1, e2, picks_succ]
    cases q : av i with
    | true =>
      rw [if_pos rfl, if_pos rfl]
      congr 1
      apply List.map_congr_left
      intro b _
      exact Nat.add_comm _ _
    | false => simp
theorem picks_lt {av : Nat → Bool} {i b : Nat} (h : b ∈ picks av i) : b < 2 ^ i := by
  rw [picks_eq] at h
  exact List.mem_range.mp (List.mem_filter.mp h).1
theorem picks_fine {av : Nat → Bool} {i b : Nat} (h : b ∈ picks av i) : fine av i b = true := by
  rw [picks_eq] at h
  exact (List.mem_filter.mp h).2
theorem picks_up (av : Nat → Bool) (i : Nat) : (picks av i).Pairwise (· < ·) := by
  rw [picks_eq]
  exact List.Pairwise.filter _ List.pairwise_lt_range
theorem picks_len (av : Nat → Bool) : ∀ i, (picks av i).length ≤ 2 ^ i
  | 0 => Nat.le_refl 1
  | i + 1 => by
    have ih := picks_len av i
    rw [picks_succ]
    rw [Nat.pow_succ]
    split
    · rw [List.length_append, List.length_map]; omega
    · omega
/-! ### weights over bits -/
/-- the sum of w over the places of the bits -/
def over (w : Nat → Nat) (b : Nat) : Nat → Nat
  | 0 => 0
  | n + 1 => over w b n + if b.testBit n = true then w n else 0
theorem over_succ (w : Nat → Nat) (b n : Nat) : over w b (n + 1) = over w b n + if b.testBit n = true then w n else 0 := rfl
theorem over_same {w : Nat → Nat} {b c : Nat} : ∀ {n : Nat}, (∀ j, j < n → b.testBit j = c.testBit j) → over w b n = over w c n
  | 0, _ => rfl
  | n + 1, h => by
    rw [over_succ, over_succ, over_same fun j hj => h j (by omega), h n (by omega)]
theorem over_top {w : Nat → Nat} {b i : Nat} (hb : b < 2 ^ i) : ∀ {n : Nat}, i < n → over w (b + 2 ^ i) n = over w b n + w i
  | 0, h => by omega
  | n + 1, h => by
    rw [over_succ, over_succ]
    by_cases e : n = i
    · subst e
      rw [over_same (c := b) fun j hj => testBit_low hj, testBit_top hb, Nat.testBit_lt_two_pow hb]
      simp
    · rw [over_top hb (by omega), testBit_high hb (by omega), Nat.testBit_lt_two_pow (Nat.lt_of_lt_of_le hb (Nat.pow_le_pow_right (by decide) (by omega)))]
      simp
theorem over_zero (w : Nat → Nat) : ∀ n, over w 0 n = 0
  | 0 => rfl
  | n + 1 => by
    rw [over_succ, over_zero w n, Nat.zero_testBit]
    simp
/-! ### the specification's sums -/
theorem plus_fold : ∀ (l : List Metal) (m : Metal), (l.foldl Metal.plus m) = ⟨m.grains + (l.map (·.grains)).sum, m.carats + (l.map (·.carats)).sum⟩
  | [], m => by simp
  | a :: l, m => by
    rw [List.foldl_cons, plus_fold l]
    simp [Metal.plus, Nat.add_assoc]
theorem metals_eq (l : List Metal) : metals l = ⟨(l.map (·.grains)).sum, (l.map (·.carats)).sum⟩ := by
  unfold metals Km408.nothing
  rw [plus_fold]
  simp
/-- the metal at a place, nothing if it's empty -/
def lotAt (s : Mint) (i : Nat) : Metal := (s.lots.getD i none).getD ⟨0, 0⟩
theorem chosen_sum (s : Mint) (b : Nat) (g : Metal → Nat) (hg : g ⟨0, 0⟩ = 0) : ∀ n : Nat, (((List.range n).filterMap fun i => if b.testBit i then s.lots.getD i none else none).map g).sum = over (fun i => g (lotAt s i)) b n
  | 0 => rfl
  | n + 1 => by
    rw [List.range_succ, List.filterMap_append, List.map_append, List.sum_append, chosen_sum s b g hg n, over_succ]
    congr 1
    cases q : b.testBit n with
    | false => simp [q]
    | true =>
      unfold lotAt
      cases e : s.lots.getD n none with
      | none =>
        have e' : s.lots[n]?.getD none = none := by
          rw [List.getD_eq_getElem?_getD] at e
          exact e
        simp [q, e', hg]
      | some m =>
        have e' : s.lots[n]?.getD none = some m := by
          rw [List.getD_eq_getElem?_getD] at e
          exact e
        simp [q, e']
theorem chosen_metal (s : Mint) (b : Nat) : metals (s.chosen b) = ⟨over (fun i => (lotAt s i).grains) b 10, over (fun i => (lotAt s i).carats) b 10⟩ := by
  rw [metals_eq]
  unfold Mint.chosen
  rw [show Km408.LOTS = 10 from rfl, chosen_sum s b (·.grains) rfl, chosen_sum s b (·.carats) rfl]
theorem ones_eq (b : Nat) : ones b = over (fun _ => 1) b 10 := by
  unfold ones
  rw [show Km408.LOTS = 10 from rfl]
  have h : ∀ n : Nat, ((List.range n).filter fun i => b.testBit i).length = over (fun _ => 1) b n := by
    intro n
    induction n with
    | zero => rfl
    | succ n ih =>
      rw [List.range_succ, List.filter_append, List.length_append, ih, over_succ]
      cases q : b.testBit n <;> simp [q]
  exact h 10
/-- a choice's metal with the pot -/
def mix (s : Mint) (b : Nat) : Metal := (metals (s.chosen b)).plus s.pot
theorem mix_zero (s : Mint) : mix s 0 = s.pot := by
  unfold mix
  rw [chosen_metal, over_zero, over_zero]
  simp [Metal.plus]
theorem mix_top (s : Mint) {b i : Nat} (hb : b < 2 ^ i) (hi : i < 10) : mix s (b + 2 ^ i) = (mix s b).plus (lotAt s i) := by
  unfold mix
  rw [chosen_metal, chosen_metal, over_top hb hi, over_top hb hi]
  simp only [Metal.plus]
  congr 1 <;> omega
theorem ones_zero : ones 0 = 0 := by
  rw [ones_eq, over_zero]
theorem ones_top {b i : Nat} (hb : b < 2 ^ i) (hi : i < 10) : ones (b + 2 ^ i) = ones b + 1 := by
  rw [ones_eq, ones_eq, over_top hb hi]
/-! ### the fold -/
def avail (s : Mint) (i : Nat) : Bool := (s.lots.getD i none).isSome
theorem there_eq (s : Mint) (b : Nat) : s.there b = fine (avail s) 10 b := rfl
def planStep (s : Mint) (k : Kind) (least : Nat) (r : Option (Nat × Nat)) (b : Nat) : Option (Nat × Nat) := match s.cost k least b, r with
  | none, r => r
  | some c, none => some (b, c.1)
  | some c, some (a, d) => if less c (d, ones a) = true then some (b, c.1) else r
theorem fold_filter {α β : Type} {f : β → α → β} {p : α → Bool} (h : ∀ r a, p a = false → f r a = r) : ∀ (l : List α) (r : β), l.foldl f r = (l.filter p).foldl f r
  | [], _ => rfl
  | a :: l, r => by
    rw [List.foldl_cons, List.filter_cons]
    cases q : p a with
    | true =>
      rw [if_pos rfl, List.foldl_cons, fold_filter h l]
    | false =>
      rw [if_neg (by decide), h r a q, fold_filter h l]
theorem plan_eq (s : Mint) (k : Kind) (least : Nat) : s.plan k least = (picks (avail s) 10).foldl (planStep s k least) none := by
  rw [picks_eq]
  show (List.range (2 ^ 10)).foldl (planStep s k least) none = _
  apply fold_filter
  intro r b hb
  unfold planStep Mint.cost
  rw [there_eq, hb]
  simp
/-- what a fold has found stands among the choices, and is what it costs -/
theorem fold_in (s : Mint) (k : Kind) (least : Nat) : ∀ (l : List Nat) (r : Option (Nat × Nat)) {a d : Nat}, l.foldl (planStep s k least) r = some (a, d) → r = some (a, d) ∨ a ∈ l
  | [], r, a, d, h => .inl h
  | b :: l, r, a, d, h => by
    rw [List.foldl_cons] at h
    rcases fold_in s k least l _ h with h1 | h1
    · unfold planStep at h1
      split at h1
      · exact .inl h1
      · obtain ⟨rfl, _⟩ := Prod.mk.inj (Option.some.inj h1)
        exact .inr (List.Mem.head _)
      · split at h1
        · obtain ⟨rfl, _⟩ := Prod.mk.inj (Option.some.inj h1)
          exact .inr (List.Mem.head _)
        · exact .inl h1
    · exact .inr (List.Mem.tail _ h1)
/-- what a choice costs, that there is -/
theorem cost_eq {s : Mint} {k : Kind} {least b : Nat} (h : b ∈ picks (avail s) 10) : s.cost k least b = match Km408.needOf (mix s b) k.fine with
    | none => none
    | some (g, c) => if (mix s b).grains + g + c < least then none else some (g + c, ones b) := by
  unfold Mint.cost
  rw [there_eq, picks_fine h, if_neg (by decide)]
  rfl
theorem step_none {s : Mint} {k : Kind} {least b : Nat} {r : Option (Nat × Nat)} (h : s.cost k least b = none) : planStep s k least r b = r := by
  unfold planStep
  rw [h]
theorem step_first {s : Mint} {k : Kind} {least b : Nat} {c : Nat × Nat} (h : s.cost k least b = some c) : planStep s k least none b = some (b, c.1) := by
  unfold planStep
  rw [h]
theorem step_some {s : Mint} {k : Kind} {least b a d : Nat} {c : Nat × Nat} (h : s.cost k least b = some c) : planStep s k least (some (a, d)) b = if less c (d, ones a) = true then some (b, c.1) else some (a, d) := by
  unfold planStep
  rw [h]
theorem less_iff {x n d m b a : Nat} (h : a < b) : less (x, n) (d, m) = decide (x < d ∨ (x = d ∧ (n < m ∨ (n = m ∧ b < a)))) := by
  unfold less
  simp only
  by_cases h1 : x < d
  · simp [h1]
  · by_cases h2 : x = d
    · subst h2
      by_cases h3 : n < m
      · simp [h3]
      · have h4 : ¬ b < a := by omega
        simp [h3, h4]
    · simp [h1, h2]
/-- what has been found stands below what comes -/
theorem fold_below {s : Mint} {k : Kind} {least i b a d : Nat} (hb : (picks (avail s) 10)[i]? = some b) (h : ((picks (avail s) 10).take i).foldl (planStep s k least) none = some (a, d)) : a < b := by
  rcases fold_in s k least _ _ h with h1 | h1
  · cases h1
  · obtain ⟨j, hj, e⟩ := List.mem_take_iff_getElem.mp h1
    have hp := picks_up (avail s) 10
    obtain ⟨hi, e2⟩ := List.getElem?_eq_some_iff.mp hb
    have := List.pairwise_iff_getElem.mp hp j i (by omega) hi (by omega)
    rw [e, e2] at this
    exact this
theorem fold_take {α β : Type} {f : β → α → β} {l : List α} {i : Nat} {x : α} (h : l[i]? = some x) (r : β) : (l.take (i + 1)).foldl f r = f ((l.take i).foldl f r) x := by
  obtain ⟨hi, e⟩ := List.getElem?_eq_some_iff.mp h
  rw [← List.take_append_getElem hi, List.foldl_append, e]
  rfl
end MP

/-! What holds of every mint that calls have made. -/
namespace MG
open Km408
structure GoodK (k : Kind) : Prop where
  g1 : 1 ≤ k.grains
  g2 : k.grains ≤ 10000
  f1 : 1 ≤ k.fine
  f2 : k.fine ≤ 24
  r : k.remedy ≤ 100
  n : k.stock.length + k.box.length ≤ 60
structure Good (s : Mint) : Prop where
  keeps : s.keeps ≤ 500
  ll : s.lots.length = 10
  lots : ∀ m, some m ∈ s.lots → 1 ≤ m.grains
  cl : s.credits.length = 6
  kl : s.kinds.length ≤ 4
  dl : s.dies.length ≤ 6
  kinds : ∀ k ∈ s.kinds, GoodK k
structure GoodD (d : Desk) : Prop where
  now : Good d.now
  past : ∀ m ∈ d.past, Good m
  future : ∀ m ∈ d.future, Good m
  len : d.past.length + d.future.length ≤ 30
theorem share_le {s : Mint} (h : s.keeps ≤ 500) (x : Nat) : s.share x ≤ x := by
  unfold Mint.share
  have h1 : x * s.keeps ≤ x * 500 := Nat.mul_le_mul_left _ h
  omega
theorem good_opened {k : Nat} (h : k ≤ 500) : Good (opened k) := by
  refine ⟨h, rfl, fun m hm => ?_, rfl, (by show 0 ≤ 4; decide), (by show 0 ≤ 6; decide), fun k hk => by cases hk⟩
  have := List.eq_of_mem_replicate (show some m ∈ List.replicate LOTS none from hm)
  cases this
theorem good_fresh : GoodD (fresh 0) := ⟨good_opened (by decide), (fun m h => by cases h), (fun m h => by cases h), by decide⟩
theorem become_good {d : Desk} {m : Mint} (D : GoodD d) (h : Good m) : GoodD (d.become m) := by
  refine ⟨h, fun x hx => ?_, (fun x hx => by cases hx), ?_⟩
  · have h1 := List.mem_of_mem_take (show x ∈ (d.now :: d.past).take PAST from hx)
    cases h1 with
    | head => exact D.now
    | tail _ q => exact D.past x q
  · show ((d.now :: d.past).take PAST).length + 0 ≤ 30
    rw [List.length_take]
    exact Nat.min_le_left _ _
theorem kinds_set {s : Mint} {i : Nat} {f : Kind} (G : Good s) (h : GoodK f) : ∀ k ∈ s.kinds.set i f, GoodK k := by
  intro k hk
  rcases List.mem_or_eq_of_mem_set hk with q | rfl
  · exact G.kinds k q
  · exact h
theorem kind_good {s : Mint} {i : Nat} {c : Kind} (G : Good s) (h : s.kinds[i]? = some c) : GoodK c := G.kinds c (List.mem_of_getElem? h)
theorem room_some {s : Mint} {i : Nat} (h : s.room = some i) : i < 10 ∧ s.lots.getD i none = none ∧ ∀ j, j < i → (s.lots.getD j none).isSome = true := by
  unfold Mint.room at h
  have h1 := List.find?_some h
  have h2 := List.mem_range.mp (List.mem_of_find?_eq_some h)
  refine ⟨h2, Option.isNone_iff_eq_none.mp h1, fun j hj => ?_⟩
  obtain ⟨_, as, bs, e, h3⟩ := List.find?_eq_some_iff_append.mp h
  have hi : as.length = i := by
    have e1 : (List.range LOTS)[as.length]? = some i := by rw [e]; simp
    rw [List.getElem?_range (by
      have := congrArg List.length e
      rw [List.length_range, List.length_append, List.length_cons] at this
      omega)] at e1
    exact Option.some.inj e1
  have h4 : j ∈ as := by
    have e2 : (List.range LOTS)[j]? = as[j]? := by rw [e, List.getElem?_append_left (by omega)]
    rw [List.getElem?_range (by omega)] at e2
    exact List.mem_of_getElem? e2.symm
  have h5 := h3 j h4
  simpa using h5
theorem room_none {s : Mint} (h : s.room = none) : ∀ j, j < 10 → (s.lots.getD j none).isSome = true := by
  intro j hj
  unfold Mint.room at h
  have h1 := List.find?_eq_none.mp h j (List.mem_range.mpr hj)
  cases q : s.lots.getD j none with
  | none => rw [q] at h1; exact (h1 rfl).elim
  | some _ => rfl
theorem comes_good {s : Mint} {p i : Nat} {m : Metal} (G : Good s) (h : 1 ≤ m.grains) : Good (s.comes p i m) := by
  refine ⟨G.keeps, ?_, fun x hx => ?_, ?_, G.kl, G.dl, G.kinds⟩
  · show (s.lots.set i (some m)).length = 10
    rw [List.length_set]; exact G.ll
  · rcases List.mem_or_eq_of_mem_set (show some x ∈ s.lots.set i (some m) from hx) with q | q
    · exact G.lots x q
    · cases q; exact h
  · show (s.credits.set p _).length = 6
    rw [List.length_set]; exact G.cl
theorem blank_good {s : Mint} (i d w : Nat) (G : Good s) : Good (s.blank i d w) := by
  unfold Mint.blank
  split
  · rename_i k e hk he
    split
    · exact G
    · rename_i hn
      have K := kind_good G hk
      have hlen : k.stock.length + k.box.length < 60 := by
        have : ¬ COINS ≤ k.stock.length + k.box.length := fun q => hn (.inr (.inr (.inr q)))
        unfold COINS at this
        omega
      refine ⟨G.keeps, G.ll, G.lots, G.cl, ?_, ?_, kinds_set G ?_⟩
      · show (s.kinds.set i _).length ≤ 4
        rw [List.length_set]; exact G.kl
      · show (s.dies.set d _).length ≤ 6
        rw [List.length_set]; exact G.dl
      · split
        · refine ⟨K.g1, K.g2, K.f1, K.f2, K.r, ?_⟩
          show k.stock.length + (k.box ++ [w]).length ≤ 60
          rw [List.length_append, List.length_singleton]; omega
        · refine ⟨K.g1, K.g2, K.f1, K.f2, K.r, ?_⟩
          show (k.stock ++ [w]).length + k.box.length ≤ 60
          rw [List.length_append, List.length_singleton]; omega
  · exact G
theorem blanks_good {i d : Nat} : ∀ (l : List Nat) {s : Mint}, Good s → Good (l.foldl (fun m w => m.blank i d w) s)
  | [], _, G => G
  | w :: l, _, G => blanks_good l (blank_good i d w G)
theorem act_good {d : Desk} (D : GoodD d) (x : Call) : GoodD (act d x).1 := by
  have G := D.now
  cases x with
  | start k =>
    show GoodD (if 500 < k then (d, only (-22)) else (⟨opened k, [], []⟩, only 0)).1
    split
    · exact D
    · exact ⟨good_opened (by omega), (fun m h => by cases h), (fun m h => by cases h), by show 0 + 0 ≤ 30; decide⟩
  | kind g f r =>
    unfold act
    simp only
    split
    · exact D
    · rename_i h1
      split
      · exact D
      · rename_i h2
        refine become_good D ⟨G.keeps, G.ll, G.lots, G.cl, ?_, G.dl, fun k hk => ?_⟩
        · show (d.now.kinds ++ [_]).length ≤ 4
          rw [List.length_append, List.length_singleton]
          unfold KINDS at h2
          omega
        · rcases List.mem_append.mp (show k ∈ d.now.kinds ++ [_] from hk) with q | q
          · exact G.kinds k q
          · rw [List.mem_singleton] at q
            subst q
            exact ⟨by show 1 ≤ g; omega, by show g ≤ 10000; omega, by show 1 ≤ f; omega, by show f ≤ 24; omega, by show r ≤ 100; omega, by show 0 + 0 ≤ 60; decide⟩
  | die k n =>
    unfold act
    simp only
    split
    · exact D
    · split
      · exact D
      · split
        · exact D
        · rename_i h
          refine become_good D ⟨G.keeps, G.ll, G.lots, G.cl, G.kl, ?_, G.kinds⟩
          show (d.now.dies ++ [_]).length ≤ 6
          rw [List.length_append, List.length_singleton]
          unfold DIES at h
          omega
  | bring p g x =>
    unfold act
    simp only
    split
    · exact D
    · split
      · exact D
      · rename_i h
        split
        · exact D
        · exact become_good D (comes_good G (by show 1 ≤ g; omega))
  | old p k g =>
    unfold act
    simp only
    split
    · exact D
    · split
      · exact D
      · split
        · exact D
        · rename_i h
          split
          · exact D
          · exact become_good D (comes_good G (by show 1 ≤ g; omega))
  | melt b =>
    unfold act
    simp only
    split
    · exact D
    · split
      · exact D
      · split
        · exact D
        · refine become_good D ⟨G.keeps, ?_, fun m hm => ?_, G.cl, G.kl, G.dl, G.kinds⟩
          · show (List.map _ (List.range LOTS)).length = 10
            rw [List.length_map, List.length_range]; rfl
          · obtain ⟨i, hi, e⟩ := List.mem_map.mp (show some m ∈ (List.range LOTS).map (fun i => if b.testBit i then none else d.now.lots.getD i none) from hm)
            split at e
            · cases e
            · rw [List.getD_eq_getElem?_getD] at e
              cases q : d.now.lots[i]? with
              | none => rw [q] at e; cases e
              | some o =>
                rw [q] at e
                have e' : o = some m := e
                subst e'
                exact G.lots m (List.mem_of_getElem? q)
  | add g c =>
    unfold act
    simp only
    split
    · exact D
    · split
      · exact D
      · exact become_good D ⟨G.keeps, G.ll, G.lots, G.cl, G.kl, G.dl, G.kinds⟩
  | strike k e l n =>
    unfold act
    simp only
    split
    · split
      · exact D
      · split
        · exact D
        · split
          · exact D
          · exact become_good D (blanks_good _ G)
    · exact D
  | open_ k =>
    unfold act
    simp only
    split
    · exact D
    · rename_i c hc
      split
      · exact D
      · split
        · exact D
        · have K := kind_good G hc
          refine become_good D ⟨G.keeps, G.ll, G.lots, G.cl, ?_, G.dl, kinds_set G ⟨K.g1, K.g2, K.f1, K.f2, K.r, ?_⟩⟩
          · show (d.now.kinds.set k _).length ≤ 4
            rw [List.length_set]; exact G.kl
          · show (c.stock ++ c.box).length + 0 ≤ 60
            rw [List.length_append]; exact K.n
  | break_ k =>
    unfold act
    simp only
    split
    · exact D
    · rename_i c hc
      split
      · exact D
      · split
        · exact D
        · have K := kind_good G hc
          refine become_good D ⟨G.keeps, G.ll, G.lots, G.cl, ?_, G.dl, kinds_set G ⟨K.g1, K.g2, K.f1, K.f2, K.r, ?_⟩⟩
          · show (d.now.kinds.set k _).length ≤ 4
            rw [List.length_set]; exact G.kl
          · show c.stock.length + 0 ≤ 60
            have := K.n
            omega
  | pay p k n =>
    unfold act
    simp only
    split
    · exact D
    · rename_i c hc
      split
      · exact D
      · split
        · exact D
        · split
          · exact D
          · split
            · exact D
            · have K := kind_good G hc
              refine become_good D ⟨G.keeps, G.ll, G.lots, ?_, ?_, G.dl, kinds_set G ⟨K.g1, K.g2, K.f1, K.f2, K.r, ?_⟩⟩
              · show (d.now.credits.set p _).length = 6
                rw [List.length_set]; exact G.cl
              · show (d.now.kinds.set k _).length ≤ 4
                rw [List.length_set]; exact G.kl
              · show (c.stock.drop n).length + c.box.length ≤ 60
                have := K.n
                rw [List.length_drop]
                omega
  | back =>
    unfold act
    simp only
    split
    · exact D
    · rename_i k r h
      have hl := D.len
      rw [h] at hl
      refine ⟨D.past k (by rw [h]; exact List.Mem.head _), fun m hm => D.past m (by rw [h]; exact List.Mem.tail _ hm), fun m hm => ?_, ?_⟩
      · cases hm with
        | head => exact D.now
        | tail _ q => exact D.future m q
      · show r.length + (d.now :: d.future).length ≤ 30
        rw [List.length_cons] at hl ⊢
        omega
  | again =>
    unfold act
    simp only
    split
    · exact D
    · rename_i k r h
      have hl := D.len
      rw [h] at hl
      refine ⟨D.future k (by rw [h]; exact List.Mem.head _), fun m hm => ?_, fun m hm => D.future m (by rw [h]; exact List.Mem.tail _ hm), ?_⟩
      · have h1 := List.mem_of_mem_take (show m ∈ (d.now :: d.past).take PAST from hm)
        cases h1 with
        | head => exact D.now
        | tail _ q => exact D.past m q
      · show ((d.now :: d.past).take PAST).length + r.length ≤ 30
        rw [List.length_take]
        rw [List.length_cons] at hl ⊢
        have := Nat.min_le_right PAST (d.past.length + 1)
        omega
  | fits k => exact D
  | need k => exact D
  | plan k n => exact D
  | enough k => exact D
  | trial k => exact D
  | credit p => exact D
  | stock k => exact D
  | off k => exact D
  | pot => exact D
  | lots => exact D
  | worn => exact D
  | ledger => exact D
  | claims => exact D
  | state => exact D
end MG

/-! Melting: the places of the bits, what they hold together, their places empty. -/
namespace MM
open Km408 (Metal Mint metals)
open MP (over lotAt avail)
def places (b : Nat) : List Nat := (List.range 10).filter fun p => b.testBit p
theorem places_lt {b p : Nat} (h : p ∈ places b) : p < 10 := List.mem_range.mp (List.mem_filter.mp h).1
theorem places_len (b : Nat) : (places b).length ≤ 10 := by
  have := List.length_filter_le (fun p => b.testBit p) (List.range 10)
  rw [List.length_range] at this
  exact this
theorem there_iff (s : Mint) (b : Nat) : s.there b = true ↔ ∀ p ∈ places b, avail s p = true := by
  unfold Mint.there places avail
  rw [List.all_eq_true]
  constructor
  · intro h p hp
    obtain ⟨h1, h2⟩ := List.mem_filter.mp hp
    have := h p h1
    rw [h2] at this
    simpa using this
  · intro h p hp
    cases q : b.testBit p with
    | false => rfl
    | true => simpa using h p (List.mem_filter.mpr ⟨hp, q⟩)
def pour (s : Mint) (l : List Nat) : Metal := l.foldl (fun m p => m.plus (lotAt s p)) s.pot
theorem pour_snoc (s : Mint) {l : List Nat} {j p : Nat} (h : l[j]? = some p) : pour s (l.take (j + 1)) = (pour s (l.take j)).plus (lotAt s p) := MP.fold_take h _
theorem pour_over (s : Mint) (b : Nat) : ∀ n, ((List.range n).filter fun p => b.testBit p).foldl (fun m p => m.plus (lotAt s p)) s.pot = ⟨s.pot.grains + over (fun i => (lotAt s i).grains) b n, s.pot.carats + over (fun i => (lotAt s i).carats) b n⟩
  | 0 => rfl
  | n + 1 => by
    rw [List.range_succ, List.filter_append, List.foldl_append, pour_over s b n, MP.over_succ, MP.over_succ]
    cases q : b.testBit n with
    | true => simp [q, Metal.plus, Nat.add_assoc]
    | false => simp [q]
theorem pour_eq (s : Mint) (b : Nat) : pour s (places b) = (metals (s.chosen b)).plus s.pot := by
  unfold pour places
  rw [pour_over, MP.chosen_metal]
  unfold Metal.plus
  simp only [Nat.add_comm]
def empt (l : List (Option Metal)) (ps : List Nat) : List (Option Metal) := ps.foldl (fun l p => l.set p none) l
theorem empt_snoc (l : List (Option Metal)) {ps : List Nat} {j p : Nat} (h : ps[j]? = some p) : empt l (ps.take (j + 1)) = (empt l (ps.take j)).set p none := MP.fold_take h _
theorem empt_len : ∀ (ps : List Nat) (l : List (Option Metal)), (empt l ps).length = l.length
  | [], _ => rfl
  | p :: ps, l => by
    show (empt (l.set p none) ps).length = _
    rw [empt_len ps, List.length_set]
theorem empt_at : ∀ (ps : List Nat) (l : List (Option Metal)) (q : Nat), (empt l ps)[q]? = if q ∈ ps then l[q]?.map (fun _ => none) else l[q]?
  | [], l, q => by simp [empt]
  | p :: ps, l, q => by
    show (empt (l.set p none) ps)[q]? = _
    rw [empt_at ps]
    by_cases h : p = q
    · subst h
      by_cases h2 : p < l.length
      · rw [List.getElem?_set_self h2, if_pos (show p ∈ p :: ps from List.Mem.head _)]
        rw [List.getElem?_eq_getElem h2]
        split <;> rfl
      · rw [List.getElem?_eq_none (by rw [List.length_set]; omega), List.getElem?_eq_none (by omega)]
        split <;> simp
    · rw [List.getElem?_set_ne h]
      by_cases h3 : q ∈ ps
      · rw [if_pos h3, if_pos (show q ∈ p :: ps from List.Mem.tail _ h3)]
      · rw [if_neg h3, if_neg (by
          intro m
          cases m with
          | head => exact h rfl
          | tail _ m => exact h3 m)]
theorem empt_eq {s : Mint} {b : Nat} (hl : s.lots.length = 10) : empt s.lots (places b) = (List.range Km408.LOTS).map (fun i => if b.testBit i then none else s.lots.getD i none) := by
  apply List.ext_getElem?
  intro q
  rw [empt_at, List.getElem?_map]
  by_cases hq : q < 10
  · rw [List.getElem?_range (by exact hq)]
    rw [List.getElem?_eq_getElem (show q < s.lots.length by omega)]
    cases e : b.testBit q with
    | true =>
      rw [if_pos (show q ∈ places b from List.mem_filter.mpr ⟨List.mem_range.mpr hq, e⟩)]
      simp [e]
    | false =>
      rw [if_neg (fun m => by rw [(List.mem_filter.mp m).2] at e; cases e)]
      simp [e, List.getElem?_eq_getElem (show q < s.lots.length by omega)]
  · rw [List.getElem?_eq_none (show s.lots.length ≤ q by omega), List.getElem?_eq_none (by rw [List.length_range]; exact Nat.le_of_not_lt hq)]
    split <;> simp
end MM

/-! Telling, paying, taking back: what the calls of a mint make of the desk, and what the loops of the telling add up to. -/
namespace MT
open Km408 (Metal Mint Kind Die Desk Call Ans act metals sum bits)
open MP (lotAt avail)
/-- the calls that are changes -/
def isChange : Call → Bool
  | .kind .. => true | .die .. => true | .bring .. => true | .old .. => true | .melt .. => true | .add .. => true | .strike .. => true
  | .open_ .. => true | .break_ .. => true | .pay .. => true | _ => false
/-- the calls on a mint alone -/
def ofMint : Call → Bool
  | .start _ => false | .back => false | .again => false | .state => false | _ => true
theorem act_tell {d : Desk} {x : Call} (h : ofMint x = true) (h2 : isChange x = false) : act d x = (d, (act ⟨d.now, [], []⟩ x).2) ∧ (act ⟨d.now, [], []⟩ x).1.now = d.now := by
  cases x with
  | fits k => exact ⟨rfl, rfl⟩
  | need k => exact ⟨rfl, rfl⟩
  | plan k n =>
    unfold act
    simp only
    exact ⟨trivial, trivial⟩
  | enough k => exact ⟨rfl, rfl⟩
  | trial k => exact ⟨rfl, rfl⟩
  | credit p => exact ⟨rfl, rfl⟩
  | stock k => exact ⟨rfl, rfl⟩
  | off k => exact ⟨rfl, rfl⟩
  | pot => exact ⟨rfl, rfl⟩
  | lots => exact ⟨rfl, rfl⟩
  | worn => exact ⟨rfl, rfl⟩
  | ledger => exact ⟨rfl, rfl⟩
  | claims => exact ⟨rfl, rfl⟩
  | start k => cases h
  | back => cases h
  | again => cases h
  | state => cases h
  | _ => cases h2
theorem act_change {d : Desk} {x : Call} (h : isChange x = true) : (act d x).2 = (act ⟨d.now, [], []⟩ x).2 ∧ (0 ≤ (act ⟨d.now, [], []⟩ x).2.value → (act d x).1 = d.become (act ⟨d.now, [], []⟩ x).1.now) ∧ ((act ⟨d.now, [], []⟩ x).2.value < 0 → (act d x).1 = d) := by
  have no : ∀ {z : Int} {P : Prop}, z < 0 → 0 ≤ (Km408.only z).value → P := fun h1 h2 => absurd h2 (Int.not_le.mpr h1)
  have po : ∀ {n : Nat} {l : List Nat} {P : Prop}, (⟨(n : Int), l⟩ : Ans).value < 0 → P := fun h1 => absurd h1 (Int.not_lt.mpr (Int.natCast_nonneg _))
  have po2 : ∀ {n : Nat} {P : Prop}, (Km408.only (n : Int)).value < 0 → P := fun h1 => absurd h1 (Int.not_lt.mpr (Int.natCast_nonneg _))
  cases x with
  | kind g f r =>
    unfold act; simp only
    repeat' split
    all_goals first | exact ⟨rfl, no (by decide), fun _ => rfl⟩ | exact ⟨rfl, fun _ => rfl, po2⟩
  | die k n =>
    unfold act; simp only
    repeat' split
    all_goals first | exact ⟨rfl, no (by decide), fun _ => rfl⟩ | exact ⟨rfl, fun _ => rfl, po2⟩
  | bring p g y =>
    unfold act; simp only
    repeat' split
    all_goals first | exact ⟨rfl, no (by decide), fun _ => rfl⟩ | exact ⟨rfl, fun _ => rfl, po⟩
  | old p k g =>
    unfold act; simp only
    repeat' split
    all_goals first | exact ⟨rfl, no (by decide), fun _ => rfl⟩ | exact ⟨rfl, fun _ => rfl, po⟩
  | melt b =>
    unfold act; simp only
    repeat' split
    all_goals first | exact ⟨rfl, no (by decide), fun _ => rfl⟩ | exact ⟨rfl, fun _ => rfl, po2⟩
  | add g c =>
    unfold act; simp only
    repeat' split
    all_goals first | exact ⟨rfl, no (by decide), fun _ => rfl⟩ | exact ⟨rfl, fun _ => rfl, po2⟩
  | strike k e l n =>
    unfold act; simp only
    repeat' split
    all_goals first | exact ⟨rfl, no (by decide), fun _ => rfl⟩ | exact ⟨rfl, fun _ => rfl, po2⟩
  | open_ k =>
    unfold act; simp only
    repeat' split
    all_goals first | exact ⟨rfl, no (by decide), fun _ => rfl⟩ | exact ⟨rfl, fun _ => rfl, po2⟩
  | break_ k =>
    unfold act; simp only
    repeat' split
    all_goals first | exact ⟨rfl, no (by decide), fun _ => rfl⟩ | exact ⟨rfl, fun _ => rfl, po2⟩
  | pay p k n =>
    unfold act; simp only
    repeat' split
    all_goals first | exact ⟨rfl, no (by decide), fun _ => rfl⟩ | exact ⟨rfl, fun _ => rfl, po⟩
  | _ => cases h
theorem dOf_next {s : Km408Neutral.S} {c : Call} (h : s = none → ∃ k, c = .start k) : MD.dOf (MD.next s c) = (act (MD.dOf s) c).1 := by
  cases s with
  | some a => rfl
  | none =>
    obtain ⟨k, rfl⟩ := h rfl
    show MD.dOf (if (Km408Neutral.told (act (Km408.fresh 0) (.start k)).2).headD 0 < 0 then none else some (act (Km408.fresh 0) (.start k)).1) = (act (Km408.fresh 0) (.start k)).1
    unfold act
    simp only
    by_cases q : 500 < k
    · rw [if_pos q]
      rfl
    · rw [if_neg q]
      rfl
/-! ### how many lots -/
theorem filter_getD {α : Type} (p : Option α → Bool) (l : List (Option α)) : ((List.range l.length).filter fun i => p (l.getD i none)).length = (l.filter p).length := by
  have e : l = (List.range l.length).map fun i => l.getD i none := by
    apply List.ext_getElem?
    intro i
    rw [List.getElem?_map]
    by_cases h : i < l.length
    · rw [List.getElem?_range h]
      show l[i]? = some (l.getD i none)
      rw [List.getD_eq_getElem?_getD, List.getElem?_eq_getElem h]
      rfl
    · rw [List.getElem?_eq_none (by omega), List.getElem?_eq_none (by rw [List.length_range]; omega)]
      rfl
  conv => rhs; rw [e, List.filter_map, List.length_map]
  rfl
def count (s : Mint) : Nat := ((List.range 10).filter fun i => (s.lots.getD i none).isSome).length
theorem count_eq {s : Mint} (h : s.lots.length = 10) : (s.lots.filter fun x => x.isSome).length = count s := by
  unfold count
  rw [← filter_getD, h]
/-! ### what is held -/
theorem plus_zero (a : Metal) : a.plus Km408.nothing = a := rfl
theorem zero_plus (a : Metal) : Km408.nothing.plus a = a := by
  unfold Metal.plus Km408.nothing
  simp
theorem plus_assoc (a b c : Metal) : (a.plus b).plus c = a.plus (b.plus c) := by
  unfold Metal.plus
  simp [Nat.add_assoc]
theorem plus_comm (a b : Metal) : a.plus b = b.plus a := by
  unfold Metal.plus
  rw [Nat.add_comm a.grains, Nat.add_comm a.carats]
theorem foldl_plus : ∀ (l : List Metal) (a : Metal), l.foldl Metal.plus a = a.plus (metals l)
  | [], a => rfl
  | x :: l, a => by
    show l.foldl Metal.plus (a.plus x) = a.plus (l.foldl Metal.plus (Km408.nothing.plus x))
    rw [foldl_plus l (a.plus x), foldl_plus l (Km408.nothing.plus x), zero_plus, plus_assoc]
theorem metals_append (a b : List Metal) : metals (a ++ b) = (metals a).plus (metals b) := by
  unfold metals
  rw [List.foldl_append, foldl_plus b]
  rfl
/-- the pot, and the lots of the first places -/
def heldL (s : Mint) (j : Nat) : Metal := (List.range j).foldl (fun m i => m.plus (lotAt s i)) s.pot
theorem heldL_succ (s : Mint) (j : Nat) : heldL s (j + 1) = (heldL s j).plus (lotAt s j) := by
  unfold heldL
  rw [List.range_succ, List.foldl_append]
  rfl
theorem lots_held : ∀ (l : List (Option Metal)) (a : Metal), (l.foldl (fun m o => m.plus (o.getD Km408.nothing)) a) = a.plus (metals (l.filterMap id))
  | [], a => rfl
  | none :: l, a => by
    rw [List.foldl_cons, lots_held l]
    rfl
  | some x :: l, a => by
    rw [List.foldl_cons, lots_held l, List.filterMap_cons]
    show (a.plus x).plus (metals (l.filterMap id)) = a.plus ((l.filterMap id).foldl Metal.plus (Km408.nothing.plus x))
    rw [foldl_plus, zero_plus, plus_assoc]
theorem heldL_all {s : Mint} (h : s.lots.length = 10) : heldL s 10 = s.pot.plus (metals (s.lots.filterMap id)) := by
  rw [← lots_held]
  have e : s.lots = (List.range 10).map fun i => s.lots.getD i none := by
    apply List.ext_getElem?
    intro i
    rw [List.getElem?_map]
    by_cases q : i < 10
    · rw [List.getElem?_range q]
      show s.lots[i]? = some (s.lots.getD i none)
      rw [List.getD_eq_getElem?_getD, List.getElem?_eq_getElem (by omega)]
      rfl
    · rw [List.getElem?_eq_none (by omega), List.getElem?_eq_none (by rw [List.length_range]; omega)]
      rfl
  conv => rhs; rw [e]
  rw [List.foldl_map]
  rfl
/-- the pot, all lots, and the first kinds -/
def heldK (s : Mint) (j : Nat) : Metal := (s.kinds.take j).foldl (fun m k => m.plus k.metal) (heldL s 10)
theorem heldK_succ {s : Mint} {j : Nat} {k : Kind} (h : s.kinds[j]? = some k) : heldK s (j + 1) = (heldK s j).plus k.metal := MP.fold_take h _
theorem held_eq {s : Mint} (h : s.lots.length = 10) : heldK s s.kinds.length = metals ((s.lots.filterMap id) ++ [s.pot] ++ s.kinds.map Kind.metal) := by
  unfold heldK
  rw [List.take_length, heldL_all h, metals_append, metals_append]
  have e : s.kinds.foldl (fun m k => m.plus k.metal) (s.pot.plus (metals (s.lots.filterMap id))) = (s.kinds.map Kind.metal).foldl Metal.plus (s.pot.plus (metals (s.lots.filterMap id))) := List.foldl_map.symm
  rw [e, foldl_plus, plus_comm s.pot]
  show _ = ((metals (s.lots.filterMap id)).plus (Km408.nothing.plus s.pot)).plus _
  rw [zero_plus]
/-! ### what the lots are, one by one -/
def told2 (s : Mint) (j : Nat) : List Nat := (List.range j).flatMap fun i => [(lotAt s i).grains, (lotAt s i).carats]
theorem told2_succ (s : Mint) (j : Nat) : told2 s (j + 1) = told2 s j ++ [(lotAt s j).grains, (lotAt s j).carats] := by
  unfold told2
  rw [List.range_succ, List.flatMap_append]
  rfl
theorem told2_len (s : Mint) : ∀ j, (told2 s j).length = 2 * j
  | 0 => rfl
  | j + 1 => by
    rw [told2_succ, List.length_append, told2_len s j]
    show 2 * j + 2 = _
    omega
theorem told2_eq (s : Mint) : told2 s 10 = (List.range Km408.LOTS).flatMap fun i => match s.lots.getD i none with
    | none => [0, 0]
    | some m => [m.grains, m.carats] := by
  unfold told2
  show (List.range 10).flatMap _ = (List.range 10).flatMap _
  congr 1
  funext i
  unfold lotAt
  cases s.lots.getD i none <;> rfl
/-! ### dies that are worn -/
def wornL (s : Mint) (j : Nat) : List Nat := (List.range j).filter fun i => match s.dies[i]? with
  | some e => e.left == 0
  | none => false
theorem bits_snoc (l : List Nat) (k : Nat) : bits (l ++ [k]) = bits l + 2 ^ k := by
  unfold bits
  rw [List.foldl_append]
  rfl
theorem worn_yes {s : Mint} {j : Nat} {e : Die} (h : s.dies[j]? = some e) (h0 : e.left = 0) : wornL s (j + 1) = wornL s j ++ [j] := by
  unfold wornL
  rw [List.range_succ, List.filter_append]
  simp [h, h0]
theorem worn_no {s : Mint} {j : Nat} {e : Die} (h : s.dies[j]? = some e) (h0 : ¬ e.left = 0) : wornL s (j + 1) = wornL s j := by
  unfold wornL
  rw [List.range_succ, List.filter_append]
  simp [h, h0]
/-! ### the last 30 -/
theorem last30 {α : Type} (l : List α) : l.reverse.drop (l.length - 30) = (l.take 30).reverse := List.reverse_take.symm
end MT

set_option Elab.async false
set_option linter.all false
set_option maxRecDepth 100000
set_option maxHeartbeats 4000000
namespace Mi
open PySem PySem.Spec PyProof.Rows L2
def top (i : Nat) : Stmt := PySem.Challenge.pw_wholemint_s01_answers.main.body.getD i (.Pass ⟨0, 0, 0, 0⟩)
abbrev s_Metal_init : Stmt := inClass (top 14) 0
abbrev s_Metal_is_none : Stmt := inClass (top 14) 1
abbrev s_Metal_is_as_fine_as : Stmt := inClass (top 14) 2
abbrev s_Metal_together_with : Stmt := inClass (top 14) 3
abbrev s_Metal_less : Stmt := inClass (top 14) 4
abbrev s_Kind_init : Stmt := inClass (top 15) 0
abbrev s_Kind_metal_of : Stmt := inClass (top 15) 1
abbrev s_Kind_another_alike : Stmt := inClass (top 15) 2
abbrev s_Die_init : Stmt := inClass (top 16) 0
abbrev s_Die_another_alike : Stmt := inClass (top 16) 1
abbrev s_Mint_init : Stmt := inClass (top 17) 0
abbrev s_Mint_another_alike : Stmt := inClass (top 17) 1
abbrev s_Mint_count_lots : Stmt := inClass (top 17) 2
abbrev s_Mint_has_kind : Stmt := inClass (top 17) 3
abbrev s_Mint_has_die : Stmt := inClass (top 17) 4
abbrev s_Mint_has_person : Stmt := inClass (top 17) 5
abbrev s_is_kind_as_told : Stmt := top 25
abbrev s_make_kind : Stmt := top 26
abbrev s_make_die : Stmt := top 27
abbrev s_is_weight_of_lot : Stmt := top 28
abbrev s_bring : Stmt := top 29
abbrev s_bring_old_coin : Stmt := top 30
abbrev s_first_empty_place : Stmt := top 31
abbrev s_take_in : Stmt := top 32
abbrev s_thousandths_rounded_up : Stmt := top 33
abbrev s_Book_init : Stmt := inClass (top 37) 0
abbrev s_Book_begin_anew : Stmt := inClass (top 37) 1
abbrev s_Book_turn_to : Stmt := inClass (top 37) 2
abbrev s_begin : Stmt := top 38
abbrev s_take_back : Stmt := top 39
abbrev s_do_again : Stmt := top 40
abbrev s_tell_state : Stmt := top 41
abbrev s_Need_init : Stmt := inClass (top 43) 0
abbrev s_Need_together : Stmt := inClass (top 43) 1
abbrev s_Choice_init : Stmt := inClass (top 44) 0
abbrev s_Choice_and_lot : Stmt := inClass (top 44) 1
abbrev s_Plan_init : Stmt := inClass (top 45) 0
abbrev s_Plan_is_better_than : Stmt := inClass (top 45) 1
abbrev s_gold_by_rest : Stmt := top 46
abbrev s_find_need : Stmt := top 47
abbrev s_all_choices : Stmt := top 48
abbrev s_find_plan : Stmt := top 49
abbrev s_places_of : Stmt := top 53
abbrev s_melt : Stmt := top 54
abbrev s_add_metal : Stmt := top 55
abbrev s_tell_fits : Stmt := top 56
abbrev s_tell_need : Stmt := top 57
abbrev s_tell_plan : Stmt := top 58
abbrev s_pay : Stmt := top 60
abbrev s_tell_credit : Stmt := top 61
abbrev s_tell_stock : Stmt := top 62
abbrev s_tell_off : Stmt := top 63
abbrev s_can_be_struck : Stmt := top 68
abbrev s_strike_blank : Stmt := top 69
abbrev s_strike : Stmt := top 70
abbrev s_tell_enough : Stmt := top 71
abbrev s_box_passes : Stmt := top 72
abbrev s_try_box : Stmt := top 73
abbrev s_put_box_in_stock : Stmt := top 74
abbrev s_put_box_in_pot : Stmt := top 75
abbrev s_tell_pot : Stmt := top 77
abbrev s_tell_lots : Stmt := top 78
abbrev s_tell_worn : Stmt := top 79
abbrev s_find_held : Stmt := top 80
abbrev s_tell_ledger : Stmt := top 81
abbrev s_tell_claims : Stmt := top 82
abbrev s_answers : Stmt := top 112
abbrev s_answer_call : Stmt := top 113
abbrev s_make_change : Stmt := top 114
abbrev s_answer_of_mint : Stmt := top 115
abbrev s_answer_bringing : Stmt := top 116
abbrev s_answer_melting : Stmt := top 117
abbrev s_answer_striking : Stmt := top 118
abbrev s_answer_paying : Stmt := top 119
abbrev s_answer_telling : Stmt := top 120
theorem sc_Metal_init : FnScope ["self", "grains", "carats"] ["self", "grains", "carats"] (defScope s_Metal_init) := ⟨rfl, rfl, rfl, by decide +kernel, rfl, by decide +kernel, by decide +kernel⟩
theorem sc_Metal_is_none : FnScope ["self"] ["self"] (defScope s_Metal_is_none) := ⟨rfl, rfl, rfl, by decide +kernel, rfl, by decide +kernel, by decide +kernel⟩
theorem sc_Metal_is_as_fine_as : FnScope ["self", "fine"] ["self", "fine"] (defScope s_Metal_is_as_fine_as) := ⟨rfl, rfl, rfl, by decide +kernel, rfl, by decide +kernel, by decide +kernel⟩
theorem sc_Metal_together_with : FnScope ["self", "other"] ["self", "other"] (defScope s_Metal_together_with) := ⟨rfl, rfl, rfl, by decide +kernel, rfl, by decide +kernel, by decide +kernel⟩
theorem sc_Metal_less : FnScope ["self", "other"] ["self", "other"] (defScope s_Metal_less) := ⟨rfl, rfl, rfl, by decide +kernel, rfl, by decide +kernel, by decide +kernel⟩
theorem sc_Kind_init : FnScope ["self", "grains", "fine", "remedy"] ["self", "grains", "fine", "remedy"] (defScope s_Kind_init) := ⟨rfl, rfl, rfl, by decide +kernel, rfl, by decide +kernel, by decide +kernel⟩
theorem sc_Kind_metal_of : FnScope ["self", "grains"] ["self", "grains"] (defScope s_Kind_metal_of) := ⟨rfl, rfl, rfl, by decide +kernel, rfl, by decide +kernel, by decide +kernel⟩
theorem sc_Kind_another_alike : FnScope ["self", "other"] ["self"] (defScope s_Kind_another_alike) := ⟨rfl, rfl, rfl, by decide +kernel, rfl, by decide +kernel, by decide +kernel⟩
theorem sc_Die_init : FnScope ["self", "kind", "left"] ["self", "kind", "left"] (defScope s_Die_init) := ⟨rfl, rfl, rfl, by decide +kernel, rfl, by decide +kernel, by decide +kernel⟩
theorem sc_Die_another_alike : FnScope ["self"] ["self"] (defScope s_Die_another_alike) := ⟨rfl, rfl, rfl, by decide +kernel, rfl, by decide +kernel, by decide +kernel⟩
theorem sc_Mint_init : FnScope ["self", "keeps", "place", "person"] ["self", "keeps"] (defScope s_Mint_init) := ⟨rfl, rfl, rfl, by decide +kernel, rfl, by decide +kernel, by decide +kernel⟩
theorem sc_Mint_another_alike : FnScope ["self", "other", "kind", "die"] ["self"] (defScope s_Mint_another_alike) := ⟨rfl, rfl, rfl, by decide +kernel, rfl, by decide +kernel, by decide +kernel⟩
theorem sc_Mint_count_lots : FnScope ["self", "lot"] ["self"] (defScope s_Mint_count_lots) := ⟨rfl, rfl, rfl, by decide +kernel, rfl, by decide +kernel, by decide +kernel⟩
theorem sc_Mint_has_kind : FnScope ["self", "k"] ["self", "k"] (defScope s_Mint_has_kind) := ⟨rfl, rfl, rfl, by decide +kernel, rfl, by decide +kernel, by decide +kernel⟩
theorem sc_Mint_has_die : FnScope ["self", "number"] ["self", "number"] (defScope s_Mint_has_die) := ⟨rfl, rfl, rfl, by decide +kernel, rfl, by decide +kernel, by decide +kernel⟩
theorem sc_Mint_has_person : FnScope ["self", "p"] ["self", "p"] (defScope s_Mint_has_person) := ⟨rfl, rfl, rfl, by decide +kernel, rfl, by decide +kernel, by decide +kernel⟩
theorem sc_is_kind_as_told : FnScope ["grains", "fine", "remedy"] ["grains", "fine", "remedy"] (defScope s_is_kind_as_told) := ⟨rfl, rfl, rfl, by decide +kernel, rfl, by decide +kernel, by decide +kernel⟩
theorem sc_make_kind : FnScope ["mint", "grains", "fine", "remedy"] ["mint", "grains", "fine", "remedy"] (defScope s_make_kind) := ⟨rfl, rfl, rfl, by decide +kernel, rfl, by decide +kernel, by decide +kernel⟩
theorem sc_make_die : FnScope ["mint", "k", "n"] ["mint", "k", "n"] (defScope s_make_die) := ⟨rfl, rfl, rfl, by decide +kernel, rfl, by decide +kernel, by decide +kernel⟩
theorem sc_is_weight_of_lot : FnScope ["grains"] ["grains"] (defScope s_is_weight_of_lot) := ⟨rfl, rfl, rfl, by decide +kernel, rfl, by decide +kernel, by decide +kernel⟩
theorem sc_bring : FnScope ["mint", "p", "grains", "carats"] ["mint", "p", "grains", "carats"] (defScope s_bring) := ⟨rfl, rfl, rfl, by decide +kernel, rfl, by decide +kernel, by decide +kernel⟩
theorem sc_bring_old_coin : FnScope ["mint", "p", "k", "grains"] ["mint", "p", "k", "grains"] (defScope s_bring_old_coin) := ⟨rfl, rfl, rfl, by decide +kernel, rfl, by decide +kernel, by decide +kernel⟩
theorem sc_first_empty_place : FnScope ["lots", "place"] ["lots"] (defScope s_first_empty_place) := ⟨rfl, rfl, rfl, by decide +kernel, rfl, by decide +kernel, by decide +kernel⟩
theorem sc_take_in : FnScope ["mint", "p", "metal", "place", "kept", "grows"] ["mint", "p", "metal"] (defScope s_take_in) := ⟨rfl, rfl, rfl, by decide +kernel, rfl, by decide +kernel, by decide +kernel⟩
theorem sc_thousandths_rounded_up : FnScope ["carats", "thousandths"] ["carats", "thousandths"] (defScope s_thousandths_rounded_up) := ⟨rfl, rfl, rfl, by decide +kernel, rfl, by decide +kernel, by decide +kernel⟩
theorem sc_Book_init : FnScope ["self"] ["self"] (defScope s_Book_init) := ⟨rfl, rfl, rfl, by decide +kernel, rfl, by decide +kernel, by decide +kernel⟩
theorem sc_Book_begin_anew : FnScope ["self", "keeps"] ["self", "keeps"] (defScope s_Book_begin_anew) := ⟨rfl, rfl, rfl, by decide +kernel, rfl, by decide +kernel, by decide +kernel⟩
theorem sc_Book_turn_to : FnScope ["self", "mint"] ["self", "mint"] (defScope s_Book_turn_to) := ⟨rfl, rfl, rfl, by decide +kernel, rfl, by decide +kernel, by decide +kernel⟩
theorem sc_begin : FnScope ["book", "keeps"] ["book", "keeps"] (defScope s_begin) := ⟨rfl, rfl, rfl, by decide +kernel, rfl, by decide +kernel, by decide +kernel⟩
theorem sc_take_back : FnScope ["book"] ["book"] (defScope s_take_back) := ⟨rfl, rfl, rfl, by decide +kernel, rfl, by decide +kernel, by decide +kernel⟩
theorem sc_do_again : FnScope ["book"] ["book"] (defScope s_do_again) := ⟨rfl, rfl, rfl, by decide +kernel, rfl, by decide +kernel, by decide +kernel⟩
theorem sc_tell_state : FnScope ["book", "mint"] ["book"] (defScope s_tell_state) := ⟨rfl, rfl, rfl, by decide +kernel, rfl, by decide +kernel, by decide +kernel⟩
theorem sc_Need_init : FnScope ["self", "gold", "copper"] ["self", "gold", "copper"] (defScope s_Need_init) := ⟨rfl, rfl, rfl, by decide +kernel, rfl, by decide +kernel, by decide +kernel⟩
theorem sc_Need_together : FnScope ["self"] ["self"] (defScope s_Need_together) := ⟨rfl, rfl, rfl, by decide +kernel, rfl, by decide +kernel, by decide +kernel⟩
theorem sc_Choice_init : FnScope ["self", "bits", "lots", "metal"] ["self", "bits", "lots", "metal"] (defScope s_Choice_init) := ⟨rfl, rfl, rfl, by decide +kernel, rfl, by decide +kernel, by decide +kernel⟩
theorem sc_Choice_and_lot : FnScope ["self", "place", "metal"] ["self", "place", "metal"] (defScope s_Choice_and_lot) := ⟨rfl, rfl, rfl, by decide +kernel, rfl, by decide +kernel, by decide +kernel⟩
theorem sc_Plan_init : FnScope ["self", "choice", "added"] ["self", "choice", "added"] (defScope s_Plan_init) := ⟨rfl, rfl, rfl, by decide +kernel, rfl, by decide +kernel, by decide +kernel⟩
theorem sc_Plan_is_better_than : FnScope ["self", "other"] ["self", "other"] (defScope s_Plan_is_better_than) := ⟨rfl, rfl, rfl, by decide +kernel, rfl, by decide +kernel, by decide +kernel⟩
theorem sc_gold_by_rest : FnScope ["fine", "golds", "rest", "gold"] ["fine"] (defScope s_gold_by_rest) := ⟨rfl, rfl, rfl, by decide +kernel, rfl, by decide +kernel, by decide +kernel⟩
theorem sc_find_need : FnScope ["metal", "fine", "golds", "lift", "above", "gold", "more"] ["metal", "fine", "golds"] (defScope s_find_need) := ⟨rfl, rfl, rfl, by decide +kernel, rfl, by decide +kernel, by decide +kernel⟩
theorem sc_all_choices : FnScope ["pot", "lots", "choices", "place", "lot", "choice"] ["pot", "lots"] (defScope s_all_choices) := ⟨rfl, rfl, rfl, by decide +kernel, rfl, by decide +kernel, by decide +kernel⟩
theorem sc_find_plan : FnScope ["pot", "lots", "fine", "least", "golds", "best", "choice", "need", "found"] ["pot", "lots", "fine", "least"] (defScope s_find_plan) := ⟨rfl, rfl, rfl, by decide +kernel, rfl, by decide +kernel, by decide +kernel⟩
theorem sc_places_of : FnScope ["bits", "place"] ["bits"] (defScope s_places_of) := ⟨rfl, rfl, rfl, by decide +kernel, rfl, by decide +kernel, by decide +kernel⟩
theorem sc_melt : FnScope ["mint", "bits", "places", "pot", "place"] ["mint", "bits"] (defScope s_melt) := ⟨rfl, rfl, rfl, by decide +kernel, rfl, by decide +kernel, by decide +kernel⟩
theorem sc_add_metal : FnScope ["mint", "gold", "copper", "metal", "pot"] ["mint", "gold", "copper"] (defScope s_add_metal) := ⟨rfl, rfl, rfl, by decide +kernel, rfl, by decide +kernel, by decide +kernel⟩
theorem sc_tell_fits : FnScope ["mint", "k"] ["mint", "k"] (defScope s_tell_fits) := ⟨rfl, rfl, rfl, by decide +kernel, rfl, by decide +kernel, by decide +kernel⟩
theorem sc_tell_need : FnScope ["mint", "k", "fine", "need"] ["mint", "k"] (defScope s_tell_need) := ⟨rfl, rfl, rfl, by decide +kernel, rfl, by decide +kernel, by decide +kernel⟩
theorem sc_tell_plan : FnScope ["mint", "k", "least", "plan"] ["mint", "k", "least"] (defScope s_tell_plan) := ⟨rfl, rfl, rfl, by decide +kernel, rfl, by decide +kernel, by decide +kernel⟩
theorem sc_pay : FnScope ["mint", "p", "k", "n", "kind", "price", "metal"] ["mint", "p", "k", "n"] (defScope s_pay) := ⟨rfl, rfl, rfl, by decide +kernel, rfl, by decide +kernel, by decide +kernel⟩
theorem sc_tell_credit : FnScope ["mint", "p"] ["mint", "p"] (defScope s_tell_credit) := ⟨rfl, rfl, rfl, by decide +kernel, rfl, by decide +kernel, by decide +kernel⟩
theorem sc_tell_stock : FnScope ["mint", "k", "kind"] ["mint", "k"] (defScope s_tell_stock) := ⟨rfl, rfl, rfl, by decide +kernel, rfl, by decide +kernel, by decide +kernel⟩
theorem sc_tell_off : FnScope ["mint", "k", "kind", "coins", "above"] ["mint", "k"] (defScope s_tell_off) := ⟨rfl, rfl, rfl, by decide +kernel, rfl, by decide +kernel, by decide +kernel⟩
theorem sc_can_be_struck : FnScope ["pot", "kind", "die", "weight"] ["pot", "kind", "die", "weight"] (defScope s_can_be_struck) := ⟨rfl, rfl, rfl, by decide +kernel, rfl, by decide +kernel, by decide +kernel⟩
theorem sc_strike_blank : FnScope ["mint", "kind", "die", "weight"] ["mint", "kind", "die", "weight"] (defScope s_strike_blank) := ⟨rfl, rfl, rfl, by decide +kernel, rfl, by decide +kernel, by decide +kernel⟩
theorem sc_strike : FnScope ["mint", "k", "number", "n", "weights", "kind", "die", "struck", "weight"] ["mint", "k", "number", "n", "weights"] (defScope s_strike) := ⟨rfl, rfl, rfl, by decide +kernel, rfl, by decide +kernel, by decide +kernel⟩
theorem sc_tell_enough : FnScope ["mint", "k"] ["mint", "k"] (defScope s_tell_enough) := ⟨rfl, rfl, rfl, by decide +kernel, rfl, by decide +kernel, by decide +kernel⟩
theorem sc_box_passes : FnScope ["kind", "coins", "off"] ["kind"] (defScope s_box_passes) := ⟨rfl, rfl, rfl, by decide +kernel, rfl, by decide +kernel, by decide +kernel⟩
theorem sc_try_box : FnScope ["mint", "k", "kind"] ["mint", "k"] (defScope s_try_box) := ⟨rfl, rfl, rfl, by decide +kernel, rfl, by decide +kernel, by decide +kernel⟩
theorem sc_put_box_in_stock : FnScope ["mint", "k", "kind", "coins"] ["mint", "k"] (defScope s_put_box_in_stock) := ⟨rfl, rfl, rfl, by decide +kernel, rfl, by decide +kernel, by decide +kernel⟩
theorem sc_put_box_in_pot : FnScope ["mint", "k", "kind", "pot", "coins"] ["mint", "k"] (defScope s_put_box_in_pot) := ⟨rfl, rfl, rfl, by decide +kernel, rfl, by decide +kernel, by decide +kernel⟩
theorem sc_tell_pot : FnScope ["mint"] ["mint"] (defScope s_tell_pot) := ⟨rfl, rfl, rfl, by decide +kernel, rfl, by decide +kernel, by decide +kernel⟩
theorem sc_tell_lots : FnScope ["mint", "told", "lot"] ["mint"] (defScope s_tell_lots) := ⟨rfl, rfl, rfl, by decide +kernel, rfl, by decide +kernel, by decide +kernel⟩
theorem sc_tell_worn : FnScope ["mint", "worn", "bits", "number"] ["mint"] (defScope s_tell_worn) := ⟨rfl, rfl, rfl, by decide +kernel, rfl, by decide +kernel, by decide +kernel⟩
theorem sc_find_held : FnScope ["mint", "held", "lot", "kind"] ["mint"] (defScope s_find_held) := ⟨rfl, rfl, rfl, by decide +kernel, rfl, by decide +kernel, by decide +kernel⟩
theorem sc_tell_ledger : FnScope ["mint", "held"] ["mint"] (defScope s_tell_ledger) := ⟨rfl, rfl, rfl, by decide +kernel, rfl, by decide +kernel, by decide +kernel⟩
theorem sc_tell_claims : FnScope ["mint"] ["mint"] (defScope s_tell_claims) := ⟨rfl, rfl, rfl, by decide +kernel, rfl, by decide +kernel, by decide +kernel⟩
theorem sc_answers : FnScope ["calls", "book", "told", "at", "call", "end", "answer"] ["calls"] (defScope s_answers) := ⟨rfl, rfl, rfl, by decide +kernel, rfl, by decide +kernel, by decide +kernel⟩
theorem sc_answer_call : FnScope ["book", "call", "given"] ["book", "call", "given"] (defScope s_answer_call) := ⟨rfl, rfl, rfl, by decide +kernel, rfl, by decide +kernel, by decide +kernel⟩
theorem sc_make_change : FnScope ["book", "call", "given", "mint", "answer"] ["book", "call", "given"] (defScope s_make_change) := ⟨rfl, rfl, rfl, by decide +kernel, rfl, by decide +kernel, by decide +kernel⟩
theorem sc_answer_of_mint : FnScope ["mint", "call", "given"] ["mint", "call", "given"] (defScope s_answer_of_mint) := ⟨rfl, rfl, rfl, by decide +kernel, rfl, by decide +kernel, by decide +kernel⟩
theorem sc_answer_bringing : FnScope ["mint", "call", "given"] ["mint", "call", "given"] (defScope s_answer_bringing) := ⟨rfl, rfl, rfl, by decide +kernel, rfl, by decide +kernel, by decide +kernel⟩
theorem sc_answer_melting : FnScope ["mint", "call", "given"] ["mint", "call", "given"] (defScope s_answer_melting) := ⟨rfl, rfl, rfl, by decide +kernel, rfl, by decide +kernel, by decide +kernel⟩
theorem sc_answer_striking : FnScope ["mint", "call", "given"] ["mint", "call", "given"] (defScope s_answer_striking) := ⟨rfl, rfl, rfl, by decide +kernel, rfl, by decide +kernel, by decide +kernel⟩
theorem sc_answer_paying : FnScope ["mint", "call", "given"] ["mint", "call", "given"] (defScope s_answer_paying) := ⟨rfl, rfl, rfl, by decide +kernel, rfl, by decide +kernel, by decide +kernel⟩
theorem sc_answer_telling : FnScope ["mint", "call"] ["mint", "call"] (defScope s_answer_telling) := ⟨rfl, rfl, rfl, by decide +kernel, rfl, by decide +kernel, by decide +kernel⟩
set_option genInjectivity false in
/-- where things stand behind the top -/
structure Adr where
  c_Metal : Addr
  c_Kind : Addr
  c_Die : Addr
  c_Mint : Addr
  c_Book : Addr
  c_Need : Addr
  c_Choice : Addr
  c_Plan : Addr
  f_Metal_init : Addr
  d_Metal_init : FuncData
  f_Metal_is_none : Addr
  d_Metal_is_none : FuncData
  f_Metal_is_as_fine_as : Addr
  d_Metal_is_as_fine_as : FuncData
  f_Metal_together_with : Addr
  d_Metal_together_with : FuncData
  f_Metal_less : Addr
  d_Metal_less : FuncData
  f_Kind_init : Addr
  d_Kind_init : FuncData
  f_Kind_metal_of : Addr
  d_Kind_metal_of : FuncData
  f_Kind_another_alike : Addr
  d_Kind_another_alike : FuncData
  f_Die_init : Addr
  d_Die_init : FuncData
  f_Die_another_alike : Addr
  d_Die_another_alike : FuncData
  f_Mint_init : Addr
  d_Mint_init : FuncData
  f_Mint_another_alike : Addr
  d_Mint_another_alike : FuncData
  f_Mint_count_lots : Addr
  d_Mint_count_lots : FuncData
  f_Mint_has_kind : Addr
  d_Mint_has_kind : FuncData
  f_Mint_has_die : Addr
  d_Mint_has_die : FuncData
  f_Mint_has_person : Addr
  d_Mint_has_person : FuncData
  f_is_kind_as_told : Addr
  d_is_kind_as_told : FuncData
  f_make_kind : Addr
  d_make_kind : FuncData
  f_make_die : Addr
  d_make_die : FuncData
  f_is_weight_of_lot : Addr
  d_is_weight_of_lot : FuncData
  f_bring : Addr
  d_bring : FuncData
  f_bring_old_coin : Addr
  d_bring_old_coin : FuncData
  f_first_empty_place : Addr
  d_first_empty_place : FuncData
  f_take_in : Addr
  d_take_in : FuncData
  f_thousandths_rounded_up : Addr
  d_thousandths_rounded_up : FuncData
  f_Book_init : Addr
  d_Book_init : FuncData
  f_Book_begin_anew : Addr
  d_Book_begin_anew : FuncData
  f_Book_turn_to : Addr
  d_Book_turn_to : FuncData
  f_begin : Addr
  d_begin : FuncData
  f_take_back : Addr
  d_take_back : FuncData
  f_do_again : Addr
  d_do_again : FuncData
  f_tell_state : Addr
  d_tell_state : FuncData
  f_Need_init : Addr
  d_Need_init : FuncData
  f_Need_together : Addr
  d_Need_together : FuncData
  f_Choice_init : Addr
  d_Choice_init : FuncData
  f_Choice_and_lot : Addr
  d_Choice_and_lot : FuncData
  f_Plan_init : Addr
  d_Plan_init : FuncData
  f_Plan_is_better_than : Addr
  d_Plan_is_better_than : FuncData
  f_gold_by_rest : Addr
  d_gold_by_rest : FuncData
  f_find_need : Addr
  d_find_need : FuncData
  f_all_choices : Addr
  d_all_choices : FuncData
  f_find_plan : Addr
  d_find_plan : FuncData
  f_places_of : Addr
  d_places_of : FuncData
  f_melt : Addr
  d_melt : FuncData
  f_add_metal : Addr
  d_add_metal : FuncData
  f_tell_fits : Addr
  d_tell_fits : FuncData
  f_tell_need : Addr
  d_tell_need : FuncData
  f_tell_plan : Addr
  d_tell_plan : FuncData
  f_pay : Addr
  d_pay : FuncData
  f_tell_credit : Addr
  d_tell_credit : FuncData
  f_tell_stock : Addr
  d_tell_stock : FuncData
  f_tell_off : Addr
  d_tell_off : FuncData
  f_can_be_struck : Addr
  d_can_be_struck : FuncData
  f_strike_blank : Addr
  d_strike_blank : FuncData
  f_strike : Addr
  d_strike : FuncData
  f_tell_enough : Addr
  d_tell_enough : FuncData
  f_box_passes : Addr
  d_box_passes : FuncData
  f_try_box : Addr
  d_try_box : FuncData
  f_put_box_in_stock : Addr
  d_put_box_in_stock : FuncData
  f_put_box_in_pot : Addr
  d_put_box_in_pot : FuncData
  f_tell_pot : Addr
  d_tell_pot : FuncData
  f_tell_lots : Addr
  d_tell_lots : FuncData
  f_tell_worn : Addr
  d_tell_worn : FuncData
  f_find_held : Addr
  d_find_held : FuncData
  f_tell_ledger : Addr
  d_tell_ledger : FuncData
  f_tell_claims : Addr
  d_tell_claims : FuncData
  f_answers : Addr
  d_answers : FuncData
  f_answer_call : Addr
  d_answer_call : FuncData
  f_make_change : Addr
  d_make_change : FuncData
  f_answer_of_mint : Addr
  d_answer_of_mint : FuncData
  f_answer_bringing : Addr
  d_answer_bringing : FuncData
  f_answer_melting : Addr
  d_answer_melting : FuncData
  f_answer_striking : Addr
  d_answer_striking : FuncData
  f_answer_paying : Addr
  d_answer_paying : FuncData
  f_answer_telling : Addr
  d_answer_telling : FuncData
  t_NUMBERS_BEHIND : Addr
  t_CHANGES : Addr
/-- what the top has written -/
structure Txt (K : PySem.W.Frag) (mg : Str → Option Value) (Z : Adr) : Prop where
  cl_Metal : Cls K Z.c_Metal
  mk_Metal : Mk K Z.c_Metal Z.f_Metal_init
  g_Metal : mg "Metal" = some (.ref Z.c_Metal)
  n_Metal_grains : NoAttr K Z.c_Metal "grains"
  n_Metal_carats : NoAttr K Z.c_Metal "carats"
  m_Metal_is_none : Meth K Z.c_Metal "is_none" Z.f_Metal_is_none
  m_Metal_is_as_fine_as : Meth K Z.c_Metal "is_as_fine_as" Z.f_Metal_is_as_fine_as
  m_Metal_together_with : Meth K Z.c_Metal "together_with" Z.f_Metal_together_with
  m_Metal_less : Meth K Z.c_Metal "less" Z.f_Metal_less
  cl_Kind : Cls K Z.c_Kind
  mk_Kind : Mk K Z.c_Kind Z.f_Kind_init
  g_Kind : mg "Kind" = some (.ref Z.c_Kind)
  n_Kind_grains : NoAttr K Z.c_Kind "grains"
  n_Kind_fine : NoAttr K Z.c_Kind "fine"
  n_Kind_remedy : NoAttr K Z.c_Kind "remedy"
  n_Kind_struck : NoAttr K Z.c_Kind "struck"
  n_Kind_stock : NoAttr K Z.c_Kind "stock"
  n_Kind_box : NoAttr K Z.c_Kind "box"
  m_Kind_metal_of : Meth K Z.c_Kind "metal_of" Z.f_Kind_metal_of
  m_Kind_another_alike : Meth K Z.c_Kind "another_alike" Z.f_Kind_another_alike
  cl_Die : Cls K Z.c_Die
  mk_Die : Mk K Z.c_Die Z.f_Die_init
  g_Die : mg "Die" = some (.ref Z.c_Die)
  n_Die_kind : NoAttr K Z.c_Die "kind"
  n_Die_left : NoAttr K Z.c_Die "left"
  m_Die_another_alike : Meth K Z.c_Die "another_alike" Z.f_Die_another_alike
  cl_Mint : Cls K Z.c_Mint
  mk_Mint : Mk K Z.c_Mint Z.f_Mint_init
  g_Mint : mg "Mint" = some (.ref Z.c_Mint)
  n_Mint_keeps : NoAttr K Z.c_Mint "keeps"
  n_Mint_kinds : NoAttr K Z.c_Mint "kinds"
  n_Mint_dies : NoAttr K Z.c_Mint "dies"
  n_Mint_lots : NoAttr K Z.c_Mint "lots"
  n_Mint_pot : NoAttr K Z.c_Mint "pot"
  n_Mint_credit : NoAttr K Z.c_Mint "credit"
  n_Mint_kept : NoAttr K Z.c_Mint "kept"
  n_Mint_lessened : NoAttr K Z.c_Mint "lessened"
  n_Mint_brought : NoAttr K Z.c_Mint "brought"
  n_Mint_added : NoAttr K Z.c_Mint "added"
  n_Mint_paid : NoAttr K Z.c_Mint "paid"
  m_Mint_another_alike : Meth K Z.c_Mint "another_alike" Z.f_Mint_another_alike
  m_Mint_count_lots : Meth K Z.c_Mint "count_lots" Z.f_Mint_count_lots
  m_Mint_has_kind : Meth K Z.c_Mint "has_kind" Z.f_Mint_has_kind
  m_Mint_has_die : Meth K Z.c_Mint "has_die" Z.f_Mint_has_die
  m_Mint_has_person : Meth K Z.c_Mint "has_person" Z.f_Mint_has_person
  cl_Book : Cls K Z.c_Book
  mk_Book : Mk K Z.c_Book Z.f_Book_init
  g_Book : mg "Book" = some (.ref Z.c_Book)
  n_Book_mint : NoAttr K Z.c_Book "mint"
  n_Book_before : NoAttr K Z.c_Book "before"
  n_Book_behind : NoAttr K Z.c_Book "behind"
  m_Book_begin_anew : Meth K Z.c_Book "begin_anew" Z.f_Book_begin_anew
  m_Book_turn_to : Meth K Z.c_Book "turn_to" Z.f_Book_turn_to
  cl_Need : Cls K Z.c_Need
  mk_Need : Mk K Z.c_Need Z.f_Need_init
  g_Need : mg "Need" = some (.ref Z.c_Need)
  n_Need_gold : NoAttr K Z.c_Need "gold"
  n_Need_copper : NoAttr K Z.c_Need "copper"
  m_Need_together : Meth K Z.c_Need "together" Z.f_Need_together
  cl_Choice : Cls K Z.c_Choice
  mk_Choice : Mk K Z.c_Choice Z.f_Choice_init
  g_Choice : mg "Choice" = some (.ref Z.c_Choice)
  n_Choice_bits : NoAttr K Z.c_Choice "bits"
  n_Choice_lots : NoAttr K Z.c_Choice "lots"
  n_Choice_metal : NoAttr K Z.c_Choice "metal"
  m_Choice_and_lot : Meth K Z.c_Choice "and_lot" Z.f_Choice_and_lot
  cl_Plan : Cls K Z.c_Plan
  mk_Plan : Mk K Z.c_Plan Z.f_Plan_init
  g_Plan : mg "Plan" = some (.ref Z.c_Plan)
  n_Plan_choice : NoAttr K Z.c_Plan "choice"
  n_Plan_added : NoAttr K Z.c_Plan "added"
  m_Plan_is_better_than : Meth K Z.c_Plan "is_better_than" Z.f_Plan_is_better_than
  F_Metal_init : Fun K "__init__" "Metal.__init__" s_Metal_init Z.f_Metal_init Z.d_Metal_init
  F_Metal_is_none : Fun K "is_none" "Metal.is_none" s_Metal_is_none Z.f_Metal_is_none Z.d_Metal_is_none
  F_Metal_is_as_fine_as : Fun K "is_as_fine_as" "Metal.is_as_fine_as" s_Metal_is_as_fine_as Z.f_Metal_is_as_fine_as Z.d_Metal_is_as_fine_as
  F_Metal_together_with : Fun K "together_with" "Metal.together_with" s_Metal_together_with Z.f_Metal_together_with Z.d_Metal_together_with
  F_Metal_less : Fun K "less" "Metal.less" s_Metal_less Z.f_Metal_less Z.d_Metal_less
  F_Kind_init : Fun K "__init__" "Kind.__init__" s_Kind_init Z.f_Kind_init Z.d_Kind_init
  F_Kind_metal_of : Fun K "metal_of" "Kind.metal_of" s_Kind_metal_of Z.f_Kind_metal_of Z.d_Kind_metal_of
  F_Kind_another_alike : Fun K "another_alike" "Kind.another_alike" s_Kind_another_alike Z.f_Kind_another_alike Z.d_Kind_another_alike
  F_Die_init : Fun K "__init__" "Die.__init__" s_Die_init Z.f_Die_init Z.d_Die_init
  F_Die_another_alike : Fun K "another_alike" "Die.another_alike" s_Die_another_alike Z.f_Die_another_alike Z.d_Die_another_alike
  F_Mint_init : Fun K "__init__" "Mint.__init__" s_Mint_init Z.f_Mint_init Z.d_Mint_init
  F_Mint_another_alike : Fun K "another_alike" "Mint.another_alike" s_Mint_another_alike Z.f_Mint_another_alike Z.d_Mint_another_alike
  F_Mint_count_lots : Fun K "count_lots" "Mint.count_lots" s_Mint_count_lots Z.f_Mint_count_lots Z.d_Mint_count_lots
  F_Mint_has_kind : Fun K "has_kind" "Mint.has_kind" s_Mint_has_kind Z.f_Mint_has_kind Z.d_Mint_has_kind
  F_Mint_has_die : Fun K "has_die" "Mint.has_die" s_Mint_has_die Z.f_Mint_has_die Z.d_Mint_has_die
  F_Mint_has_person : Fun K "has_person" "Mint.has_person" s_Mint_has_person Z.f_Mint_has_person Z.d_Mint_has_person
  F_is_kind_as_told : Fun K "is_kind_as_told" "is_kind_as_told" s_is_kind_as_told Z.f_is_kind_as_told Z.d_is_kind_as_told
  g_is_kind_as_told : mg "is_kind_as_told" = some (.ref Z.f_is_kind_as_told)
  F_make_kind : Fun K "make_kind" "make_kind" s_make_kind Z.f_make_kind Z.d_make_kind
  g_make_kind : mg "make_kind" = some (.ref Z.f_make_kind)
  F_make_die : Fun K "make_die" "make_die" s_make_die Z.f_make_die Z.d_make_die
  g_make_die : mg "make_die" = some (.ref Z.f_make_die)
  F_is_weight_of_lot : Fun K "is_weight_of_lot" "is_weight_of_lot" s_is_weight_of_lot Z.f_is_weight_of_lot Z.d_is_weight_of_lot
  g_is_weight_of_lot : mg "is_weight_of_lot" = some (.ref Z.f_is_weight_of_lot)
  F_bring : Fun K "bring" "bring" s_bring Z.f_bring Z.d_bring
  g_bring : mg "bring" = some (.ref Z.f_bring)
  F_bring_old_coin : Fun K "bring_old_coin" "bring_old_coin" s_bring_old_coin Z.f_bring_old_coin Z.d_bring_old_coin
  g_bring_old_coin : mg "bring_old_coin" = some (.ref Z.f_bring_old_coin)
  F_first_empty_place : Fun K "first_empty_place" "first_empty_place" s_first_empty_place Z.f_first_empty_place Z.d_first_empty_place
  g_first_empty_place : mg "first_empty_place" = some (.ref Z.f_first_empty_place)
  F_take_in : Fun K "take_in" "take_in" s_take_in Z.f_take_in Z.d_take_in
  g_take_in : mg "take_in" = some (.ref Z.f_take_in)
  F_thousandths_rounded_up : Fun K "thousandths_rounded_up" "thousandths_rounded_up" s_thousandths_rounded_up Z.f_thousandths_rounded_up Z.d_thousandths_rounded_up
  g_thousandths_rounded_up : mg "thousandths_rounded_up" = some (.ref Z.f_thousandths_rounded_up)
  F_Book_init : Fun K "__init__" "Book.__init__" s_Book_init Z.f_Book_init Z.d_Book_init
  F_Book_begin_anew : Fun K "begin_anew" "Book.begin_anew" s_Book_begin_anew Z.f_Book_begin_anew Z.d_Book_begin_anew
  F_Book_turn_to : Fun K "turn_to" "Book.turn_to" s_Book_turn_to Z.f_Book_turn_to Z.d_Book_turn_to
  F_begin : Fun K "begin" "begin" s_begin Z.f_begin Z.d_begin
  g_begin : mg "begin" = some (.ref Z.f_begin)
  F_take_back : Fun K "take_back" "take_back" s_take_back Z.f_take_back Z.d_take_back
  g_take_back : mg "take_back" = some (.ref Z.f_take_back)
  F_do_again : Fun K "do_again" "do_again" s_do_again Z.f_do_again Z.d_do_again
  g_do_again : mg "do_again" = some (.ref Z.f_do_again)
  F_tell_state : Fun K "tell_state" "tell_state" s_tell_state Z.f_tell_state Z.d_tell_state
  g_tell_state : mg "tell_state" = some (.ref Z.f_tell_state)
  F_Need_init : Fun K "__init__" "Need.__init__" s_Need_init Z.f_Need_init Z.d_Need_init
  F_Need_together : Fun K "together" "Need.together" s_Need_together Z.f_Need_together Z.d_Need_together
  F_Choice_init : Fun K "__init__" "Choice.__init__" s_Choice_init Z.f_Choice_init Z.d_Choice_init
  F_Choice_and_lot : Fun K "and_lot" "Choice.and_lot" s_Choice_and_lot Z.f_Choice_and_lot Z.d_Choice_and_lot
  F_Plan_init : Fun K "__init__" "Plan.__init__" s_Plan_init Z.f_Plan_init Z.d_Plan_init
  F_Plan_is_better_than : Fun K "is_better_than" "Plan.is_better_than" s_Plan_is_better_than Z.f_Plan_is_better_than Z.d_Plan_is_better_than
  F_gold_by_rest : Fun K "gold_by_rest" "gold_by_rest" s_gold_by_rest Z.f_gold_by_rest Z.d_gold_by_rest
  g_gold_by_rest : mg "gold_by_rest" = some (.ref Z.f_gold_by_rest)
  F_find_need : Fun K "find_need" "find_need" s_find_need Z.f_find_need Z.d_find_need
  g_find_need : mg "find_need" = some (.ref Z.f_find_need)
  F_all_choices : Fun K "all_choices" "all_choices" s_all_choices Z.f_all_choices Z.d_all_choices
  g_all_choices : mg "all_choices" = some (.ref Z.f_all_choices)
  F_find_plan : Fun K "find_plan" "find_plan" s_find_plan Z.f_find_plan Z.d_find_plan
  g_find_plan : mg "find_plan" = some (.ref Z.f_find_plan)
  F_places_of : Fun K "places_of" "places_of" s_places_of Z.f_places_of Z.d_places_of
  g_places_of : mg "places_of" = some (.ref Z.f_places_of)
  F_melt : Fun K "melt" "melt" s_melt Z.f_melt Z.d_melt
  g_melt : mg "melt" = some (.ref Z.f_melt)
  F_add_metal : Fun K "add_metal" "add_metal" s_add_metal Z.f_add_metal Z.d_add_metal
  g_add_metal : mg "add_metal" = some (.ref Z.f_add_metal)
  F_tell_fits : Fun K "tell_fits" "tell_fits" s_tell_fits Z.f_tell_fits Z.d_tell_fits
  g_tell_fits : mg "tell_fits" = some (.ref Z.f_tell_fits)
  F_tell_need : Fun K "tell_need" "tell_need" s_tell_need Z.f_tell_need Z.d_tell_need
  g_tell_need : mg "tell_need" = some (.ref Z.f_tell_need)
  F_tell_plan : Fun K "tell_plan" "tell_plan" s_tell_plan Z.f_tell_plan Z.d_tell_plan
  g_tell_plan : mg "tell_plan" = some (.ref Z.f_tell_plan)
  F_pay : Fun K "pay" "pay" s_pay Z.f_pay Z.d_pay
  g_pay : mg "pay" = some (.ref Z.f_pay)
  F_tell_credit : Fun K "tell_credit" "tell_credit" s_tell_credit Z.f_tell_credit Z.d_tell_credit
  g_tell_credit : mg "tell_credit" = some (.ref Z.f_tell_credit)
  F_tell_stock : Fun K "tell_stock" "tell_stock" s_tell_stock Z.f_tell_stock Z.d_tell_stock
  g_tell_stock : mg "tell_stock" = some (.ref Z.f_tell_stock)
  F_tell_off : Fun K "tell_off" "tell_off" s_tell_off Z.f_tell_off Z.d_tell_off
  g_tell_off : mg "tell_off" = some (.ref Z.f_tell_off)
  F_can_be_struck : Fun K "can_be_struck" "can_be_struck" s_can_be_struck Z.f_can_be_struck Z.d_can_be_struck
  g_can_be_struck : mg "can_be_struck" = some (.ref Z.f_can_be_struck)
  F_strike_blank : Fun K "strike_blank" "strike_blank" s_strike_blank Z.f_strike_blank Z.d_strike_blank
  g_strike_blank : mg "strike_blank" = some (.ref Z.f_strike_blank)
  F_strike : Fun K "strike" "strike" s_strike Z.f_strike Z.d_strike
  g_strike : mg "strike" = some (.ref Z.f_strike)
  F_tell_enough : Fun K "tell_enough" "tell_enough" s_tell_enough Z.f_tell_enough Z.d_tell_enough
  g_tell_enough : mg "tell_enough" = some (.ref Z.f_tell_enough)
  F_box_passes : Fun K "box_passes" "box_passes" s_box_passes Z.f_box_passes Z.d_box_passes
  g_box_passes : mg "box_passes" = some (.ref Z.f_box_passes)
  F_try_box : Fun K "try_box" "try_box" s_try_box Z.f_try_box Z.d_try_box
  g_try_box : mg "try_box" = some (.ref Z.f_try_box)
  F_put_box_in_stock : Fun K "put_box_in_stock" "put_box_in_stock" s_put_box_in_stock Z.f_put_box_in_stock Z.d_put_box_in_stock
  g_put_box_in_stock : mg "put_box_in_stock" = some (.ref Z.f_put_box_in_stock)
  F_put_box_in_pot : Fun K "put_box_in_pot" "put_box_in_pot" s_put_box_in_pot Z.f_put_box_in_pot Z.d_put_box_in_pot
  g_put_box_in_pot : mg "put_box_in_pot" = some (.ref Z.f_put_box_in_pot)
  F_tell_pot : Fun K "tell_pot" "tell_pot" s_tell_pot Z.f_tell_pot Z.d_tell_pot
  g_tell_pot : mg "tell_pot" = some (.ref Z.f_tell_pot)
  F_tell_lots : Fun K "tell_lots" "tell_lots" s_tell_lots Z.f_tell_lots Z.d_tell_lots
  g_tell_lots : mg "tell_lots" = some (.ref Z.f_tell_lots)
  F_tell_worn : Fun K "tell_worn" "tell_worn" s_tell_worn Z.f_tell_worn Z.d_tell_worn
  g_tell_worn : mg "tell_worn" = some (.ref Z.f_tell_worn)
  F_find_held : Fun K "find_held" "find_held" s_find_held Z.f_find_held Z.d_find_held
  g_find_held : mg "find_held" = some (.ref Z.f_find_held)
  F_tell_ledger : Fun K "tell_ledger" "tell_ledger" s_tell_ledger Z.f_tell_ledger Z.d_tell_ledger
  g_tell_ledger : mg "tell_ledger" = some (.ref Z.f_tell_ledger)
  F_tell_claims : Fun K "tell_claims" "tell_claims" s_tell_claims Z.f_tell_claims Z.d_tell_claims
  g_tell_claims : mg "tell_claims" = some (.ref Z.f_tell_claims)
  F_answers : Fun K "answers" "answers" s_answers Z.f_answers Z.d_answers
  g_answers : mg "answers" = some (.ref Z.f_answers)
  F_answer_call : Fun K "answer_call" "answer_call" s_answer_call Z.f_answer_call Z.d_answer_call
  g_answer_call : mg "answer_call" = some (.ref Z.f_answer_call)
  F_make_change : Fun K "make_change" "make_change" s_make_change Z.f_make_change Z.d_make_change
  g_make_change : mg "make_change" = some (.ref Z.f_make_change)
  F_answer_of_mint : Fun K "answer_of_mint" "answer_of_mint" s_answer_of_mint Z.f_answer_of_mint Z.d_answer_of_mint
  g_answer_of_mint : mg "answer_of_mint" = some (.ref Z.f_answer_of_mint)
  F_answer_bringing : Fun K "answer_bringing" "answer_bringing" s_answer_bringing Z.f_answer_bringing Z.d_answer_bringing
  g_answer_bringing : mg "answer_bringing" = some (.ref Z.f_answer_bringing)
  F_answer_melting : Fun K "answer_melting" "answer_melting" s_answer_melting Z.f_answer_melting Z.d_answer_melting
  g_answer_melting : mg "answer_melting" = some (.ref Z.f_answer_melting)
  F_answer_striking : Fun K "answer_striking" "answer_striking" s_answer_striking Z.f_answer_striking Z.d_answer_striking
  g_answer_striking : mg "answer_striking" = some (.ref Z.f_answer_striking)
  F_answer_paying : Fun K "answer_paying" "answer_paying" s_answer_paying Z.f_answer_paying Z.d_answer_paying
  g_answer_paying : mg "answer_paying" = some (.ref Z.f_answer_paying)
  F_answer_telling : Fun K "answer_telling" "answer_telling" s_answer_telling Z.f_answer_telling Z.d_answer_telling
  g_answer_telling : mg "answer_telling" = some (.ref Z.f_answer_telling)
  k_NOT_THERE : ∃ t, mg "NOT_THERE" = some (.int (-2) t)
  k_BOX_EMPTY : ∃ t, mg "BOX_EMPTY" = some (.int (-6) t)
  k_TOO_FEW_COINS : ∃ t, mg "TOO_FEW_COINS" = some (.int (-12) t)
  k_OTHER_KIND : ∃ t, mg "OTHER_KIND" = some (.int (-13) t)
  k_TOO_LITTLE_CREDIT : ∃ t, mg "TOO_LITTLE_CREDIT" = some (.int (-20) t)
  k_NOT_AS_TOLD : ∃ t, mg "NOT_AS_TOLD" = some (.int (-22) t)
  k_NO_ROOM : ∃ t, mg "NO_ROOM" = some (.int (-28) t)
  k_NOT_TO_BE_DONE : ∃ t, mg "NOT_TO_BE_DONE" = some (.int (-33) t)
  k_NOT_AS_FINE : ∃ t, mg "NOT_AS_FINE" = some (.int (-71) t)
  k_CARATS_OF_GOLD : ∃ t, mg "CARATS_OF_GOLD" = some (.int (24) t)
  k_PLACES : ∃ t, mg "PLACES" = some (.int (10) t)
  k_PEOPLE : ∃ t, mg "PEOPLE" = some (.int (6) t)
  k_MOST_IN_POT : ∃ t, mg "MOST_IN_POT" = some (.int (2000000) t)
  k_MOST_KINDS : ∃ t, mg "MOST_KINDS" = some (.int (4) t)
  k_MOST_GRAINS_OF_COIN : ∃ t, mg "MOST_GRAINS_OF_COIN" = some (.int (10000) t)
  k_MOST_REMEDY : ∃ t, mg "MOST_REMEDY" = some (.int (100) t)
  k_MOST_DIES : ∃ t, mg "MOST_DIES" = some (.int (6) t)
  k_MOST_COINS_OF_DIE : ∃ t, mg "MOST_COINS_OF_DIE" = some (.int (1000) t)
  k_MOST_GRAINS_OF_LOT : ∃ t, mg "MOST_GRAINS_OF_LOT" = some (.int (100000) t)
  k_MOST_KEPT : ∃ t, mg "MOST_KEPT" = some (.int (500) t)
  k_MOST_CHANGES : ∃ t, mg "MOST_CHANGES" = some (.int (30) t)
  k_MOST_BITS : ∃ t, mg "MOST_BITS" = some (.int (1023) t)
  k_MOST_ADDED : ∃ t, mg "MOST_ADDED" = some (.int (100000) t)
  k_MOST_BLANKS : ∃ t, mg "MOST_BLANKS" = some (.int (8) t)
  k_MOST_COINS_OF_KIND : ∃ t, mg "MOST_COINS_OF_KIND" = some (.int (60) t)
  k_EACH_TENTH : ∃ t, mg "EACH_TENTH" = some (.int (10) t)
  k_MI_BEGIN : ∃ t, mg "MI_BEGIN" = some (.int (0) t)
  k_MI_KIND : ∃ t, mg "MI_KIND" = some (.int (1) t)
  k_MI_DIE : ∃ t, mg "MI_DIE" = some (.int (2) t)
  k_MI_BRING : ∃ t, mg "MI_BRING" = some (.int (3) t)
  k_MI_OLD : ∃ t, mg "MI_OLD" = some (.int (4) t)
  k_MI_MELT : ∃ t, mg "MI_MELT" = some (.int (5) t)
  k_MI_ADD : ∃ t, mg "MI_ADD" = some (.int (6) t)
  k_MI_FITS : ∃ t, mg "MI_FITS" = some (.int (7) t)
  k_MI_NEED : ∃ t, mg "MI_NEED" = some (.int (8) t)
  k_MI_PLAN : ∃ t, mg "MI_PLAN" = some (.int (9) t)
  k_MI_STRIKE : ∃ t, mg "MI_STRIKE" = some (.int (10) t)
  k_MI_ENOUGH : ∃ t, mg "MI_ENOUGH" = some (.int (11) t)
  k_MI_TRIAL : ∃ t, mg "MI_TRIAL" = some (.int (12) t)
  k_MI_OPEN : ∃ t, mg "MI_OPEN" = some (.int (13) t)
  k_MI_BREAK : ∃ t, mg "MI_BREAK" = some (.int (14) t)
  k_MI_PAY : ∃ t, mg "MI_PAY" = some (.int (15) t)
  k_MI_CREDIT : ∃ t, mg "MI_CREDIT" = some (.int (16) t)
  k_MI_STOCK : ∃ t, mg "MI_STOCK" = some (.int (17) t)
  k_MI_OFF : ∃ t, mg "MI_OFF" = some (.int (18) t)
  k_MI_POT : ∃ t, mg "MI_POT" = some (.int (19) t)
  k_MI_LOTS : ∃ t, mg "MI_LOTS" = some (.int (20) t)
  k_MI_WORN : ∃ t, mg "MI_WORN" = some (.int (21) t)
  k_MI_LEDGER : ∃ t, mg "MI_LEDGER" = some (.int (22) t)
  k_MI_BACK : ∃ t, mg "MI_BACK" = some (.int (24) t)
  k_MI_AGAIN : ∃ t, mg "MI_AGAIN" = some (.int (25) t)
  k_MI_STATE : ∃ t, mg "MI_STATE" = some (.int (26) t)
  k_NUMBERS_BEHIND : mg "NUMBERS_BEHIND" = some (.ref Z.t_NUMBERS_BEHIND)
  v_NUMBERS_BEHIND : ∀ H, SqT K H Z.t_NUMBERS_BEHIND (([1, 3, 2, 3, 3, 1, 2, 1, 1, 2, 12, 1, 1, 1, 1, 3, 1, 1, 1, 0, 0, 0, 0, 0, 0, 0, 0] : List Int).map V.int)
  k_CHANGES : mg "CHANGES" = some (.ref Z.t_CHANGES)
  v_CHANGES : ∀ H, SqT K H Z.t_CHANGES (([1, 2, 3, 4, 5, 6, 10, 13, 14, 15] : List Int).map V.int)
  n_len : mg "len" = none
  n_range : mg "range" = none
  n_abs : mg "abs" = none
  n_sum : mg "sum" = none
  n_min : mg "min" = none
  n_max : mg "max" = none
  n_list : mg "list" = none
section
variable {K : PySem.W.Frag} {mg : Str → Option Value} {Z : Adr}
theorem b_Metal_init (T : Txt K mg Z) : Binds K Z.d_Metal_init ["self", "grains", "carats"] [] := T.F_Metal_init.binds fun _ _ _ _ _ _ us hl => match us, hl with | [_, _, _], _ => rfl
theorem b_Metal_is_none (T : Txt K mg Z) : Binds K Z.d_Metal_is_none ["self"] [] := T.F_Metal_is_none.binds fun _ _ _ _ _ _ us hl => match us, hl with | [_], _ => rfl
theorem b_Metal_is_as_fine_as (T : Txt K mg Z) : Binds K Z.d_Metal_is_as_fine_as ["self", "fine"] [] := T.F_Metal_is_as_fine_as.binds fun _ _ _ _ _ _ us hl => match us, hl with | [_, _], _ => rfl
theorem b_Metal_together_with (T : Txt K mg Z) : Binds K Z.d_Metal_together_with ["self", "other"] [] := T.F_Metal_together_with.binds fun _ _ _ _ _ _ us hl => match us, hl with | [_, _], _ => rfl
theorem b_Metal_less (T : Txt K mg Z) : Binds K Z.d_Metal_less ["self", "other"] [] := T.F_Metal_less.binds fun _ _ _ _ _ _ us hl => match us, hl with | [_, _], _ => rfl
theorem b_Kind_init (T : Txt K mg Z) : Binds K Z.d_Kind_init ["self", "grains", "fine", "remedy"] [] := T.F_Kind_init.binds fun _ _ _ _ _ _ us hl => match us, hl with | [_, _, _, _], _ => rfl
theorem b_Kind_metal_of (T : Txt K mg Z) : Binds K Z.d_Kind_metal_of ["self", "grains"] [] := T.F_Kind_metal_of.binds fun _ _ _ _ _ _ us hl => match us, hl with | [_, _], _ => rfl
theorem b_Kind_another_alike (T : Txt K mg Z) : Binds K Z.d_Kind_another_alike ["self"] [] := T.F_Kind_another_alike.binds fun _ _ _ _ _ _ us hl => match us, hl with | [_], _ => rfl
theorem b_Die_init (T : Txt K mg Z) : Binds K Z.d_Die_init ["self", "kind", "left"] [] := T.F_Die_init.binds fun _ _ _ _ _ _ us hl => match us, hl with | [_, _, _], _ => rfl
theorem b_Die_another_alike (T : Txt K mg Z) : Binds K Z.d_Die_another_alike ["self"] [] := T.F_Die_another_alike.binds fun _ _ _ _ _ _ us hl => match us, hl with | [_], _ => rfl
theorem b_Mint_init (T : Txt K mg Z) : Binds K Z.d_Mint_init ["self", "keeps"] [] := T.F_Mint_init.binds fun _ _ _ _ _ _ us hl => match us, hl with | [_, _], _ => rfl
theorem b_Mint_another_alike (T : Txt K mg Z) : Binds K Z.d_Mint_another_alike ["self"] [] := T.F_Mint_another_alike.binds fun _ _ _ _ _ _ us hl => match us, hl with | [_], _ => rfl
theorem b_Mint_count_lots (T : Txt K mg Z) : Binds K Z.d_Mint_count_lots ["self"] [] := T.F_Mint_count_lots.binds fun _ _ _ _ _ _ us hl => match us, hl with | [_], _ => rfl
theorem b_Mint_has_kind (T : Txt K mg Z) : Binds K Z.d_Mint_has_kind ["self", "k"] [] := T.F_Mint_has_kind.binds fun _ _ _ _ _ _ us hl => match us, hl with | [_, _], _ => rfl
theorem b_Mint_has_die (T : Txt K mg Z) : Binds K Z.d_Mint_has_die ["self", "number"] [] := T.F_Mint_has_die.binds fun _ _ _ _ _ _ us hl => match us, hl with | [_, _], _ => rfl
theorem b_Mint_has_person (T : Txt K mg Z) : Binds K Z.d_Mint_has_person ["self", "p"] [] := T.F_Mint_has_person.binds fun _ _ _ _ _ _ us hl => match us, hl with | [_, _], _ => rfl
theorem b_is_kind_as_told (T : Txt K mg Z) : Binds K Z.d_is_kind_as_told ["grains", "fine", "remedy"] [] := T.F_is_kind_as_told.binds fun _ _ _ _ _ _ us hl => match us, hl with | [_, _, _], _ => rfl
theorem b_make_kind (T : Txt K mg Z) : Binds K Z.d_make_kind ["mint", "grains", "fine", "remedy"] [] := T.F_make_kind.binds fun _ _ _ _ _ _ us hl => match us, hl with | [_, _, _, _], _ => rfl
theorem b_make_die (T : Txt K mg Z) : Binds K Z.d_make_die ["mint", "k", "n"] [] := T.F_make_die.binds fun _ _ _ _ _ _ us hl => match us, hl with | [_, _, _], _ => rfl
theorem b_is_weight_of_lot (T : Txt K mg Z) : Binds K Z.d_is_weight_of_lot ["grains"] [] := T.F_is_weight_of_lot.binds fun _ _ _ _ _ _ us hl => match us, hl with | [_], _ => rfl
theorem b_bring (T : Txt K mg Z) : Binds K Z.d_bring ["mint", "p", "grains", "carats"] [] := T.F_bring.binds fun _ _ _ _ _ _ us hl => match us, hl with | [_, _, _, _], _ => rfl
theorem b_bring_old_coin (T : Txt K mg Z) : Binds K Z.d_bring_old_coin ["mint", "p", "k", "grains"] [] := T.F_bring_old_coin.binds fun _ _ _ _ _ _ us hl => match us, hl with | [_, _, _, _], _ => rfl
theorem b_first_empty_place (T : Txt K mg Z) : Binds K Z.d_first_empty_place ["lots"] [] := T.F_first_empty_place.binds fun _ _ _ _ _ _ us hl => match us, hl with | [_], _ => rfl
theorem b_take_in (T : Txt K mg Z) : Binds K Z.d_take_in ["mint", "p", "metal"] [] := T.F_take_in.binds fun _ _ _ _ _ _ us hl => match us, hl with | [_, _, _], _ => rfl
theorem b_thousandths_rounded_up (T : Txt K mg Z) : Binds K Z.d_thousandths_rounded_up ["carats", "thousandths"] [] := T.F_thousandths_rounded_up.binds fun _ _ _ _ _ _ us hl => match us, hl with | [_, _], _ => rfl
theorem b_Book_init (T : Txt K mg Z) : Binds K Z.d_Book_init ["self"] [] := T.F_Book_init.binds fun _ _ _ _ _ _ us hl => match us, hl with | [_], _ => rfl
theorem b_Book_begin_anew (T : Txt K mg Z) : Binds K Z.d_Book_begin_anew ["self", "keeps"] [] := T.F_Book_begin_anew.binds fun _ _ _ _ _ _ us hl => match us, hl with | [_, _], _ => rfl
theorem b_Book_turn_to (T : Txt K mg Z) : Binds K Z.d_Book_turn_to ["self", "mint"] [] := T.F_Book_turn_to.binds fun _ _ _ _ _ _ us hl => match us, hl with | [_, _], _ => rfl
theorem b_begin (T : Txt K mg Z) : Binds K Z.d_begin ["book", "keeps"] [] := T.F_begin.binds fun _ _ _ _ _ _ us hl => match us, hl with | [_, _], _ => rfl
theorem b_take_back (T : Txt K mg Z) : Binds K Z.d_take_back ["book"] [] := T.F_take_back.binds fun _ _ _ _ _ _ us hl => match us, hl with | [_], _ => rfl
theorem b_do_again (T : Txt K mg Z) : Binds K Z.d_do_again ["book"] [] := T.F_do_again.binds fun _ _ _ _ _ _ us hl => match us, hl with | [_], _ => rfl
theorem b_tell_state (T : Txt K mg Z) : Binds K Z.d_tell_state ["book"] [] := T.F_tell_state.binds fun _ _ _ _ _ _ us hl => match us, hl with | [_], _ => rfl
theorem b_Need_init (T : Txt K mg Z) : Binds K Z.d_Need_init ["self", "gold", "copper"] [] := T.F_Need_init.binds fun _ _ _ _ _ _ us hl => match us, hl with | [_, _, _], _ => rfl
theorem b_Need_together (T : Txt K mg Z) : Binds K Z.d_Need_together ["self"] [] := T.F_Need_together.binds fun _ _ _ _ _ _ us hl => match us, hl with | [_], _ => rfl
theorem b_Choice_init (T : Txt K mg Z) : Binds K Z.d_Choice_init ["self", "bits", "lots", "metal"] [] := T.F_Choice_init.binds fun _ _ _ _ _ _ us hl => match us, hl with | [_, _, _, _], _ => rfl
theorem b_Choice_and_lot (T : Txt K mg Z) : Binds K Z.d_Choice_and_lot ["self", "place", "metal"] [] := T.F_Choice_and_lot.binds fun _ _ _ _ _ _ us hl => match us, hl with | [_, _, _], _ => rfl
theorem b_Plan_init (T : Txt K mg Z) : Binds K Z.d_Plan_init ["self", "choice", "added"] [] := T.F_Plan_init.binds fun _ _ _ _ _ _ us hl => match us, hl with | [_, _, _], _ => rfl
theorem b_Plan_is_better_than (T : Txt K mg Z) : Binds K Z.d_Plan_is_better_than ["self", "other"] [] := T.F_Plan_is_better_than.binds fun _ _ _ _ _ _ us hl => match us, hl with | [_, _], _ => rfl
theorem b_gold_by_rest (T : Txt K mg Z) : Binds K Z.d_gold_by_rest ["fine"] [] := T.F_gold_by_rest.binds fun _ _ _ _ _ _ us hl => match us, hl with | [_], _ => rfl
theorem b_find_need (T : Txt K mg Z) : Binds K Z.d_find_need ["metal", "fine", "golds"] [] := T.F_find_need.binds fun _ _ _ _ _ _ us hl => match us, hl with | [_, _, _], _ => rfl
theorem b_all_choices (T : Txt K mg Z) : Binds K Z.d_all_choices ["pot", "lots"] [] := T.F_all_choices.binds fun _ _ _ _ _ _ us hl => match us, hl with | [_, _], _ => rfl
theorem b_find_plan (T : Txt K mg Z) : Binds K Z.d_find_plan ["pot", "lots", "fine", "least"] [] := T.F_find_plan.binds fun _ _ _ _ _ _ us hl => match us, hl with | [_, _, _, _], _ => rfl
theorem b_places_of (T : Txt K mg Z) : Binds K Z.d_places_of ["bits"] [] := T.F_places_of.binds fun _ _ _ _ _ _ us hl => match us, hl with | [_], _ => rfl
theorem b_melt (T : Txt K mg Z) : Binds K Z.d_melt ["mint", "bits"] [] := T.F_melt.binds fun _ _ _ _ _ _ us hl => match us, hl with | [_, _], _ => rfl
theorem b_add_metal (T : Txt K mg Z) : Binds K Z.d_add_metal ["mint", "gold", "copper"] [] := T.F_add_metal.binds fun _ _ _ _ _ _ us hl => match us, hl with | [_, _, _], _ => rfl
theorem b_tell_fits (T : Txt K mg Z) : Binds K Z.d_tell_fits ["mint", "k"] [] := T.F_tell_fits.binds fun _ _ _ _ _ _ us hl => match us, hl with | [_, _], _ => rfl
theorem b_tell_need (T : Txt K mg Z) : Binds K Z.d_tell_need ["mint", "k"] [] := T.F_tell_need.binds fun _ _ _ _ _ _ us hl => match us, hl with | [_, _], _ => rfl
theorem b_tell_plan (T : Txt K mg Z) : Binds K Z.d_tell_plan ["mint", "k", "least"] [] := T.F_tell_plan.binds fun _ _ _ _ _ _ us hl => match us, hl with | [_, _, _], _ => rfl
theorem b_pay (T : Txt K mg Z) : Binds K Z.d_pay ["mint", "p", "k", "n"] [] := T.F_pay.binds fun _ _ _ _ _ _ us hl => match us, hl with | [_, _, _, _], _ => rfl
theorem b_tell_credit (T : Txt K mg Z) : Binds K Z.d_tell_credit ["mint", "p"] [] := T.F_tell_credit.binds fun _ _ _ _ _ _ us hl => match us, hl with | [_, _], _ => rfl
theorem b_tell_stock (T : Txt K mg Z) : Binds K Z.d_tell_stock ["mint", "k"] [] := T.F_tell_stock.binds fun _ _ _ _ _ _ us hl => match us, hl with | [_, _], _ => rfl
theorem b_tell_off (T : Txt K mg Z) : Binds K Z.d_tell_off ["mint", "k"] [] := T.F_tell_off.binds fun _ _ _ _ _ _ us hl => match us, hl with | [_, _], _ => rfl
theorem b_can_be_struck (T : Txt K mg Z) : Binds K Z.d_can_be_struck ["pot", "kind", "die", "weight"] [] := T.F_can_be_struck.binds fun _ _ _ _ _ _ us hl => match us, hl with | [_, _, _, _], _ => rfl
theorem b_strike_blank (T : Txt K mg Z) : Binds K Z.d_strike_blank ["mint", "kind", "die", "weight"] [] := T.F_strike_blank.binds fun _ _ _ _ _ _ us hl => match us, hl with | [_, _, _, _], _ => rfl
theorem b_strike (T : Txt K mg Z) : Binds K Z.d_strike ["mint", "k", "number", "n", "weights"] [] := T.F_strike.binds fun _ _ _ _ _ _ us hl => match us, hl with | [_, _, _, _, _], _ => rfl
theorem b_tell_enough (T : Txt K mg Z) : Binds K Z.d_tell_enough ["mint", "k"] [] := T.F_tell_enough.binds fun _ _ _ _ _ _ us hl => match us, hl with | [_, _], _ => rfl
theorem b_box_passes (T : Txt K mg Z) : Binds K Z.d_box_passes ["kind"] [] := T.F_box_passes.binds fun _ _ _ _ _ _ us hl => match us, hl with | [_], _ => rfl
theorem b_try_box (T : Txt K mg Z) : Binds K Z.d_try_box ["mint", "k"] [] := T.F_try_box.binds fun _ _ _ _ _ _ us hl => match us, hl with | [_, _], _ => rfl
theorem b_put_box_in_stock (T : Txt K mg Z) : Binds K Z.d_put_box_in_stock ["mint", "k"] [] := T.F_put_box_in_stock.binds fun _ _ _ _ _ _ us hl => match us, hl with | [_, _], _ => rfl
theorem b_put_box_in_pot (T : Txt K mg Z) : Binds K Z.d_put_box_in_pot ["mint", "k"] [] := T.F_put_box_in_pot.binds fun _ _ _ _ _ _ us hl => match us, hl with | [_, _], _ => rfl
theorem b_tell_pot (T : Txt K mg Z) : Binds K Z.d_tell_pot ["mint"] [] := T.F_tell_pot.binds fun _ _ _ _ _ _ us hl => match us, hl with | [_], _ => rfl
theorem b_tell_lots (T : Txt K mg Z) : Binds K Z.d_tell_lots ["mint"] [] := T.F_tell_lots.binds fun _ _ _ _ _ _ us hl => match us, hl with | [_], _ => rfl
theorem b_tell_worn (T : Txt K mg Z) : Binds K Z.d_tell_worn ["mint"] [] := T.F_tell_worn.binds fun _ _ _ _ _ _ us hl => match us, hl with | [_], _ => rfl
theorem b_find_held (T : Txt K mg Z) : Binds K Z.d_find_held ["mint"] [] := T.F_find_held.binds fun _ _ _ _ _ _ us hl => match us, hl with | [_], _ => rfl
theorem b_tell_ledger (T : Txt K mg Z) : Binds K Z.d_tell_ledger ["mint"] [] := T.F_tell_ledger.binds fun _ _ _ _ _ _ us hl => match us, hl with | [_], _ => rfl
theorem b_tell_claims (T : Txt K mg Z) : Binds K Z.d_tell_claims ["mint"] [] := T.F_tell_claims.binds fun _ _ _ _ _ _ us hl => match us, hl with | [_], _ => rfl
theorem b_answers (T : Txt K mg Z) : Binds K Z.d_answers ["calls"] [] := T.F_answers.binds fun _ _ _ _ _ _ us hl => match us, hl with | [_], _ => rfl
theorem b_answer_call (T : Txt K mg Z) : Binds K Z.d_answer_call ["book", "call", "given"] [] := T.F_answer_call.binds fun _ _ _ _ _ _ us hl => match us, hl with | [_, _, _], _ => rfl
theorem b_make_change (T : Txt K mg Z) : Binds K Z.d_make_change ["book", "call", "given"] [] := T.F_make_change.binds fun _ _ _ _ _ _ us hl => match us, hl with | [_, _, _], _ => rfl
theorem b_answer_of_mint (T : Txt K mg Z) : Binds K Z.d_answer_of_mint ["mint", "call", "given"] [] := T.F_answer_of_mint.binds fun _ _ _ _ _ _ us hl => match us, hl with | [_, _, _], _ => rfl
theorem b_answer_bringing (T : Txt K mg Z) : Binds K Z.d_answer_bringing ["mint", "call", "given"] [] := T.F_answer_bringing.binds fun _ _ _ _ _ _ us hl => match us, hl with | [_, _, _], _ => rfl
theorem b_answer_melting (T : Txt K mg Z) : Binds K Z.d_answer_melting ["mint", "call", "given"] [] := T.F_answer_melting.binds fun _ _ _ _ _ _ us hl => match us, hl with | [_, _, _], _ => rfl
theorem b_answer_striking (T : Txt K mg Z) : Binds K Z.d_answer_striking ["mint", "call", "given"] [] := T.F_answer_striking.binds fun _ _ _ _ _ _ us hl => match us, hl with | [_, _, _], _ => rfl
theorem b_answer_paying (T : Txt K mg Z) : Binds K Z.d_answer_paying ["mint", "call", "given"] [] := T.F_answer_paying.binds fun _ _ _ _ _ _ us hl => match us, hl with | [_, _, _], _ => rfl
theorem b_answer_telling (T : Txt K mg Z) : Binds K Z.d_answer_telling ["mint", "call"] [] := T.F_answer_telling.binds fun _ _ _ _ _ _ us hl => match us, hl with | [_, _], _ => rfl
end
section
variable {X : Cx}
theorem pe_gint {x : Str} {i : Int} {pos : Pos} (hg : Gl X x) (h : ∃ t, X.mg x = some (.int i t)) (hd : (x == ("__debug__" : Str)) = false := by decide) : PE X (.Name x pos) (tC (.int i)) := by
  obtain ⟨t, h⟩ := h
  exact pe_glob hg h ⟨t, rfl⟩ hd
theorem pe_gtup {x : Str} {a : Addr} {pos : Pos} (hg : Gl X x) (h : X.mg x = some (.ref a)) (hd : (x == ("__debug__" : Str)) = false := by decide) : PE X (.Name x pos) (tC (.ref a)) := pe_glob hg h rfl hd
end
theorem boot_abs : bootBuiltins "abs" = some (.builtin "abs") := by decide +kernel
theorem boot_sum : bootBuiltins "sum" = some (.builtin "sum") := by decide +kernel
theorem boot_min : bootBuiltins "min" = some (.builtin "min") := by decide +kernel
theorem boot_max : bootBuiltins "max" = some (.builtin "max") := by decide +kernel
theorem boot_list : bootBuiltins "list" = some (.type "list") := by decide +kernel
end Mi


set_option Elab.async false
set_option linter.all false
set_option maxRecDepth 100000
set_option maxHeartbeats 4000000
namespace Mi
open PySem PySem.Spec PyProof.Rows L2
theorem lk0 {f : Str} {v : V} {r : List (Str × V)} : ((f, v) :: r).lookup f = some v := by
  show (match f == f with | true => some v | false => r.lookup f) = some v
  rw [beq_self_eq_true]
theorem lk1 {f g : Str} {w : V} {r : List (Str × V)} {o : Option V} (h : (f == g) = false) (e : r.lookup f = o) : ((g, w) :: r).lookup f = o := by
  show (match f == g with | true => some w | false => r.lookup f) = o
  rw [h]
  exact e
theorem pf0 {f : Str} {v x : V} {r : List (Str × V)} : putF f x ((f, v) :: r) = (f, x) :: r := by
  show (if f = f then (f, x) :: r else _) = _
  rw [if_pos rfl]
theorem pf1 {f g : Str} {w x : V} {r s : List (Str × V)} (h : ¬ g = f) (e : putF f x r = s) : putF f x ((g, w) :: r) = (g, w) :: s := by
  show (if g = f then _ else (g, w) :: putF f x r) = _
  rw [if_neg h, e]
section
variable {K : PySem.W.Frag} {mg : Str → Option Value} {Z : Adr} {H : Hp} {p dx : Addr}
theorem ne_added_brought : (("added" : Str) == "brought") = false := by decide +kernel
theorem ne_added_choice : (("added" : Str) == "choice") = false := by decide +kernel
theorem ne_added_credit : (("added" : Str) == "credit") = false := by decide +kernel
theorem ne_added_dies : (("added" : Str) == "dies") = false := by decide +kernel
theorem ne_added_keeps : (("added" : Str) == "keeps") = false := by decide +kernel
theorem ne_added_kept : (("added" : Str) == "kept") = false := by decide +kernel
theorem ne_added_kinds : (("added" : Str) == "kinds") = false := by decide +kernel
theorem ne_added_lessened : (("added" : Str) == "lessened") = false := by decide +kernel
theorem ne_added_lots : (("added" : Str) == "lots") = false := by decide +kernel
theorem nq_added_paid : ¬ ("added" : Str) = "paid" := by decide +kernel
theorem ne_added_pot : (("added" : Str) == "pot") = false := by decide +kernel
theorem ne_and_lot_bits : (("and_lot" : Str) == "bits") = false := by decide +kernel
theorem ne_and_lot_lots : (("and_lot" : Str) == "lots") = false := by decide +kernel
theorem ne_and_lot_metal : (("and_lot" : Str) == "metal") = false := by decide +kernel
theorem ne_another_alike_added : (("another_alike" : Str) == "added") = false := by decide +kernel
theorem ne_another_alike_box : (("another_alike" : Str) == "box") = false := by decide +kernel
theorem ne_another_alike_brought : (("another_alike" : Str) == "brought") = false := by decide +kernel
theorem ne_another_alike_credit : (("another_alike" : Str) == "credit") = false := by decide +kernel
theorem ne_another_alike_dies : (("another_alike" : Str) == "dies") = false := by decide +kernel
theorem ne_another_alike_fine : (("another_alike" : Str) == "fine") = false := by decide +kernel
theorem ne_another_alike_grains : (("another_alike" : Str) == "grains") = false := by decide +kernel
theorem ne_another_alike_keeps : (("another_alike" : Str) == "keeps") = false := by decide +kernel
theorem ne_another_alike_kept : (("another_alike" : Str) == "kept") = false := by decide +kernel
theorem ne_another_alike_kind : (("another_alike" : Str) == "kind") = false := by decide +kernel
theorem ne_another_alike_kinds : (("another_alike" : Str) == "kinds") = false := by decide +kernel
theorem ne_another_alike_left : (("another_alike" : Str) == "left") = false := by decide +kernel
theorem ne_another_alike_lessened : (("another_alike" : Str) == "lessened") = false := by decide +kernel
theorem ne_another_alike_lots : (("another_alike" : Str) == "lots") = false := by decide +kernel
theorem ne_another_alike_paid : (("another_alike" : Str) == "paid") = false := by decide +kernel
theorem ne_another_alike_pot : (("another_alike" : Str) == "pot") = false := by decide +kernel
theorem ne_another_alike_remedy : (("another_alike" : Str) == "remedy") = false := by decide +kernel
theorem ne_another_alike_stock : (("another_alike" : Str) == "stock") = false := by decide +kernel
theorem ne_another_alike_struck : (("another_alike" : Str) == "struck") = false := by decide +kernel
theorem nq_before_behind : ¬ ("before" : Str) = "behind" := by decide +kernel
theorem ne_before_mint : (("before" : Str) == "mint") = false := by decide +kernel
theorem ne_begin_anew_before : (("begin_anew" : Str) == "before") = false := by decide +kernel
theorem ne_begin_anew_behind : (("begin_anew" : Str) == "behind") = false := by decide +kernel
theorem ne_begin_anew_mint : (("begin_anew" : Str) == "mint") = false := by decide +kernel
theorem ne_behind_before : (("behind" : Str) == "before") = false := by decide +kernel
theorem ne_behind_mint : (("behind" : Str) == "mint") = false := by decide +kernel
theorem nq_bits_lots : ¬ ("bits" : Str) = "lots" := by decide +kernel
theorem nq_bits_metal : ¬ ("bits" : Str) = "metal" := by decide +kernel
theorem ne_box_fine : (("box" : Str) == "fine") = false := by decide +kernel
theorem ne_box_grains : (("box" : Str) == "grains") = false := by decide +kernel
theorem ne_box_remedy : (("box" : Str) == "remedy") = false := by decide +kernel
theorem ne_box_stock : (("box" : Str) == "stock") = false := by decide +kernel
theorem ne_box_struck : (("box" : Str) == "struck") = false := by decide +kernel
theorem nq_brought_added : ¬ ("brought" : Str) = "added" := by decide +kernel
theorem ne_brought_credit : (("brought" : Str) == "credit") = false := by decide +kernel
theorem ne_brought_dies : (("brought" : Str) == "dies") = false := by decide +kernel
theorem ne_brought_keeps : (("brought" : Str) == "keeps") = false := by decide +kernel
theorem ne_brought_kept : (("brought" : Str) == "kept") = false := by decide +kernel
theorem ne_brought_kinds : (("brought" : Str) == "kinds") = false := by decide +kernel
theorem ne_brought_lessened : (("brought" : Str) == "lessened") = false := by decide +kernel
theorem ne_brought_lots : (("brought" : Str) == "lots") = false := by decide +kernel
theorem nq_brought_paid : ¬ ("brought" : Str) = "paid" := by decide +kernel
theorem ne_brought_pot : (("brought" : Str) == "pot") = false := by decide +kernel
theorem ne_carats_grains : (("carats" : Str) == "grains") = false := by decide +kernel
theorem nq_choice_added : ¬ ("choice" : Str) = "added" := by decide +kernel
theorem ne_copper_gold : (("copper" : Str) == "gold") = false := by decide +kernel
theorem ne_count_lots_added : (("count_lots" : Str) == "added") = false := by decide +kernel
theorem ne_count_lots_brought : (("count_lots" : Str) == "brought") = false := by decide +kernel
theorem ne_count_lots_credit : (("count_lots" : Str) == "credit") = false := by decide +kernel
theorem ne_count_lots_dies : (("count_lots" : Str) == "dies") = false := by decide +kernel
theorem ne_count_lots_keeps : (("count_lots" : Str) == "keeps") = false := by decide +kernel
theorem ne_count_lots_kept : (("count_lots" : Str) == "kept") = false := by decide +kernel
theorem ne_count_lots_kinds : (("count_lots" : Str) == "kinds") = false := by decide +kernel
theorem ne_count_lots_lessened : (("count_lots" : Str) == "lessened") = false := by decide +kernel
theorem ne_count_lots_lots : (("count_lots" : Str) == "lots") = false := by decide +kernel
theorem ne_count_lots_paid : (("count_lots" : Str) == "paid") = false := by decide +kernel
theorem ne_count_lots_pot : (("count_lots" : Str) == "pot") = false := by decide +kernel
theorem nq_credit_added : ¬ ("credit" : Str) = "added" := by decide +kernel
theorem nq_credit_brought : ¬ ("credit" : Str) = "brought" := by decide +kernel
theorem ne_credit_dies : (("credit" : Str) == "dies") = false := by decide +kernel
theorem ne_credit_keeps : (("credit" : Str) == "keeps") = false := by decide +kernel
theorem nq_credit_kept : ¬ ("credit" : Str) = "kept" := by decide +kernel
theorem ne_credit_kinds : (("credit" : Str) == "kinds") = false := by decide +kernel
theorem nq_credit_lessened : ¬ ("credit" : Str) = "lessened" := by decide +kernel
theorem ne_credit_lots : (("credit" : Str) == "lots") = false := by decide +kernel
theorem nq_credit_paid : ¬ ("credit" : Str) = "paid" := by decide +kernel
theorem ne_credit_pot : (("credit" : Str) == "pot") = false := by decide +kernel
theorem nq_dies_added : ¬ ("dies" : Str) = "added" := by decide +kernel
theorem nq_dies_brought : ¬ ("dies" : Str) = "brought" := by decide +kernel
theorem nq_dies_credit : ¬ ("dies" : Str) = "credit" := by decide +kernel
theorem ne_dies_keeps : (("dies" : Str) == "keeps") = false := by decide +kernel
theorem nq_dies_kept : ¬ ("dies" : Str) = "kept" := by decide +kernel
theorem ne_dies_kinds : (("dies" : Str) == "kinds") = false := by decide +kernel
theorem nq_dies_lessened : ¬ ("dies" : Str) = "lessened" := by decide +kernel
theorem nq_dies_lots : ¬ ("dies" : Str) = "lots" := by decide +kernel
theorem nq_dies_paid : ¬ ("dies" : Str) = "paid" := by decide +kernel
theorem nq_dies_pot : ¬ ("dies" : Str) = "pot" := by decide +kernel
theorem nq_fine_box : ¬ ("fine" : Str) = "box" := by decide +kernel
theorem ne_fine_grains : (("fine" : Str) == "grains") = false := by decide +kernel
theorem nq_fine_remedy : ¬ ("fine" : Str) = "remedy" := by decide +kernel
theorem nq_fine_stock : ¬ ("fine" : Str) = "stock" := by decide +kernel
theorem nq_fine_struck : ¬ ("fine" : Str) = "struck" := by decide +kernel
theorem nq_gold_copper : ¬ ("gold" : Str) = "copper" := by decide +kernel
theorem nq_grains_box : ¬ ("grains" : Str) = "box" := by decide +kernel
theorem nq_grains_carats : ¬ ("grains" : Str) = "carats" := by decide +kernel
theorem nq_grains_fine : ¬ ("grains" : Str) = "fine" := by decide +kernel
theorem nq_grains_remedy : ¬ ("grains" : Str) = "remedy" := by decide +kernel
theorem nq_grains_stock : ¬ ("grains" : Str) = "stock" := by decide +kernel
theorem nq_grains_struck : ¬ ("grains" : Str) = "struck" := by decide +kernel
theorem ne_has_die_added : (("has_die" : Str) == "added") = false := by decide +kernel
theorem ne_has_die_brought : (("has_die" : Str) == "brought") = false := by decide +kernel
theorem ne_has_die_credit : (("has_die" : Str) == "credit") = false := by decide +kernel
theorem ne_has_die_dies : (("has_die" : Str) == "dies") = false := by decide +kernel
theorem ne_has_die_keeps : (("has_die" : Str) == "keeps") = false := by decide +kernel
theorem ne_has_die_kept : (("has_die" : Str) == "kept") = false := by decide +kernel
theorem ne_has_die_kinds : (("has_die" : Str) == "kinds") = false := by decide +kernel
theorem ne_has_die_lessened : (("has_die" : Str) == "lessened") = false := by decide +kernel
theorem ne_has_die_lots : (("has_die" : Str) == "lots") = false := by decide +kernel
theorem ne_has_die_paid : (("has_die" : Str) == "paid") = false := by decide +kernel
theorem ne_has_die_pot : (("has_die" : Str) == "pot") = false := by decide +kernel
theorem ne_has_kind_added : (("has_kind" : Str) == "added") = false := by decide +kernel
theorem ne_has_kind_brought : (("has_kind" : Str) == "brought") = false := by decide +kernel
theorem ne_has_kind_credit : (("has_kind" : Str) == "credit") = false := by decide +kernel
theorem ne_has_kind_dies : (("has_kind" : Str) == "dies") = false := by decide +kernel
theorem ne_has_kind_keeps : (("has_kind" : Str) == "keeps") = false := by decide +kernel
theorem ne_has_kind_kept : (("has_kind" : Str) == "kept") = false := by decide +kernel
theorem ne_has_kind_kinds : (("has_kind" : Str) == "kinds") = false := by decide +kernel
theorem ne_has_kind_lessened : (("has_kind" : Str) == "lessened") = false := by decide +kernel
theorem ne_has_kind_lots : (("has_kind" : Str) == "lots") = false := by decide +kernel
theorem ne_has_kind_paid : (("has_kind" : Str) == "paid") = false := by decide +kernel
theorem ne_has_kind_pot : (("has_kind" : Str) == "pot") = false := by decide +kernel
theorem ne_has_person_added : (("has_person" : Str) == "added") = false := by decide +kernel
theorem ne_has_person_brought : (("has_person" : Str) == "brought") = false := by decide +kernel
theorem ne_has_person_credit : (("has_person" : Str) == "credit") = false := by decide +kernel
theorem ne_has_person_dies : (("has_person" : Str) == "dies") = false := by decide +kernel
theorem ne_has_person_keeps : (("has_person" : Str) == "keeps") = false := by decide +kernel
theorem ne_has_person_kept : (("has_person" : Str) == "kept") = false := by decide +kernel
theorem ne_has_person_kinds : (("has_person" : Str) == "kinds") = false := by decide +kernel
theorem ne_has_person_lessened : (("has_person" : Str) == "lessened") = false := by decide +kernel
theorem ne_has_person_lots : (("has_person" : Str) == "lots") = false := by decide +kernel
theorem ne_has_person_paid : (("has_person" : Str) == "paid") = false := by decide +kernel
theorem ne_has_person_pot : (("has_person" : Str) == "pot") = false := by decide +kernel
theorem ne_is_as_fine_as_carats : (("is_as_fine_as" : Str) == "carats") = false := by decide +kernel
theorem ne_is_as_fine_as_grains : (("is_as_fine_as" : Str) == "grains") = false := by decide +kernel
theorem ne_is_better_than_added : (("is_better_than" : Str) == "added") = false := by decide +kernel
theorem ne_is_better_than_choice : (("is_better_than" : Str) == "choice") = false := by decide +kernel
theorem ne_is_none_carats : (("is_none" : Str) == "carats") = false := by decide +kernel
theorem ne_is_none_grains : (("is_none" : Str) == "grains") = false := by decide +kernel
theorem nq_keeps_added : ¬ ("keeps" : Str) = "added" := by decide +kernel
theorem nq_keeps_brought : ¬ ("keeps" : Str) = "brought" := by decide +kernel
theorem nq_keeps_credit : ¬ ("keeps" : Str) = "credit" := by decide +kernel
theorem nq_keeps_dies : ¬ ("keeps" : Str) = "dies" := by decide +kernel
theorem nq_keeps_kept : ¬ ("keeps" : Str) = "kept" := by decide +kernel
theorem nq_keeps_kinds : ¬ ("keeps" : Str) = "kinds" := by decide +kernel
theorem nq_keeps_lessened : ¬ ("keeps" : Str) = "lessened" := by decide +kernel
theorem nq_keeps_lots : ¬ ("keeps" : Str) = "lots" := by decide +kernel
theorem nq_keeps_paid : ¬ ("keeps" : Str) = "paid" := by decide +kernel
theorem nq_keeps_pot : ¬ ("keeps" : Str) = "pot" := by decide +kernel
theorem nq_kept_added : ¬ ("kept" : Str) = "added" := by decide +kernel
theorem nq_kept_brought : ¬ ("kept" : Str) = "brought" := by decide +kernel
theorem ne_kept_credit : (("kept" : Str) == "credit") = false := by decide +kernel
theorem ne_kept_dies : (("kept" : Str) == "dies") = false := by decide +kernel
theorem ne_kept_keeps : (("kept" : Str) == "keeps") = false := by decide +kernel
theorem ne_kept_kinds : (("kept" : Str) == "kinds") = false := by decide +kernel
theorem nq_kept_lessened : ¬ ("kept" : Str) = "lessened" := by decide +kernel
theorem ne_kept_lots : (("kept" : Str) == "lots") = false := by decide +kernel
theorem nq_kept_paid : ¬ ("kept" : Str) = "paid" := by decide +kernel
theorem ne_kept_pot : (("kept" : Str) == "pot") = false := by decide +kernel
theorem nq_kind_left : ¬ ("kind" : Str) = "left" := by decide +kernel
theorem nq_kinds_added : ¬ ("kinds" : Str) = "added" := by decide +kernel
theorem nq_kinds_brought : ¬ ("kinds" : Str) = "brought" := by decide +kernel
theorem nq_kinds_credit : ¬ ("kinds" : Str) = "credit" := by decide +kernel
theorem nq_kinds_dies : ¬ ("kinds" : Str) = "dies" := by decide +kernel
theorem ne_kinds_keeps : (("kinds" : Str) == "keeps") = false := by decide +kernel
theorem nq_kinds_kept : ¬ ("kinds" : Str) = "kept" := by decide +kernel
theorem nq_kinds_lessened : ¬ ("kinds" : Str) = "lessened" := by decide +kernel
theorem nq_kinds_lots : ¬ ("kinds" : Str) = "lots" := by decide +kernel
theorem nq_kinds_paid : ¬ ("kinds" : Str) = "paid" := by decide +kernel
theorem nq_kinds_pot : ¬ ("kinds" : Str) = "pot" := by decide +kernel
theorem ne_left_kind : (("left" : Str) == "kind") = false := by decide +kernel
theorem ne_less_carats : (("less" : Str) == "carats") = false := by decide +kernel
theorem ne_less_grains : (("less" : Str) == "grains") = false := by decide +kernel
theorem nq_lessened_added : ¬ ("lessened" : Str) = "added" := by decide +kernel
theorem nq_lessened_brought : ¬ ("lessened" : Str) = "brought" := by decide +kernel
theorem ne_lessened_credit : (("lessened" : Str) == "credit") = false := by decide +kernel
theorem ne_lessened_dies : (("lessened" : Str) == "dies") = false := by decide +kernel
theorem ne_lessened_keeps : (("lessened" : Str) == "keeps") = false := by decide +kernel
theorem ne_lessened_kept : (("lessened" : Str) == "kept") = false := by decide +kernel
theorem ne_lessened_kinds : (("lessened" : Str) == "kinds") = false := by decide +kernel
theorem ne_lessened_lots : (("lessened" : Str) == "lots") = false := by decide +kernel
theorem nq_lessened_paid : ¬ ("lessened" : Str) = "paid" := by decide +kernel
theorem ne_lessened_pot : (("lessened" : Str) == "pot") = false := by decide +kernel
theorem nq_lots_added : ¬ ("lots" : Str) = "added" := by decide +kernel
theorem ne_lots_bits : (("lots" : Str) == "bits") = false := by decide +kernel
theorem nq_lots_brought : ¬ ("lots" : Str) = "brought" := by decide +kernel
theorem nq_lots_credit : ¬ ("lots" : Str) = "credit" := by decide +kernel
theorem ne_lots_dies : (("lots" : Str) == "dies") = false := by decide +kernel
theorem ne_lots_keeps : (("lots" : Str) == "keeps") = false := by decide +kernel
theorem nq_lots_kept : ¬ ("lots" : Str) = "kept" := by decide +kernel
theorem ne_lots_kinds : (("lots" : Str) == "kinds") = false := by decide +kernel
theorem nq_lots_lessened : ¬ ("lots" : Str) = "lessened" := by decide +kernel
theorem nq_lots_metal : ¬ ("lots" : Str) = "metal" := by decide +kernel
theorem nq_lots_paid : ¬ ("lots" : Str) = "paid" := by decide +kernel
theorem nq_lots_pot : ¬ ("lots" : Str) = "pot" := by decide +kernel
theorem ne_metal_bits : (("metal" : Str) == "bits") = false := by decide +kernel
theorem ne_metal_lots : (("metal" : Str) == "lots") = false := by decide +kernel
theorem ne_metal_of_box : (("metal_of" : Str) == "box") = false := by decide +kernel
theorem ne_metal_of_fine : (("metal_of" : Str) == "fine") = false := by decide +kernel
theorem ne_metal_of_grains : (("metal_of" : Str) == "grains") = false := by decide +kernel
theorem ne_metal_of_remedy : (("metal_of" : Str) == "remedy") = false := by decide +kernel
theorem ne_metal_of_stock : (("metal_of" : Str) == "stock") = false := by decide +kernel
theorem ne_metal_of_struck : (("metal_of" : Str) == "struck") = false := by decide +kernel
theorem nq_mint_before : ¬ ("mint" : Str) = "before" := by decide +kernel
theorem nq_mint_behind : ¬ ("mint" : Str) = "behind" := by decide +kernel
theorem ne_paid_added : (("paid" : Str) == "added") = false := by decide +kernel
theorem ne_paid_brought : (("paid" : Str) == "brought") = false := by decide +kernel
theorem ne_paid_credit : (("paid" : Str) == "credit") = false := by decide +kernel
theorem ne_paid_dies : (("paid" : Str) == "dies") = false := by decide +kernel
theorem ne_paid_keeps : (("paid" : Str) == "keeps") = false := by decide +kernel
theorem ne_paid_kept : (("paid" : Str) == "kept") = false := by decide +kernel
theorem ne_paid_kinds : (("paid" : Str) == "kinds") = false := by decide +kernel
theorem ne_paid_lessened : (("paid" : Str) == "lessened") = false := by decide +kernel
theorem ne_paid_lots : (("paid" : Str) == "lots") = false := by decide +kernel
theorem ne_paid_pot : (("paid" : Str) == "pot") = false := by decide +kernel
theorem nq_pot_added : ¬ ("pot" : Str) = "added" := by decide +kernel
theorem nq_pot_brought : ¬ ("pot" : Str) = "brought" := by decide +kernel
theorem nq_pot_credit : ¬ ("pot" : Str) = "credit" := by decide +kernel
theorem ne_pot_dies : (("pot" : Str) == "dies") = false := by decide +kernel
theorem ne_pot_keeps : (("pot" : Str) == "keeps") = false := by decide +kernel
theorem nq_pot_kept : ¬ ("pot" : Str) = "kept" := by decide +kernel
theorem ne_pot_kinds : (("pot" : Str) == "kinds") = false := by decide +kernel
theorem nq_pot_lessened : ¬ ("pot" : Str) = "lessened" := by decide +kernel
theorem ne_pot_lots : (("pot" : Str) == "lots") = false := by decide +kernel
theorem nq_pot_paid : ¬ ("pot" : Str) = "paid" := by decide +kernel
theorem nq_remedy_box : ¬ ("remedy" : Str) = "box" := by decide +kernel
theorem ne_remedy_fine : (("remedy" : Str) == "fine") = false := by decide +kernel
theorem ne_remedy_grains : (("remedy" : Str) == "grains") = false := by decide +kernel
theorem nq_remedy_stock : ¬ ("remedy" : Str) = "stock" := by decide +kernel
theorem nq_remedy_struck : ¬ ("remedy" : Str) = "struck" := by decide +kernel
theorem nq_stock_box : ¬ ("stock" : Str) = "box" := by decide +kernel
theorem ne_stock_fine : (("stock" : Str) == "fine") = false := by decide +kernel
theorem ne_stock_grains : (("stock" : Str) == "grains") = false := by decide +kernel
theorem ne_stock_remedy : (("stock" : Str) == "remedy") = false := by decide +kernel
theorem ne_stock_struck : (("stock" : Str) == "struck") = false := by decide +kernel
theorem nq_struck_box : ¬ ("struck" : Str) = "box" := by decide +kernel
theorem ne_struck_fine : (("struck" : Str) == "fine") = false := by decide +kernel
theorem ne_struck_grains : (("struck" : Str) == "grains") = false := by decide +kernel
theorem ne_struck_remedy : (("struck" : Str) == "remedy") = false := by decide +kernel
theorem nq_struck_stock : ¬ ("struck" : Str) = "stock" := by decide +kernel
theorem ne_together_copper : (("together" : Str) == "copper") = false := by decide +kernel
theorem ne_together_gold : (("together" : Str) == "gold") = false := by decide +kernel
theorem ne_together_with_carats : (("together_with" : Str) == "carats") = false := by decide +kernel
theorem ne_together_with_grains : (("together_with" : Str) == "grains") = false := by decide +kernel
theorem ne_turn_to_before : (("turn_to" : Str) == "before") = false := by decide +kernel
theorem ne_turn_to_behind : (("turn_to" : Str) == "behind") = false := by decide +kernel
theorem ne_turn_to_mint : (("turn_to" : Str) == "mint") = false := by decide +kernel
def fs_Metal (v0 v1 : V) : List (Str × V) := [("grains", v0), ("carats", v1)]
theorem lk_Metal_grains {v0 v1 : V} : (fs_Metal v0 v1).lookup ("grains" : Str) = some v0 := lk0
theorem rd_Metal_grains (T : Txt K mg Z) {v0 v1 : V} (h : H p = some (.ins Z.c_Metal dx (fs_Metal v0 v1))) {R : V → Prop} (k : R v0) : ∃ a C dx fs v, V.ref p = .ref a ∧ H a = some (.ins C dx fs) ∧ Cls K C ∧ NoAttr K C "grains" ∧ fs.lookup ("grains" : Str) = some v ∧ R v := ⟨p, _, dx, _, v0, rfl, h, T.cl_Metal, T.n_Metal_grains, lk_Metal_grains, k⟩
theorem lk_Metal_carats {v0 v1 : V} : (fs_Metal v0 v1).lookup ("carats" : Str) = some v1 := (lk1 ne_carats_grains lk0)
theorem rd_Metal_carats (T : Txt K mg Z) {v0 v1 : V} (h : H p = some (.ins Z.c_Metal dx (fs_Metal v0 v1))) {R : V → Prop} (k : R v1) : ∃ a C dx fs v, V.ref p = .ref a ∧ H a = some (.ins C dx fs) ∧ Cls K C ∧ NoAttr K C "carats" ∧ fs.lookup ("carats" : Str) = some v ∧ R v := ⟨p, _, dx, _, v1, rfl, h, T.cl_Metal, T.n_Metal_carats, lk_Metal_carats, k⟩
theorem no_Metal_is_none {v0 v1 : V} : (fs_Metal v0 v1).lookup ("is_none" : Str) = none := (lk1 ne_is_none_grains (lk1 ne_is_none_carats rfl))
theorem me_Metal_is_none {v0 v1 : V} (h : H p = some (.ins Z.c_Metal dx (fs_Metal v0 v1))) {R : Prop} (k : R) : ∃ a dx fs, V.ref p = .ref a ∧ H a = some (.ins Z.c_Metal dx fs) ∧ fs.lookup ("is_none" : Str) = none ∧ R := ⟨p, dx, _, rfl, h, no_Metal_is_none, k⟩
theorem no_Metal_is_as_fine_as {v0 v1 : V} : (fs_Metal v0 v1).lookup ("is_as_fine_as" : Str) = none := (lk1 ne_is_as_fine_as_grains (lk1 ne_is_as_fine_as_carats rfl))
theorem me_Metal_is_as_fine_as {v0 v1 : V} (h : H p = some (.ins Z.c_Metal dx (fs_Metal v0 v1))) {R : Prop} (k : R) : ∃ a dx fs, V.ref p = .ref a ∧ H a = some (.ins Z.c_Metal dx fs) ∧ fs.lookup ("is_as_fine_as" : Str) = none ∧ R := ⟨p, dx, _, rfl, h, no_Metal_is_as_fine_as, k⟩
theorem no_Metal_together_with {v0 v1 : V} : (fs_Metal v0 v1).lookup ("together_with" : Str) = none := (lk1 ne_together_with_grains (lk1 ne_together_with_carats rfl))
theorem me_Metal_together_with {v0 v1 : V} (h : H p = some (.ins Z.c_Metal dx (fs_Metal v0 v1))) {R : Prop} (k : R) : ∃ a dx fs, V.ref p = .ref a ∧ H a = some (.ins Z.c_Metal dx fs) ∧ fs.lookup ("together_with" : Str) = none ∧ R := ⟨p, dx, _, rfl, h, no_Metal_together_with, k⟩
theorem no_Metal_less {v0 v1 : V} : (fs_Metal v0 v1).lookup ("less" : Str) = none := (lk1 ne_less_grains (lk1 ne_less_carats rfl))
theorem me_Metal_less {v0 v1 : V} (h : H p = some (.ins Z.c_Metal dx (fs_Metal v0 v1))) {R : Prop} (k : R) : ∃ a dx fs, V.ref p = .ref a ∧ H a = some (.ins Z.c_Metal dx fs) ∧ fs.lookup ("less" : Str) = none ∧ R := ⟨p, dx, _, rfl, h, no_Metal_less, k⟩
def fs_Kind (v0 v1 v2 v3 v4 v5 : V) : List (Str × V) := [("grains", v0), ("fine", v1), ("remedy", v2), ("struck", v3), ("stock", v4), ("box", v5)]
theorem lk_Kind_grains {v0 v1 v2 v3 v4 v5 : V} : (fs_Kind v0 v1 v2 v3 v4 v5).lookup ("grains" : Str) = some v0 := lk0
theorem rd_Kind_grains (T : Txt K mg Z) {v0 v1 v2 v3 v4 v5 : V} (h : H p = some (.ins Z.c_Kind dx (fs_Kind v0 v1 v2 v3 v4 v5))) {R : V → Prop} (k : R v0) : ∃ a C dx fs v, V.ref p = .ref a ∧ H a = some (.ins C dx fs) ∧ Cls K C ∧ NoAttr K C "grains" ∧ fs.lookup ("grains" : Str) = some v ∧ R v := ⟨p, _, dx, _, v0, rfl, h, T.cl_Kind, T.n_Kind_grains, lk_Kind_grains, k⟩
theorem lk_Kind_fine {v0 v1 v2 v3 v4 v5 : V} : (fs_Kind v0 v1 v2 v3 v4 v5).lookup ("fine" : Str) = some v1 := (lk1 ne_fine_grains lk0)
theorem rd_Kind_fine (T : Txt K mg Z) {v0 v1 v2 v3 v4 v5 : V} (h : H p = some (.ins Z.c_Kind dx (fs_Kind v0 v1 v2 v3 v4 v5))) {R : V → Prop} (k : R v1) : ∃ a C dx fs v, V.ref p = .ref a ∧ H a = some (.ins C dx fs) ∧ Cls K C ∧ NoAttr K C "fine" ∧ fs.lookup ("fine" : Str) = some v ∧ R v := ⟨p, _, dx, _, v1, rfl, h, T.cl_Kind, T.n_Kind_fine, lk_Kind_fine, k⟩
theorem lk_Kind_remedy {v0 v1 v2 v3 v4 v5 : V} : (fs_Kind v0 v1 v2 v3 v4 v5).lookup ("remedy" : Str) = some v2 := (lk1 ne_remedy_grains (lk1 ne_remedy_fine lk0))
theorem rd_Kind_remedy (T : Txt K mg Z) {v0 v1 v2 v3 v4 v5 : V} (h : H p = some (.ins Z.c_Kind dx (fs_Kind v0 v1 v2 v3 v4 v5))) {R : V → Prop} (k : R v2) : ∃ a C dx fs v, V.ref p = .ref a ∧ H a = some (.ins C dx fs) ∧ Cls K C ∧ NoAttr K C "remedy" ∧ fs.lookup ("remedy" : Str) = some v ∧ R v := ⟨p, _, dx, _, v2, rfl, h, T.cl_Kind, T.n_Kind_remedy, lk_Kind_remedy, k⟩
theorem lk_Kind_struck {v0 v1 v2 v3 v4 v5 : V} : (fs_Kind v0 v1 v2 v3 v4 v5).lookup ("struck" : Str) = some v3 := (lk1 ne_struck_grains (lk1 ne_struck_fine (lk1 ne_struck_remedy lk0)))
theorem pu_Kind_struck {v0 v1 v2 v3 v4 v5 x : V} : putF "struck" x (fs_Kind v0 v1 v2 v3 v4 v5) = fs_Kind v0 v1 v2 x v4 v5 := (pf1 nq_grains_struck (pf1 nq_fine_struck (pf1 nq_remedy_struck pf0)))
theorem rd_Kind_struck (T : Txt K mg Z) {v0 v1 v2 v3 v4 v5 : V} (h : H p = some (.ins Z.c_Kind dx (fs_Kind v0 v1 v2 v3 v4 v5))) {R : V → Prop} (k : R v3) : ∃ a C dx fs v, V.ref p = .ref a ∧ H a = some (.ins C dx fs) ∧ Cls K C ∧ NoAttr K C "struck" ∧ fs.lookup ("struck" : Str) = some v ∧ R v := ⟨p, _, dx, _, v3, rfl, h, T.cl_Kind, T.n_Kind_struck, lk_Kind_struck, k⟩
theorem wr_Kind_struck (T : Txt K mg Z) {v0 v1 v2 v3 v4 v5 : V} (h : H p = some (.ins Z.c_Kind dx (fs_Kind v0 v1 v2 v3 v4 v5))) {x : V} {N : Hp → Prop} (k : N (upd H p (.ins Z.c_Kind dx (fs_Kind v0 v1 v2 x v4 v5)))) : ∃ a C dx fs, V.ref p = .ref a ∧ H a = some (.ins C dx fs) ∧ Cls K C ∧ NoAttr K C "struck" ∧ fs.length < 1000 ∧ N (upd H a (.ins C dx (putF "struck" x fs))) := ⟨p, _, dx, _, rfl, h, T.cl_Kind, T.n_Kind_struck, (by show 6 < 1000; decide), by rw [pu_Kind_struck]; exact k⟩
theorem lk_Kind_stock {v0 v1 v2 v3 v4 v5 : V} : (fs_Kind v0 v1 v2 v3 v4 v5).lookup ("stock" : Str) = some v4 := (lk1 ne_stock_grains (lk1 ne_stock_fine (lk1 ne_stock_remedy (lk1 ne_stock_struck lk0))))
theorem pu_Kind_stock {v0 v1 v2 v3 v4 v5 x : V} : putF "stock" x (fs_Kind v0 v1 v2 v3 v4 v5) = fs_Kind v0 v1 v2 v3 x v5 := (pf1 nq_grains_stock (pf1 nq_fine_stock (pf1 nq_remedy_stock (pf1 nq_struck_stock pf0))))
theorem rd_Kind_stock (T : Txt K mg Z) {v0 v1 v2 v3 v4 v5 : V} (h : H p = some (.ins Z.c_Kind dx (fs_Kind v0 v1 v2 v3 v4 v5))) {R : V → Prop} (k : R v4) : ∃ a C dx fs v, V.ref p = .ref a ∧ H a = some (.ins C dx fs) ∧ Cls K C ∧ NoAttr K C "stock" ∧ fs.lookup ("stock" : Str) = some v ∧ R v := ⟨p, _, dx, _, v4, rfl, h, T.cl_Kind, T.n_Kind_stock, lk_Kind_stock, k⟩
theorem wr_Kind_stock (T : Txt K mg Z) {v0 v1 v2 v3 v4 v5 : V} (h : H p = some (.ins Z.c_Kind dx (fs_Kind v0 v1 v2 v3 v4 v5))) {x : V} {N : Hp → Prop} (k : N (upd H p (.ins Z.c_Kind dx (fs_Kind v0 v1 v2 v3 x v5)))) : ∃ a C dx fs, V.ref p = .ref a ∧ H a = some (.ins C dx fs) ∧ Cls K C ∧ NoAttr K C "stock" ∧ fs.length < 1000 ∧ N (upd H a (.ins C dx (putF "stock" x fs))) := ⟨p, _, dx, _, rfl, h, T.cl_Kind, T.n_Kind_stock, (by show 6 < 1000; decide), by rw [pu_Kind_stock]; exact k⟩
theorem lk_Kind_box {v0 v1 v2 v3 v4 v5 : V} : (fs_Kind v0 v1 v2 v3 v4 v5).lookup ("box" : Str) = some v5 := (lk1 ne_box_grains (lk1 ne_box_fine (lk1 ne_box_remedy (lk1 ne_box_struck (lk1 ne_box_stock lk0)))))
theorem pu_Kind_box {v0 v1 v2 v3 v4 v5 x : V} : putF "box" x (fs_Kind v0 v1 v2 v3 v4 v5) = fs_Kind v0 v1 v2 v3 v4 x := (pf1 nq_grains_box (pf1 nq_fine_box (pf1 nq_remedy_box (pf1 nq_struck_box (pf1 nq_stock_box pf0)))))
theorem rd_Kind_box (T : Txt K mg Z) {v0 v1 v2 v3 v4 v5 : V} (h : H p = some (.ins Z.c_Kind dx (fs_Kind v0 v1 v2 v3 v4 v5))) {R : V → Prop} (k : R v5) : ∃ a C dx fs v, V.ref p = .ref a ∧ H a = some (.ins C dx fs) ∧ Cls K C ∧ NoAttr K C "box" ∧ fs.lookup ("box" : Str) = some v ∧ R v := ⟨p, _, dx, _, v5, rfl, h, T.cl_Kind, T.n_Kind_box, lk_Kind_box, k⟩
theorem wr_Kind_box (T : Txt K mg Z) {v0 v1 v2 v3 v4 v5 : V} (h : H p = some (.ins Z.c_Kind dx (fs_Kind v0 v1 v2 v3 v4 v5))) {x : V} {N : Hp → Prop} (k : N (upd H p (.ins Z.c_Kind dx (fs_Kind v0 v1 v2 v3 v4 x)))) : ∃ a C dx fs, V.ref p = .ref a ∧ H a = some (.ins C dx fs) ∧ Cls K C ∧ NoAttr K C "box" ∧ fs.length < 1000 ∧ N (upd H a (.ins C dx (putF "box" x fs))) := ⟨p, _, dx, _, rfl, h, T.cl_Kind, T.n_Kind_box, (by show 6 < 1000; decide), by rw [pu_Kind_box]; exact k⟩
theorem no_Kind_metal_of {v0 v1 v2 v3 v4 v5 : V} : (fs_Kind v0 v1 v2 v3 v4 v5).lookup ("metal_of" : Str) = none := (lk1 ne_metal_of_grains (lk1 ne_metal_of_fine (lk1 ne_metal_of_remedy (lk1 ne_metal_of_struck (lk1 ne_metal_of_stock (lk1 ne_metal_of_box rfl))))))
theorem me_Kind_metal_of {v0 v1 v2 v3 v4 v5 : V} (h : H p = some (.ins Z.c_Kind dx (fs_Kind v0 v1 v2 v3 v4 v5))) {R : Prop} (k : R) : ∃ a dx fs, V.ref p = .ref a ∧ H a = some (.ins Z.c_Kind dx fs) ∧ fs.lookup ("metal_of" : Str) = none ∧ R := ⟨p, dx, _, rfl, h, no_Kind_metal_of, k⟩
theorem no_Kind_another_alike {v0 v1 v2 v3 v4 v5 : V} : (fs_Kind v0 v1 v2 v3 v4 v5).lookup ("another_alike" : Str) = none := (lk1 ne_another_alike_grains (lk1 ne_another_alike_fine (lk1 ne_another_alike_remedy (lk1 ne_another_alike_struck (lk1 ne_another_alike_stock (lk1 ne_another_alike_box rfl))))))
theorem me_Kind_another_alike {v0 v1 v2 v3 v4 v5 : V} (h : H p = some (.ins Z.c_Kind dx (fs_Kind v0 v1 v2 v3 v4 v5))) {R : Prop} (k : R) : ∃ a dx fs, V.ref p = .ref a ∧ H a = some (.ins Z.c_Kind dx fs) ∧ fs.lookup ("another_alike" : Str) = none ∧ R := ⟨p, dx, _, rfl, h, no_Kind_another_alike, k⟩
def fs_Die (v0 v1 : V) : List (Str × V) := [("kind", v0), ("left", v1)]
theorem lk_Die_kind {v0 v1 : V} : (fs_Die v0 v1).lookup ("kind" : Str) = some v0 := lk0
theorem rd_Die_kind (T : Txt K mg Z) {v0 v1 : V} (h : H p = some (.ins Z.c_Die dx (fs_Die v0 v1))) {R : V → Prop} (k : R v0) : ∃ a C dx fs v, V.ref p = .ref a ∧ H a = some (.ins C dx fs) ∧ Cls K C ∧ NoAttr K C "kind" ∧ fs.lookup ("kind" : Str) = some v ∧ R v := ⟨p, _, dx, _, v0, rfl, h, T.cl_Die, T.n_Die_kind, lk_Die_kind, k⟩
theorem lk_Die_left {v0 v1 : V} : (fs_Die v0 v1).lookup ("left" : Str) = some v1 := (lk1 ne_left_kind lk0)
theorem pu_Die_left {v0 v1 x : V} : putF "left" x (fs_Die v0 v1) = fs_Die v0 x := (pf1 nq_kind_left pf0)
theorem rd_Die_left (T : Txt K mg Z) {v0 v1 : V} (h : H p = some (.ins Z.c_Die dx (fs_Die v0 v1))) {R : V → Prop} (k : R v1) : ∃ a C dx fs v, V.ref p = .ref a ∧ H a = some (.ins C dx fs) ∧ Cls K C ∧ NoAttr K C "left" ∧ fs.lookup ("left" : Str) = some v ∧ R v := ⟨p, _, dx, _, v1, rfl, h, T.cl_Die, T.n_Die_left, lk_Die_left, k⟩
theorem wr_Die_left (T : Txt K mg Z) {v0 v1 : V} (h : H p = some (.ins Z.c_Die dx (fs_Die v0 v1))) {x : V} {N : Hp → Prop} (k : N (upd H p (.ins Z.c_Die dx (fs_Die v0 x)))) : ∃ a C dx fs, V.ref p = .ref a ∧ H a = some (.ins C dx fs) ∧ Cls K C ∧ NoAttr K C "left" ∧ fs.length < 1000 ∧ N (upd H a (.ins C dx (putF "left" x fs))) := ⟨p, _, dx, _, rfl, h, T.cl_Die, T.n_Die_left, (by show 2 < 1000; decide), by rw [pu_Die_left]; exact k⟩
theorem no_Die_another_alike {v0 v1 : V} : (fs_Die v0 v1).lookup ("another_alike" : Str) = none := (lk1 ne_another_alike_kind (lk1 ne_another_alike_left rfl))
theorem me_Die_another_alike {v0 v1 : V} (h : H p = some (.ins Z.c_Die dx (fs_Die v0 v1))) {R : Prop} (k : R) : ∃ a dx fs, V.ref p = .ref a ∧ H a = some (.ins Z.c_Die dx fs) ∧ fs.lookup ("another_alike" : Str) = none ∧ R := ⟨p, dx, _, rfl, h, no_Die_another_alike, k⟩
def fs_Mint (v0 v1 v2 v3 v4 v5 v6 v7 v8 v9 v10 : V) : List (Str × V) := [("keeps", v0), ("kinds", v1), ("dies", v2), ("lots", v3), ("pot", v4), ("credit", v5), ("kept", v6), ("lessened", v7), ("brought", v8), ("added", v9), ("paid", v10)]
theorem lk_Mint_keeps {v0 v1 v2 v3 v4 v5 v6 v7 v8 v9 v10 : V} : (fs_Mint v0 v1 v2 v3 v4 v5 v6 v7 v8 v9 v10).lookup ("keeps" : Str) = some v0 := lk0
theorem rd_Mint_keeps (T : Txt K mg Z) {v0 v1 v2 v3 v4 v5 v6 v7 v8 v9 v10 : V} (h : H p = some (.ins Z.c_Mint dx (fs_Mint v0 v1 v2 v3 v4 v5 v6 v7 v8 v9 v10))) {R : V → Prop} (k : R v0) : ∃ a C dx fs v, V.ref p = .ref a ∧ H a = some (.ins C dx fs) ∧ Cls K C ∧ NoAttr K C "keeps" ∧ fs.lookup ("keeps" : Str) = some v ∧ R v := ⟨p, _, dx, _, v0, rfl, h, T.cl_Mint, T.n_Mint_keeps, lk_Mint_keeps, k⟩
theorem lk_Mint_kinds {v0 v1 v2 v3 v4 v5 v6 v7 v8 v9 v10 : V} : (fs_Mint v0 v1 v2 v3 v4 v5 v6 v7 v8 v9 v10).lookup ("kinds" : Str) = some v1 := (lk1 ne_kinds_keeps lk0)
theorem pu_Mint_kinds {v0 v1 v2 v3 v4 v5 v6 v7 v8 v9 v10 x : V} : putF "kinds" x (fs_Mint v0 v1 v2 v3 v4 v5 v6 v7 v8 v9 v10) = fs_Mint v0 x v2 v3 v4 v5 v6 v7 v8 v9 v10 := (pf1 nq_keeps_kinds pf0)
theorem rd_Mint_kinds (T : Txt K mg Z) {v0 v1 v2 v3 v4 v5 v6 v7 v8 v9 v10 : V} (h : H p = some (.ins Z.c_Mint dx (fs_Mint v0 v1 v2 v3 v4 v5 v6 v7 v8 v9 v10))) {R : V → Prop} (k : R v1) : ∃ a C dx fs v, V.ref p = .ref a ∧ H a = some (.ins C dx fs) ∧ Cls K C ∧ NoAttr K C "kinds" ∧ fs.lookup ("kinds" : Str) = some v ∧ R v := ⟨p, _, dx, _, v1, rfl, h, T.cl_Mint, T.n_Mint_kinds, lk_Mint_kinds, k⟩
theorem wr_Mint_kinds (T : Txt K mg Z) {v0 v1 v2 v3 v4 v5 v6 v7 v8 v9 v10 : V} (h : H p = some (.ins Z.c_Mint dx (fs_Mint v0 v1 v2 v3 v4 v5 v6 v7 v8 v9 v10))) {x : V} {N : Hp → Prop} (k : N (upd H p (.ins Z.c_Mint dx (fs_Mint v0 x v2 v3 v4 v5 v6 v7 v8 v9 v10)))) : ∃ a C dx fs, V.ref p = .ref a ∧ H a = some (.ins C dx fs) ∧ Cls K C ∧ NoAttr K C "kinds" ∧ fs.length < 1000 ∧ N (upd H a (.ins C dx (putF "kinds" x fs))) := ⟨p, _, dx, _, rfl, h, T.cl_Mint, T.n_Mint_kinds, (by show 11 < 1000; decide), by rw [pu_Mint_kinds]; exact k⟩
theorem lk_Mint_dies {v0 v1 v2 v3 v4 v5 v6 v7 v8 v9 v10 : V} : (fs_Mint v0 v1 v2 v3 v4 v5 v6 v7 v8 v9 v10).lookup ("dies" : Str) = some v2 := (lk1 ne_dies_keeps (lk1 ne_dies_kinds lk0))
theorem pu_Mint_dies {v0 v1 v2 v3 v4 v5 v6 v7 v8 v9 v10 x : V} : putF "dies" x (fs_Mint v0 v1 v2 v3 v4 v5 v6 v7 v8 v9 v10) = fs_Mint v0 v1 x v3 v4 v5 v6 v7 v8 v9 v10 := (pf1 nq_keeps_dies (pf1 nq_kinds_dies pf0))
theorem rd_Mint_dies (T : Txt K mg Z) {v0 v1 v2 v3 v4 v5 v6 v7 v8 v9 v10 : V} (h : H p = some (.ins Z.c_Mint dx (fs_Mint v0 v1 v2 v3 v4 v5 v6 v7 v8 v9 v10))) {R : V → Prop} (k : R v2) : ∃ a C dx fs v, V.ref p = .ref a ∧ H a = some (.ins C dx fs) ∧ Cls K C ∧ NoAttr K C "dies" ∧ fs.lookup ("dies" : Str) = some v ∧ R v := ⟨p, _, dx, _, v2, rfl, h, T.cl_Mint, T.n_Mint_dies, lk_Mint_dies, k⟩
theorem wr_Mint_dies (T : Txt K mg Z) {v0 v1 v2 v3 v4 v5 v6 v7 v8 v9 v10 : V} (h : H p = some (.ins Z.c_Mint dx (fs_Mint v0 v1 v2 v3 v4 v5 v6 v7 v8 v9 v10))) {x : V} {N : Hp → Prop} (k : N (upd H p (.ins Z.c_Mint dx (fs_Mint v0 v1 x v3 v4 v5 v6 v7 v8 v9 v10)))) : ∃ a C dx fs, V.ref p = .ref a ∧ H a = some (.ins C dx fs) ∧ Cls K C ∧ NoAttr K C "dies" ∧ fs.length < 1000 ∧ N (upd H a (.ins C dx (putF "dies" x fs))) := ⟨p, _, dx, _, rfl, h, T.cl_Mint, T.n_Mint_dies, (by show 11 < 1000; decide), by rw [pu_Mint_dies]; exact k⟩
theorem lk_Mint_lots {v0 v1 v2 v3 v4 v5 v6 v7 v8 v9 v10 : V} : (fs_Mint v0 v1 v2 v3 v4 v5 v6 v7 v8 v9 v10).lookup ("lots" : Str) = some v3 := (lk1 ne_lots_keeps (lk1 ne_lots_kinds (lk1 ne_lots_dies lk0)))
theorem pu_Mint_lots {v0 v1 v2 v3 v4 v5 v6 v7 v8 v9 v10 x : V} : putF "lots" x (fs_Mint v0 v1 v2 v3 v4 v5 v6 v7 v8 v9 v10) = fs_Mint v0 v1 v2 x v4 v5 v6 v7 v8 v9 v10 := (pf1 nq_keeps_lots (pf1 nq_kinds_lots (pf1 nq_dies_lots pf0)))
theorem rd_Mint_lots (T : Txt K mg Z) {v0 v1 v2 v3 v4 v5 v6 v7 v8 v9 v10 : V} (h : H p = some (.ins Z.c_Mint dx (fs_Mint v0 v1 v2 v3 v4 v5 v6 v7 v8 v9 v10))) {R : V → Prop} (k : R v3) : ∃ a C dx fs v, V.ref p = .ref a ∧ H a = some (.ins C dx fs) ∧ Cls K C ∧ NoAttr K C "lots" ∧ fs.lookup ("lots" : Str) = some v ∧ R v := ⟨p, _, dx, _, v3, rfl, h, T.cl_Mint, T.n_Mint_lots, lk_Mint_lots, k⟩
theorem wr_Mint_lots (T : Txt K mg Z) {v0 v1 v2 v3 v4 v5 v6 v7 v8 v9 v10 : V} (h : H p = some (.ins Z.c_Mint dx (fs_Mint v0 v1 v2 v3 v4 v5 v6 v7 v8 v9 v10))) {x : V} {N : Hp → Prop} (k : N (upd H p (.ins Z.c_Mint dx (fs_Mint v0 v1 v2 x v4 v5 v6 v7 v8 v9 v10)))) : ∃ a C dx fs, V.ref p = .ref a ∧ H a = some (.ins C dx fs) ∧ Cls K C ∧ NoAttr K C "lots" ∧ fs.length < 1000 ∧ N (upd H a (.ins C dx (putF "lots" x fs))) := ⟨p, _, dx, _, rfl, h, T.cl_Mint, T.n_Mint_lots, (by show 11 < 1000; decide), by rw [pu_Mint_lots]; exact k⟩
theorem lk_Mint_pot {v0 v1 v2 v3 v4 v5 v6 v7 v8 v9 v10 : V} : (fs_Mint v0 v1 v2 v3 v4 v5 v6 v7 v8 v9 v10).lookup ("pot" : Str) = some v4 := (lk1 ne_pot_keeps (lk1 ne_pot_kinds (lk1 ne_pot_dies (lk1 ne_pot_lots lk0))))
theorem pu_Mint_pot {v0 v1 v2 v3 v4 v5 v6 v7 v8 v9 v10 x : V} : putF "pot" x (fs_Mint v0 v1 v2 v3 v4 v5 v6 v7 v8 v9 v10) = fs_Mint v0 v1 v2 v3 x v5 v6 v7 v8 v9 v10 := (pf1 nq_keeps_pot (pf1 nq_kinds_pot (pf1 nq_dies_pot (pf1 nq_lots_pot pf0))))
theorem rd_Mint_pot (T : Txt K mg Z) {v0 v1 v2 v3 v4 v5 v6 v7 v8 v9 v10 : V} (h : H p = some (.ins Z.c_Mint dx (fs_Mint v0 v1 v2 v3 v4 v5 v6 v7 v8 v9 v10))) {R : V → Prop} (k : R v4) : ∃ a C dx fs v, V.ref p = .ref a ∧ H a = some (.ins C dx fs) ∧ Cls K C ∧ NoAttr K C "pot" ∧ fs.lookup ("pot" : Str) = some v ∧ R v := ⟨p, _, dx, _, v4, rfl, h, T.cl_Mint, T.n_Mint_pot, lk_Mint_pot, k⟩
theorem wr_Mint_pot (T : Txt K mg Z) {v0 v1 v2 v3 v4 v5 v6 v7 v8 v9 v10 : V} (h : H p = some (.ins Z.c_Mint dx (fs_Mint v0 v1 v2 v3 v4 v5 v6 v7 v8 v9 v10))) {x : V} {N : Hp → Prop} (k : N (upd H p (.ins Z.c_Mint dx (fs_Mint v0 v1 v2 v3 x v5 v6 v7 v8 v9 v10)))) : ∃ a C dx fs, V.ref p = .ref a ∧ H a = some (.ins C dx fs) ∧ Cls K C ∧ NoAttr K C "pot" ∧ fs.length < 1000 ∧ N (upd H a (.ins C dx (putF "pot" x fs))) := ⟨p, _, dx, _, rfl, h, T.cl_Mint, T.n_Mint_pot, (by show 11 < 1000; decide), by rw [pu_Mint_pot]; exact k⟩
theorem lk_Mint_credit {v0 v1 v2 v3 v4 v5 v6 v7 v8 v9 v10 : V} : (fs_Mint v0 v1 v2 v3 v4 v5 v6 v7 v8 v9 v10).lookup ("credit" : Str) = some v5 := (lk1 ne_credit_keeps (lk1 ne_credit_kinds (lk1 ne_credit_dies (lk1 ne_credit_lots (lk1 ne_credit_pot lk0)))))
theorem pu_Mint_credit {v0 v1 v2 v3 v4 v5 v6 v7 v8 v9 v10 x : V} : putF "credit" x (fs_Mint v0 v1 v2 v3 v4 v5 v6 v7 v8 v9 v10) = fs_Mint v0 v1 v2 v3 v4 x v6 v7 v8 v9 v10 := (pf1 nq_keeps_credit (pf1 nq_kinds_credit (pf1 nq_dies_credit (pf1 nq_lots_credit (pf1 nq_pot_credit pf0)))))
theorem rd_Mint_credit (T : Txt K mg Z) {v0 v1 v2 v3 v4 v5 v6 v7 v8 v9 v10 : V} (h : H p = some (.ins Z.c_Mint dx (fs_Mint v0 v1 v2 v3 v4 v5 v6 v7 v8 v9 v10))) {R : V → Prop} (k : R v5) : ∃ a C dx fs v, V.ref p = .ref a ∧ H a = some (.ins C dx fs) ∧ Cls K C ∧ NoAttr K C "credit" ∧ fs.lookup ("credit" : Str) = some v ∧ R v := ⟨p, _, dx, _, v5, rfl, h, T.cl_Mint, T.n_Mint_credit, lk_Mint_credit, k⟩
theorem wr_Mint_credit (T : Txt K mg Z) {v0 v1 v2 v3 v4 v5 v6 v7 v8 v9 v10 : V} (h : H p = some (.ins Z.c_Mint dx (fs_Mint v0 v1 v2 v3 v4 v5 v6 v7 v8 v9 v10))) {x : V} {N : Hp → Prop} (k : N (upd H p (.ins Z.c_Mint dx (fs_Mint v0 v1 v2 v3 v4 x v6 v7 v8 v9 v10)))) : ∃ a C dx fs, V.ref p = .ref a ∧ H a = some (.ins C dx fs) ∧ Cls K C ∧ NoAttr K C "credit" ∧ fs.length < 1000 ∧ N (upd H a (.ins C dx (putF "credit" x fs))) := ⟨p, _, dx, _, rfl, h, T.cl_Mint, T.n_Mint_credit, (by show 11 < 1000; decide), by rw [pu_Mint_credit]; exact k⟩
theorem lk_Mint_kept {v0 v1 v2 v3 v4 v5 v6 v7 v8 v9 v10 : V} : (fs_Mint v0 v1 v2 v3 v4 v5 v6 v7 v8 v9 v10).lookup ("kept" : Str) = some v6 := (lk1 ne_kept_keeps (lk1 ne_kept_kinds (lk1 ne_kept_dies (lk1 ne_kept_lots (lk1 ne_kept_pot (lk1 ne_kept_credit lk0))))))
theorem pu_Mint_kept {v0 v1 v2 v3 v4 v5 v6 v7 v8 v9 v10 x : V} : putF "kept" x (fs_Mint v0 v1 v2 v3 v4 v5 v6 v7 v8 v9 v10) = fs_Mint v0 v1 v2 v3 v4 v5 x v7 v8 v9 v10 := (pf1 nq_keeps_kept (pf1 nq_kinds_kept (pf1 nq_dies_kept (pf1 nq_lots_kept (pf1 nq_pot_kept (pf1 nq_credit_kept pf0))))))
theorem rd_Mint_kept (T : Txt K mg Z) {v0 v1 v2 v3 v4 v5 v6 v7 v8 v9 v10 : V} (h : H p = some (.ins Z.c_Mint dx (fs_Mint v0 v1 v2 v3 v4 v5 v6 v7 v8 v9 v10))) {R : V → Prop} (k : R v6) : ∃ a C dx fs v, V.ref p = .ref a ∧ H a = some (.ins C dx fs) ∧ Cls K C ∧ NoAttr K C "kept" ∧ fs.lookup ("kept" : Str) = some v ∧ R v := ⟨p, _, dx, _, v6, rfl, h, T.cl_Mint, T.n_Mint_kept, lk_Mint_kept, k⟩
theorem wr_Mint_kept (T : Txt K mg Z) {v0 v1 v2 v3 v4 v5 v6 v7 v8 v9 v10 : V} (h : H p = some (.ins Z.c_Mint dx (fs_Mint v0 v1 v2 v3 v4 v5 v6 v7 v8 v9 v10))) {x : V} {N : Hp → Prop} (k : N (upd H p (.ins Z.c_Mint dx (fs_Mint v0 v1 v2 v3 v4 v5 x v7 v8 v9 v10)))) : ∃ a C dx fs, V.ref p = .ref a ∧ H a = some (.ins C dx fs) ∧ Cls K C ∧ NoAttr K C "kept" ∧ fs.length < 1000 ∧ N (upd H a (.ins C dx (putF "kept" x fs))) := ⟨p, _, dx, _, rfl, h, T.cl_Mint, T.n_Mint_kept, (by show 11 < 1000; decide), by rw [pu_Mint_kept]; exact k⟩
theorem lk_Mint_lessened {v0 v1 v2 v3 v4 v5 v6 v7 v8 v9 v10 : V} : (fs_Mint v0 v1 v2 v3 v4 v5 v6 v7 v8 v9 v10).lookup ("lessened" : Str) = some v7 := (lk1 ne_lessened_keeps (lk1 ne_lessened_kinds (lk1 ne_lessened_dies (lk1 ne_lessened_lots (lk1 ne_lessened_pot (lk1 ne_lessened_credit (lk1 ne_lessened_kept lk0)))))))
theorem pu_Mint_lessened {v0 v1 v2 v3 v4 v5 v6 v7 v8 v9 v10 x : V} : putF "lessened" x (fs_Mint v0 v1 v2 v3 v4 v5 v6 v7 v8 v9 v10) = fs_Mint v0 v1 v2 v3 v4 v5 v6 x v8 v9 v10 := (pf1 nq_keeps_lessened (pf1 nq_kinds_lessened (pf1 nq_dies_lessened (pf1 nq_lots_lessened (pf1 nq_pot_lessened (pf1 nq_credit_lessened (pf1 nq_kept_lessened pf0)))))))
theorem rd_Mint_lessened (T : Txt K mg Z) {v0 v1 v2 v3 v4 v5 v6 v7 v8 v9 v10 : V} (h : H p = some (.ins Z.c_Mint dx (fs_Mint v0 v1 v2 v3 v4 v5 v6 v7 v8 v9 v10))) {R : V → Prop} (k : R v7) : ∃ a C dx fs v, V.ref p = .ref a ∧ H a = some (.ins C dx fs) ∧ Cls K C ∧ NoAttr K C "lessened" ∧ fs.lookup ("lessened" : Str) = some v ∧ R v := ⟨p, _, dx, _, v7, rfl, h, T.cl_Mint, T.n_Mint_lessened, lk_Mint_lessened, k⟩
theorem wr_Mint_lessened (T : Txt K mg Z) {v0 v1 v2 v3 v4 v5 v6 v7 v8 v9 v10 : V} (h : H p = some (.ins Z.c_Mint dx (fs_Mint v0 v1 v2 v3 v4 v5 v6 v7 v8 v9 v10))) {x : V} {N : Hp → Prop} (k : N (upd H p (.ins Z.c_Mint dx (fs_Mint v0 v1 v2 v3 v4 v5 v6 x v8 v9 v10)))) : ∃ a C dx fs, V.ref p = .ref a ∧ H a = some (.ins C dx fs) ∧ Cls K C ∧ NoAttr K C "lessened" ∧ fs.length < 1000 ∧ N (upd H a (.ins C dx (putF "lessened" x fs))) := ⟨p, _, dx, _, rfl, h, T.cl_Mint, T.n_Mint_lessened, (by show 11 < 1000; decide), by rw [pu_Mint_lessened]; exact k⟩
theorem lk_Mint_brought {v0 v1 v2 v3 v4 v5 v6 v7 v8 v9 v10 : V} : (fs_Mint v0 v1 v2 v3 v4 v5 v6 v7 v8 v9 v10).lookup ("brought" : Str) = some v8 := (lk1 ne_brought_keeps (lk1 ne_brought_kinds (lk1 ne_brought_dies (lk1 ne_brought_lots (lk1 ne_brought_pot (lk1 ne_brought_credit (lk1 ne_brought_kept (lk1 ne_brought_lessened lk0))))))))
theorem pu_Mint_brought {v0 v1 v2 v3 v4 v5 v6 v7 v8 v9 v10 x : V} : putF "brought" x (fs_Mint v0 v1 v2 v3 v4 v5 v6 v7 v8 v9 v10) = fs_Mint v0 v1 v2 v3 v4 v5 v6 v7 x v9 v10 := (pf1 nq_keeps_brought (pf1 nq_kinds_brought (pf1 nq_dies_brought (pf1 nq_lots_brought (pf1 nq_pot_brought (pf1 nq_credit_brought (pf1 nq_kept_brought (pf1 nq_lessened_brought pf0))))))))
theorem rd_Mint_brought (T : Txt K mg Z) {v0 v1 v2 v3 v4 v5 v6 v7 v8 v9 v10 : V} (h : H p = some (.ins Z.c_Mint dx (fs_Mint v0 v1 v2 v3 v4 v5 v6 v7 v8 v9 v10))) {R : V → Prop} (k : R v8) : ∃ a C dx fs v, V.ref p = .ref a ∧ H a = some (.ins C dx fs) ∧ Cls K C ∧ NoAttr K C "brought" ∧ fs.lookup ("brought" : Str) = some v ∧ R v := ⟨p, _, dx, _, v8, rfl, h, T.cl_Mint, T.n_Mint_brought, lk_Mint_brought, k⟩
theorem wr_Mint_brought (T : Txt K mg Z) {v0 v1 v2 v3 v4 v5 v6 v7 v8 v9 v10 : V} (h : H p = some (.ins Z.c_Mint dx (fs_Mint v0 v1 v2 v3 v4 v5 v6 v7 v8 v9 v10))) {x : V} {N : Hp → Prop} (k : N (upd H p (.ins Z.c_Mint dx (fs_Mint v0 v1 v2 v3 v4 v5 v6 v7 x v9 v10)))) : ∃ a C dx fs, V.ref p = .ref a ∧ H a = some (.ins C dx fs) ∧ Cls K C ∧ NoAttr K C "brought" ∧ fs.length < 1000 ∧ N (upd H a (.ins C dx (putF "brought" x fs))) := ⟨p, _, dx, _, rfl, h, T.cl_Mint, T.n_Mint_brought, (by show 11 < 1000; decide), by rw [pu_Mint_brought]; exact k⟩
theorem lk_Mint_added {v0 v1 v2 v3 v4 v5 v6 v7 v8 v9 v10 : V} : (fs_Mint v0 v1 v2 v3 v4 v5 v6 v7 v8 v9 v10).lookup ("added" : Str) = some v9 := (lk1 ne_added_keeps (lk1 ne_added_kinds (lk1 ne_added_dies (lk1 ne_added_lots (lk1 ne_added_pot (lk1 ne_added_credit (lk1 ne_added_kept (lk1 ne_added_lessened (lk1 ne_added_brought lk0)))))))))
theorem pu_Mint_added {v0 v1 v2 v3 v4 v5 v6 v7 v8 v9 v10 x : V} : putF "added" x (fs_Mint v0 v1 v2 v3 v4 v5 v6 v7 v8 v9 v10) = fs_Mint v0 v1 v2 v3 v4 v5 v6 v7 v8 x v10 := (pf1 nq_keeps_added (pf1 nq_kinds_added (pf1 nq_dies_added (pf1 nq_lots_added (pf1 nq_pot_added (pf1 nq_credit_added (pf1 nq_kept_added (pf1 nq_lessened_added (pf1 nq_brought_added pf0)))))))))
theorem rd_Mint_added (T : Txt K mg Z) {v0 v1 v2 v3 v4 v5 v6 v7 v8 v9 v10 : V} (h : H p = some (.ins Z.c_Mint dx (fs_Mint v0 v1 v2 v3 v4 v5 v6 v7 v8 v9 v10))) {R : V → Prop} (k : R v9) : ∃ a C dx fs v, V.ref p = .ref a ∧ H a = some (.ins C dx fs) ∧ Cls K C ∧ NoAttr K C "added" ∧ fs.lookup ("added" : Str) = some v ∧ R v := ⟨p, _, dx, _, v9, rfl, h, T.cl_Mint, T.n_Mint_added, lk_Mint_added, k⟩
theorem wr_Mint_added (T : Txt K mg Z) {v0 v1 v2 v3 v4 v5 v6 v7 v8 v9 v10 : V} (h : H p = some (.ins Z.c_Mint dx (fs_Mint v0 v1 v2 v3 v4 v5 v6 v7 v8 v9 v10))) {x : V} {N : Hp → Prop} (k : N (upd H p (.ins Z.c_Mint dx (fs_Mint v0 v1 v2 v3 v4 v5 v6 v7 v8 x v10)))) : ∃ a C dx fs, V.ref p = .ref a ∧ H a = some (.ins C dx fs) ∧ Cls K C ∧ NoAttr K C "added" ∧ fs.length < 1000 ∧ N (upd H a (.ins C dx (putF "added" x fs))) := ⟨p, _, dx, _, rfl, h, T.cl_Mint, T.n_Mint_added, (by show 11 < 1000; decide), by rw [pu_Mint_added]; exact k⟩
theorem lk_Mint_paid {v0 v1 v2 v3 v4 v5 v6 v7 v8 v9 v10 : V} : (fs_Mint v0 v1 v2 v3 v4 v5 v6 v7 v8 v9 v10).lookup ("paid" : Str) = some v10 := (lk1 ne_paid_keeps (lk1 ne_paid_kinds (lk1 ne_paid_dies (lk1 ne_paid_lots (lk1 ne_paid_pot (lk1 ne_paid_credit (lk1 ne_paid_kept (lk1 ne_paid_lessened (lk1 ne_paid_brought (lk1 ne_paid_added lk0))))))))))
theorem pu_Mint_paid {v0 v1 v2 v3 v4 v5 v6 v7 v8 v9 v10 x : V} : putF "paid" x (fs_Mint v0 v1 v2 v3 v4 v5 v6 v7 v8 v9 v10) = fs_Mint v0 v1 v2 v3 v4 v5 v6 v7 v8 v9 x := (pf1 nq_keeps_paid (pf1 nq_kinds_paid (pf1 nq_dies_paid (pf1 nq_lots_paid (pf1 nq_pot_paid (pf1 nq_credit_paid (pf1 nq_kept_paid (pf1 nq_lessened_paid (pf1 nq_brought_paid (pf1 nq_added_paid pf0))))))))))
theorem rd_Mint_paid (T : Txt K mg Z) {v0 v1 v2 v3 v4 v5 v6 v7 v8 v9 v10 : V} (h : H p = some (.ins Z.c_Mint dx (fs_Mint v0 v1 v2 v3 v4 v5 v6 v7 v8 v9 v10))) {R : V → Prop} (k : R v10) : ∃ a C dx fs v, V.ref p = .ref a ∧ H a = some (.ins C dx fs) ∧ Cls K C ∧ NoAttr K C "paid" ∧ fs.lookup ("paid" : Str) = some v ∧ R v := ⟨p, _, dx, _, v10, rfl, h, T.cl_Mint, T.n_Mint_paid, lk_Mint_paid, k⟩
theorem wr_Mint_paid (T : Txt K mg Z) {v0 v1 v2 v3 v4 v5 v6 v7 v8 v9 v10 : V} (h : H p = some (.ins Z.c_Mint dx (fs_Mint v0 v1 v2 v3 v4 v5 v6 v7 v8 v9 v10))) {x : V} {N : Hp → Prop} (k : N (upd H p (.ins Z.c_Mint dx (fs_Mint v0 v1 v2 v3 v4 v5 v6 v7 v8 v9 x)))) : ∃ a C dx fs, V.ref p = .ref a ∧ H a = some (.ins C dx fs) ∧ Cls K C ∧ NoAttr K C "paid" ∧ fs.length < 1000 ∧ N (upd H a (.ins C dx (putF "paid" x fs))) := ⟨p, _, dx, _, rfl, h, T.cl_Mint, T.n_Mint_paid, (by show 11 < 1000; decide), by rw [pu_Mint_paid]; exact k⟩
theorem no_Mint_another_alike {v0 v1 v2 v3 v4 v5 v6 v7 v8 v9 v10 : V} : (fs_Mint v0 v1 v2 v3 v4 v5 v6 v7 v8 v9 v10).lookup ("another_alike" : Str) = none := (lk1 ne_another_alike_keeps (lk1 ne_another_alike_kinds (lk1 ne_another_alike_dies (lk1 ne_another_alike_lots (lk1 ne_another_alike_pot (lk1 ne_another_alike_credit (lk1 ne_another_alike_kept (lk1 ne_another_alike_lessened (lk1 ne_another_alike_brought (lk1 ne_another_alike_added (lk1 ne_another_alike_paid rfl)))))))))))
theorem me_Mint_another_alike {v0 v1 v2 v3 v4 v5 v6 v7 v8 v9 v10 : V} (h : H p = some (.ins Z.c_Mint dx (fs_Mint v0 v1 v2 v3 v4 v5 v6 v7 v8 v9 v10))) {R : Prop} (k : R) : ∃ a dx fs, V.ref p = .ref a ∧ H a = some (.ins Z.c_Mint dx fs) ∧ fs.lookup ("another_alike" : Str) = none ∧ R := ⟨p, dx, _, rfl, h, no_Mint_another_alike, k⟩
theorem no_Mint_count_lots {v0 v1 v2 v3 v4 v5 v6 v7 v8 v9 v10 : V} : (fs_Mint v0 v1 v2 v3 v4 v5 v6 v7 v8 v9 v10).lookup ("count_lots" : Str) = none := (lk1 ne_count_lots_keeps (lk1 ne_count_lots_kinds (lk1 ne_count_lots_dies (lk1 ne_count_lots_lots (lk1 ne_count_lots_pot (lk1 ne_count_lots_credit (lk1 ne_count_lots_kept (lk1 ne_count_lots_lessened (lk1 ne_count_lots_brought (lk1 ne_count_lots_added (lk1 ne_count_lots_paid rfl)))))))))))
theorem me_Mint_count_lots {v0 v1 v2 v3 v4 v5 v6 v7 v8 v9 v10 : V} (h : H p = some (.ins Z.c_Mint dx (fs_Mint v0 v1 v2 v3 v4 v5 v6 v7 v8 v9 v10))) {R : Prop} (k : R) : ∃ a dx fs, V.ref p = .ref a ∧ H a = some (.ins Z.c_Mint dx fs) ∧ fs.lookup ("count_lots" : Str) = none ∧ R := ⟨p, dx, _, rfl, h, no_Mint_count_lots, k⟩
theorem no_Mint_has_kind {v0 v1 v2 v3 v4 v5 v6 v7 v8 v9 v10 : V} : (fs_Mint v0 v1 v2 v3 v4 v5 v6 v7 v8 v9 v10).lookup ("has_kind" : Str) = none := (lk1 ne_has_kind_keeps (lk1 ne_has_kind_kinds (lk1 ne_has_kind_dies (lk1 ne_has_kind_lots (lk1 ne_has_kind_pot (lk1 ne_has_kind_credit (lk1 ne_has_kind_kept (lk1 ne_has_kind_lessened (lk1 ne_has_kind_brought (lk1 ne_has_kind_added (lk1 ne_has_kind_paid rfl)))))))))))
theorem me_Mint_has_kind {v0 v1 v2 v3 v4 v5 v6 v7 v8 v9 v10 : V} (h : H p = some (.ins Z.c_Mint dx (fs_Mint v0 v1 v2 v3 v4 v5 v6 v7 v8 v9 v10))) {R : Prop} (k : R) : ∃ a dx fs, V.ref p = .ref a ∧ H a = some (.ins Z.c_Mint dx fs) ∧ fs.lookup ("has_kind" : Str) = none ∧ R := ⟨p, dx, _, rfl, h, no_Mint_has_kind, k⟩
theorem no_Mint_has_die {v0 v1 v2 v3 v4 v5 v6 v7 v8 v9 v10 : V} : (fs_Mint v0 v1 v2 v3 v4 v5 v6 v7 v8 v9 v10).lookup ("has_die" : Str) = none := (lk1 ne_has_die_keeps (lk1 ne_has_die_kinds (lk1 ne_has_die_dies (lk1 ne_has_die_lots (lk1 ne_has_die_pot (lk1 ne_has_die_credit (lk1 ne_has_die_kept (lk1 ne_has_die_lessened (lk1 ne_has_die_brought (lk1 ne_has_die_added (lk1 ne_has_die_paid rfl)))))))))))
theorem me_Mint_has_die {v0 v1 v2 v3 v4 v5 v6 v7 v8 v9 v10 : V} (h : H p = some (.ins Z.c_Mint dx (fs_Mint v0 v1 v2 v3 v4 v5 v6 v7 v8 v9 v10))) {R : Prop} (k : R) : ∃ a dx fs, V.ref p = .ref a ∧ H a = some (.ins Z.c_Mint dx fs) ∧ fs.lookup ("has_die" : Str) = none ∧ R := ⟨p, dx, _, rfl, h, no_Mint_has_die, k⟩
theorem no_Mint_has_person {v0 v1 v2 v3 v4 v5 v6 v7 v8 v9 v10 : V} : (fs_Mint v0 v1 v2 v3 v4 v5 v6 v7 v8 v9 v10).lookup ("has_person" : Str) = none := (lk1 ne_has_person_keeps (lk1 ne_has_person_kinds (lk1 ne_has_person_dies (lk1 ne_has_person_lots (lk1 ne_has_person_pot (lk1 ne_has_person_credit (lk1 ne_has_person_kept (lk1 ne_has_person_lessened (lk1 ne_has_person_brought (lk1 ne_has_person_added (lk1 ne_has_person_paid rfl)))))))))))
theorem me_Mint_has_person {v0 v1 v2 v3 v4 v5 v6 v7 v8 v9 v10 : V} (h : H p = some (.ins Z.c_Mint dx (fs_Mint v0 v1 v2 v3 v4 v5 v6 v7 v8 v9 v10))) {R : Prop} (k : R) : ∃ a dx fs, V.ref p = .ref a ∧ H a = some (.ins Z.c_Mint dx fs) ∧ fs.lookup ("has_person" : Str) = none ∧ R := ⟨p, dx, _, rfl, h, no_Mint_has_person, k⟩
def fs_Book (v0 v1 v2 : V) : List (Str × V) := [("mint", v0), ("before", v1), ("behind", v2)]
theorem lk_Book_mint {v0 v1 v2 : V} : (fs_Book v0 v1 v2).lookup ("mint" : Str) = some v0 := lk0
theorem pu_Book_mint {v0 v1 v2 x : V} : putF "mint" x (fs_Book v0 v1 v2) = fs_Book x v1 v2 := pf0
theorem rd_Book_mint (T : Txt K mg Z) {v0 v1 v2 : V} (h : H p = some (.ins Z.c_Book dx (fs_Book v0 v1 v2))) {R : V → Prop} (k : R v0) : ∃ a C dx fs v, V.ref p = .ref a ∧ H a = some (.ins C dx fs) ∧ Cls K C ∧ NoAttr K C "mint" ∧ fs.lookup ("mint" : Str) = some v ∧ R v := ⟨p, _, dx, _, v0, rfl, h, T.cl_Book, T.n_Book_mint, lk_Book_mint, k⟩
theorem wr_Book_mint (T : Txt K mg Z) {v0 v1 v2 : V} (h : H p = some (.ins Z.c_Book dx (fs_Book v0 v1 v2))) {x : V} {N : Hp → Prop} (k : N (upd H p (.ins Z.c_Book dx (fs_Book x v1 v2)))) : ∃ a C dx fs, V.ref p = .ref a ∧ H a = some (.ins C dx fs) ∧ Cls K C ∧ NoAttr K C "mint" ∧ fs.length < 1000 ∧ N (upd H a (.ins C dx (putF "mint" x fs))) := ⟨p, _, dx, _, rfl, h, T.cl_Book, T.n_Book_mint, (by show 3 < 1000; decide), by rw [pu_Book_mint]; exact k⟩
theorem lk_Book_before {v0 v1 v2 : V} : (fs_Book v0 v1 v2).lookup ("before" : Str) = some v1 := (lk1 ne_before_mint lk0)
theorem pu_Book_before {v0 v1 v2 x : V} : putF "before" x (fs_Book v0 v1 v2) = fs_Book v0 x v2 := (pf1 nq_mint_before pf0)
theorem rd_Book_before (T : Txt K mg Z) {v0 v1 v2 : V} (h : H p = some (.ins Z.c_Book dx (fs_Book v0 v1 v2))) {R : V → Prop} (k : R v1) : ∃ a C dx fs v, V.ref p = .ref a ∧ H a = some (.ins C dx fs) ∧ Cls K C ∧ NoAttr K C "before" ∧ fs.lookup ("before" : Str) = some v ∧ R v := ⟨p, _, dx, _, v1, rfl, h, T.cl_Book, T.n_Book_before, lk_Book_before, k⟩
theorem wr_Book_before (T : Txt K mg Z) {v0 v1 v2 : V} (h : H p = some (.ins Z.c_Book dx (fs_Book v0 v1 v2))) {x : V} {N : Hp → Prop} (k : N (upd H p (.ins Z.c_Book dx (fs_Book v0 x v2)))) : ∃ a C dx fs, V.ref p = .ref a ∧ H a = some (.ins C dx fs) ∧ Cls K C ∧ NoAttr K C "before" ∧ fs.length < 1000 ∧ N (upd H a (.ins C dx (putF "before" x fs))) := ⟨p, _, dx, _, rfl, h, T.cl_Book, T.n_Book_before, (by show 3 < 1000; decide), by rw [pu_Book_before]; exact k⟩
theorem lk_Book_behind {v0 v1 v2 : V} : (fs_Book v0 v1 v2).lookup ("behind" : Str) = some v2 := (lk1 ne_behind_mint (lk1 ne_behind_before lk0))
theorem pu_Book_behind {v0 v1 v2 x : V} : putF "behind" x (fs_Book v0 v1 v2) = fs_Book v0 v1 x := (pf1 nq_mint_behind (pf1 nq_before_behind pf0))
theorem rd_Book_behind (T : Txt K mg Z) {v0 v1 v2 : V} (h : H p = some (.ins Z.c_Book dx (fs_Book v0 v1 v2))) {R : V → Prop} (k : R v2) : ∃ a C dx fs v, V.ref p = .ref a ∧ H a = some (.ins C dx fs) ∧ Cls K C ∧ NoAttr K C "behind" ∧ fs.lookup ("behind" : Str) = some v ∧ R v := ⟨p, _, dx, _, v2, rfl, h, T.cl_Book, T.n_Book_behind, lk_Book_behind, k⟩
theorem wr_Book_behind (T : Txt K mg Z) {v0 v1 v2 : V} (h : H p = some (.ins Z.c_Book dx (fs_Book v0 v1 v2))) {x : V} {N : Hp → Prop} (k : N (upd H p (.ins Z.c_Book dx (fs_Book v0 v1 x)))) : ∃ a C dx fs, V.ref p = .ref a ∧ H a = some (.ins C dx fs) ∧ Cls K C ∧ NoAttr K C "behind" ∧ fs.length < 1000 ∧ N (upd H a (.ins C dx (putF "behind" x fs))) := ⟨p, _, dx, _, rfl, h, T.cl_Book, T.n_Book_behind, (by show 3 < 1000; decide), by rw [pu_Book_behind]; exact k⟩
theorem no_Book_begin_anew {v0 v1 v2 : V} : (fs_Book v0 v1 v2).lookup ("begin_anew" : Str) = none := (lk1 ne_begin_anew_mint (lk1 ne_begin_anew_before (lk1 ne_begin_anew_behind rfl)))
theorem me_Book_begin_anew {v0 v1 v2 : V} (h : H p = some (.ins Z.c_Book dx (fs_Book v0 v1 v2))) {R : Prop} (k : R) : ∃ a dx fs, V.ref p = .ref a ∧ H a = some (.ins Z.c_Book dx fs) ∧ fs.lookup ("begin_anew" : Str) = none ∧ R := ⟨p, dx, _, rfl, h, no_Book_begin_anew, k⟩
theorem no_Book_turn_to {v0 v1 v2 : V} : (fs_Book v0 v1 v2).lookup ("turn_to" : Str) = none := (lk1 ne_turn_to_mint (lk1 ne_turn_to_before (lk1 ne_turn_to_behind rfl)))
theorem me_Book_turn_to {v0 v1 v2 : V} (h : H p = some (.ins Z.c_Book dx (fs_Book v0 v1 v2))) {R : Prop} (k : R) : ∃ a dx fs, V.ref p = .ref a ∧ H a = some (.ins Z.c_Book dx fs) ∧ fs.lookup ("turn_to" : Str) = none ∧ R := ⟨p, dx, _, rfl, h, no_Book_turn_to, k⟩
def fs_Need (v0 v1 : V) : List (Str × V) := [("gold", v0), ("copper", v1)]
theorem lk_Need_gold {v0 v1 : V} : (fs_Need v0 v1).lookup ("gold" : Str) = some v0 := lk0
theorem rd_Need_gold (T : Txt K mg Z) {v0 v1 : V} (h : H p = some (.ins Z.c_Need dx (fs_Need v0 v1))) {R : V → Prop} (k : R v0) : ∃ a C dx fs v, V.ref p = .ref a ∧ H a = some (.ins C dx fs) ∧ Cls K C ∧ NoAttr K C "gold" ∧ fs.lookup ("gold" : Str) = some v ∧ R v := ⟨p, _, dx, _, v0, rfl, h, T.cl_Need, T.n_Need_gold, lk_Need_gold, k⟩
theorem lk_Need_copper {v0 v1 : V} : (fs_Need v0 v1).lookup ("copper" : Str) = some v1 := (lk1 ne_copper_gold lk0)
theorem rd_Need_copper (T : Txt K mg Z) {v0 v1 : V} (h : H p = some (.ins Z.c_Need dx (fs_Need v0 v1))) {R : V → Prop} (k : R v1) : ∃ a C dx fs v, V.ref p = .ref a ∧ H a = some (.ins C dx fs) ∧ Cls K C ∧ NoAttr K C "copper" ∧ fs.lookup ("copper" : Str) = some v ∧ R v := ⟨p, _, dx, _, v1, rfl, h, T.cl_Need, T.n_Need_copper, lk_Need_copper, k⟩
theorem no_Need_together {v0 v1 : V} : (fs_Need v0 v1).lookup ("together" : Str) = none := (lk1 ne_together_gold (lk1 ne_together_copper rfl))
theorem me_Need_together {v0 v1 : V} (h : H p = some (.ins Z.c_Need dx (fs_Need v0 v1))) {R : Prop} (k : R) : ∃ a dx fs, V.ref p = .ref a ∧ H a = some (.ins Z.c_Need dx fs) ∧ fs.lookup ("together" : Str) = none ∧ R := ⟨p, dx, _, rfl, h, no_Need_together, k⟩
def fs_Choice (v0 v1 v2 : V) : List (Str × V) := [("bits", v0), ("lots", v1), ("metal", v2)]
theorem lk_Choice_bits {v0 v1 v2 : V} : (fs_Choice v0 v1 v2).lookup ("bits" : Str) = some v0 := lk0
theorem rd_Choice_bits (T : Txt K mg Z) {v0 v1 v2 : V} (h : H p = some (.ins Z.c_Choice dx (fs_Choice v0 v1 v2))) {R : V → Prop} (k : R v0) : ∃ a C dx fs v, V.ref p = .ref a ∧ H a = some (.ins C dx fs) ∧ Cls K C ∧ NoAttr K C "bits" ∧ fs.lookup ("bits" : Str) = some v ∧ R v := ⟨p, _, dx, _, v0, rfl, h, T.cl_Choice, T.n_Choice_bits, lk_Choice_bits, k⟩
theorem lk_Choice_lots {v0 v1 v2 : V} : (fs_Choice v0 v1 v2).lookup ("lots" : Str) = some v1 := (lk1 ne_lots_bits lk0)
theorem rd_Choice_lots (T : Txt K mg Z) {v0 v1 v2 : V} (h : H p = some (.ins Z.c_Choice dx (fs_Choice v0 v1 v2))) {R : V → Prop} (k : R v1) : ∃ a C dx fs v, V.ref p = .ref a ∧ H a = some (.ins C dx fs) ∧ Cls K C ∧ NoAttr K C "lots" ∧ fs.lookup ("lots" : Str) = some v ∧ R v := ⟨p, _, dx, _, v1, rfl, h, T.cl_Choice, T.n_Choice_lots, lk_Choice_lots, k⟩
theorem lk_Choice_metal {v0 v1 v2 : V} : (fs_Choice v0 v1 v2).lookup ("metal" : Str) = some v2 := (lk1 ne_metal_bits (lk1 ne_metal_lots lk0))
theorem rd_Choice_metal (T : Txt K mg Z) {v0 v1 v2 : V} (h : H p = some (.ins Z.c_Choice dx (fs_Choice v0 v1 v2))) {R : V → Prop} (k : R v2) : ∃ a C dx fs v, V.ref p = .ref a ∧ H a = some (.ins C dx fs) ∧ Cls K C ∧ NoAttr K C "metal" ∧ fs.lookup ("metal" : Str) = some v ∧ R v := ⟨p, _, dx, _, v2, rfl, h, T.cl_Choice, T.n_Choice_metal, lk_Choice_metal, k⟩
theorem no_Choice_and_lot {v0 v1 v2 : V} : (fs_Choice v0 v1 v2).lookup ("and_lot" : Str) = none := (lk1 ne_and_lot_bits (lk1 ne_and_lot_lots (lk1 ne_and_lot_metal rfl)))
theorem me_Choice_and_lot {v0 v1 v2 : V} (h : H p = some (.ins Z.c_Choice dx (fs_Choice v0 v1 v2))) {R : Prop} (k : R) : ∃ a dx fs, V.ref p = .ref a ∧ H a = some (.ins Z.c_Choice dx fs) ∧ fs.lookup ("and_lot" : Str) = none ∧ R := ⟨p, dx, _, rfl, h, no_Choice_and_lot, k⟩
def fs_Plan (v0 v1 : V) : List (Str × V) := [("choice", v0), ("added", v1)]
theorem lk_Plan_choice {v0 v1 : V} : (fs_Plan v0 v1).lookup ("choice" : Str) = some v0 := lk0
theorem rd_Plan_choice (T : Txt K mg Z) {v0 v1 : V} (h : H p = some (.ins Z.c_Plan dx (fs_Plan v0 v1))) {R : V → Prop} (k : R v0) : ∃ a C dx fs v, V.ref p = .ref a ∧ H a = some (.ins C dx fs) ∧ Cls K C ∧ NoAttr K C "choice" ∧ fs.lookup ("choice" : Str) = some v ∧ R v := ⟨p, _, dx, _, v0, rfl, h, T.cl_Plan, T.n_Plan_choice, lk_Plan_choice, k⟩
theorem lk_Plan_added {v0 v1 : V} : (fs_Plan v0 v1).lookup ("added" : Str) = some v1 := (lk1 ne_added_choice lk0)
theorem rd_Plan_added (T : Txt K mg Z) {v0 v1 : V} (h : H p = some (.ins Z.c_Plan dx (fs_Plan v0 v1))) {R : V → Prop} (k : R v1) : ∃ a C dx fs v, V.ref p = .ref a ∧ H a = some (.ins C dx fs) ∧ Cls K C ∧ NoAttr K C "added" ∧ fs.lookup ("added" : Str) = some v ∧ R v := ⟨p, _, dx, _, v1, rfl, h, T.cl_Plan, T.n_Plan_added, lk_Plan_added, k⟩
theorem no_Plan_is_better_than {v0 v1 : V} : (fs_Plan v0 v1).lookup ("is_better_than" : Str) = none := (lk1 ne_is_better_than_choice (lk1 ne_is_better_than_added rfl))
theorem me_Plan_is_better_than {v0 v1 : V} (h : H p = some (.ins Z.c_Plan dx (fs_Plan v0 v1))) {R : Prop} (k : R) : ∃ a dx fs, V.ref p = .ref a ∧ H a = some (.ins Z.c_Plan dx fs) ∧ fs.lookup ("is_better_than" : Str) = none ∧ R := ⟨p, dx, _, rfl, h, no_Plan_is_better_than, k⟩
end
end Mi

set_option Elab.async false
set_option linter.all false
set_option maxRecDepth 100000
set_option maxHeartbeats 4000000
namespace Mi
open PySem PySem.Spec PyProof.Rows L2
open PySem.W (nsIn codeIn keepIn fnOf findIn isFn plainGet hasDictIn plainOver makesIn mg_of mg_none_of)
theorem txt_mk {K : PySem.W.Frag} {h : Heap} {mg : Str → Option Value} (X : K.In h) (G : h.Ns mainGlobals mg) {C0 C6 C10 C13 C20 C24 C27 C30 f1 f2 f3 f4 f5 f7 f8 f9 f11 f12 f14 f15 f16 f17 f18 f19 f33 f34 f35 f36 f37 f38 f39 f40 f41 f21 f22 f23 f42 f43 f44 f45 f25 f26 f28 f29 f31 f32 f46 f47 f48 f49 f50 f51 f52 f53 f54 f55 f56 f57 f58 f59 f60 f61 f62 f63 f64 f65 f66 f67 f68 f69 f70 f71 f72 f73 f74 f75 f76 f77 f78 f79 f80 f81 f82 T135 T136 : Addr}
    {o1 v1 d1 p1 c1 t1 : Value} {e1 n1 : Option Addr} {w1 : Array (Option Value)}
    {o2 v2 d2 p2 c2 t2 : Value} {e2 n2 : Option Addr} {w2 : Array (Option Value)}
    {o3 v3 d3 p3 c3 t3 : Value} {e3 n3 : Option Addr} {w3 : Array (Option Value)}
    {o4 v4 d4 p4 c4 t4 : Value} {e4 n4 : Option Addr} {w4 : Array (Option Value)}
    {o5 v5 d5 p5 c5 t5 : Value} {e5 n5 : Option Addr} {w5 : Array (Option Value)}
    {o7 v7 d7 p7 c7 t7 : Value} {e7 n7 : Option Addr} {w7 : Array (Option Value)}
    {o8 v8 d8 p8 c8 t8 : Value} {e8 n8 : Option Addr} {w8 : Array (Option Value)}
    {o9 v9 d9 p9 c9 t9 : Value} {e9 n9 : Option Addr} {w9 : Array (Option Value)}
    {o11 v11 d11 p11 c11 t11 : Value} {e11 n11 : Option Addr} {w11 : Array (Option Value)}
    {o12 v12 d12 p12 c12 t12 : Value} {e12 n12 : Option Addr} {w12 : Array (Option Value)}
    {o14 v14 d14 p14 c14 t14 : Value} {e14 n14 : Option Addr} {w14 : Array (Option Value)}
    {o15 v15 d15 p15 c15 t15 : Value} {e15 n15 : Option Addr} {w15 : Array (Option Value)}
    {o16 v16 d16 p16 c16 t16 : Value} {e16 n16 : Option Addr} {w16 : Array (Option Value)}
    {o17 v17 d17 p17 c17 t17 : Value} {e17 n17 : Option Addr} {w17 : Array (Option Value)}
    {o18 v18 d18 p18 c18 t18 : Value} {e18 n18 : Option Addr} {w18 : Array (Option Value)}
    {o19 v19 d19 p19 c19 t19 : Value} {e19 n19 : Option Addr} {w19 : Array (Option Value)}
    {o21 v21 d21 p21 c21 t21 : Value} {e21 n21 : Option Addr} {w21 : Array (Option Value)}
    {o22 v22 d22 p22 c22 t22 : Value} {e22 n22 : Option Addr} {w22 : Array (Option Value)}
    {o23 v23 d23 p23 c23 t23 : Value} {e23 n23 : Option Addr} {w23 : Array (Option Value)}
    {o25 v25 d25 p25 c25 t25 : Value} {e25 n25 : Option Addr} {w25 : Array (Option Value)}
    {o26 v26 d26 p26 c26 t26 : Value} {e26 n26 : Option Addr} {w26 : Array (Option Value)}
    {o28 v28 d28 p28 c28 t28 : Value} {e28 n28 : Option Addr} {w28 : Array (Option Value)}
    {o29 v29 d29 p29 c29 t29 : Value} {e29 n29 : Option Addr} {w29 : Array (Option Value)}
    {o31 v31 d31 p31 c31 t31 : Value} {e31 n31 : Option Addr} {w31 : Array (Option Value)}
    {o32 v32 d32 p32 c32 t32 : Value} {e32 n32 : Option Addr} {w32 : Array (Option Value)}
    {o33 v33 d33 p33 c33 t33 : Value} {e33 n33 : Option Addr} {w33 : Array (Option Value)}
    {o34 v34 d34 p34 c34 t34 : Value} {e34 n34 : Option Addr} {w34 : Array (Option Value)}
    {o35 v35 d35 p35 c35 t35 : Value} {e35 n35 : Option Addr} {w35 : Array (Option Value)}
    {o36 v36 d36 p36 c36 t36 : Value} {e36 n36 : Option Addr} {w36 : Array (Option Value)}
    {o37 v37 d37 p37 c37 t37 : Value} {e37 n37 : Option Addr} {w37 : Array (Option Value)}
    {o38 v38 d38 p38 c38 t38 : Value} {e38 n38 : Option Addr} {w38 : Array (Option Value)}
    {o39 v39 d39 p39 c39 t39 : Value} {e39 n39 : Option Addr} {w39 : Array (Option Value)}
    {o40 v40 d40 p40 c40 t40 : Value} {e40 n40 : Option Addr} {w40 : Array (Option Value)}
    {o41 v41 d41 p41 c41 t41 : Value} {e41 n41 : Option Addr} {w41 : Array (Option Value)}
    {o42 v42 d42 p42 c42 t42 : Value} {e42 n42 : Option Addr} {w42 : Array (Option Value)}
    {o43 v43 d43 p43 c43 t43 : Value} {e43 n43 : Option Addr} {w43 : Array (Option Value)}
    {o44 v44 d44 p44 c44 t44 : Value} {e44 n44 : Option Addr} {w44 : Array (Option Value)}
    {o45 v45 d45 p45 c45 t45 : Value} {e45 n45 : Option Addr} {w45 : Array (Option Value)}
    {o46 v46 d46 p46 c46 t46 : Value} {e46 n46 : Option Addr} {w46 : Array (Option Value)}
    {o47 v47 d47 p47 c47 t47 : Value} {e47 n47 : Option Addr} {w47 : Array (Option Value)}
    {o48 v48 d48 p48 c48 t48 : Value} {e48 n48 : Option Addr} {w48 : Array (Option Value)}
    {o49 v49 d49 p49 c49 t49 : Value} {e49 n49 : Option Addr} {w49 : Array (Option Value)}
    {o50 v50 d50 p50 c50 t50 : Value} {e50 n50 : Option Addr} {w50 : Array (Option Value)}
    {o51 v51 d51 p51 c51 t51 : Value} {e51 n51 : Option Addr} {w51 : Array (Option Value)}
    {o52 v52 d52 p52 c52 t52 : Value} {e52 n52 : Option Addr} {w52 : Array (Option Value)}
    {o53 v53 d53 p53 c53 t53 : Value} {e53 n53 : Option Addr} {w53 : Array (Option Value)}
    {o54 v54 d54 p54 c54 t54 : Value} {e54 n54 : Option Addr} {w54 : Array (Option Value)}
    {o55 v55 d55 p55 c55 t55 : Value} {e55 n55 : Option Addr} {w55 : Array (Option Value)}
    {o56 v56 d56 p56 c56 t56 : Value} {e56 n56 : Option Addr} {w56 : Array (Option Value)}
    {o57 v57 d57 p57 c57 t57 : Value} {e57 n57 : Option Addr} {w57 : Array (Option Value)}
    {o58 v58 d58 p58 c58 t58 : Value} {e58 n58 : Option Addr} {w58 : Array (Option Value)}
    {o59 v59 d59 p59 c59 t59 : Value} {e59 n59 : Option Addr} {w59 : Array (Option Value)}
    {o60 v60 d60 p60 c60 t60 : Value} {e60 n60 : Option Addr} {w60 : Array (Option Value)}
    {o61 v61 d61 p61 c61 t61 : Value} {e61 n61 : Option Addr} {w61 : Array (Option Value)}
    {o62 v62 d62 p62 c62 t62 : Value} {e62 n62 : Option Addr} {w62 : Array (Option Value)}
    {o63 v63 d63 p63 c63 t63 : Value} {e63 n63 : Option Addr} {w63 : Array (Option Value)}
    {o64 v64 d64 p64 c64 t64 : Value} {e64 n64 : Option Addr} {w64 : Array (Option Value)}
    {o65 v65 d65 p65 c65 t65 : Value} {e65 n65 : Option Addr} {w65 : Array (Option Value)}
    {o66 v66 d66 p66 c66 t66 : Value} {e66 n66 : Option Addr} {w66 : Array (Option Value)}
    {o67 v67 d67 p67 c67 t67 : Value} {e67 n67 : Option Addr} {w67 : Array (Option Value)}
    {o68 v68 d68 p68 c68 t68 : Value} {e68 n68 : Option Addr} {w68 : Array (Option Value)}
    {o69 v69 d69 p69 c69 t69 : Value} {e69 n69 : Option Addr} {w69 : Array (Option Value)}
    {o70 v70 d70 p70 c70 t70 : Value} {e70 n70 : Option Addr} {w70 : Array (Option Value)}
    {o71 v71 d71 p71 c71 t71 : Value} {e71 n71 : Option Addr} {w71 : Array (Option Value)}
    {o72 v72 d72 p72 c72 t72 : Value} {e72 n72 : Option Addr} {w72 : Array (Option Value)}
    {o73 v73 d73 p73 c73 t73 : Value} {e73 n73 : Option Addr} {w73 : Array (Option Value)}
    {o74 v74 d74 p74 c74 t74 : Value} {e74 n74 : Option Addr} {w74 : Array (Option Value)}
    {o75 v75 d75 p75 c75 t75 : Value} {e75 n75 : Option Addr} {w75 : Array (Option Value)}
    {o76 v76 d76 p76 c76 t76 : Value} {e76 n76 : Option Addr} {w76 : Array (Option Value)}
    {o77 v77 d77 p77 c77 t77 : Value} {e77 n77 : Option Addr} {w77 : Array (Option Value)}
    {o78 v78 d78 p78 c78 t78 : Value} {e78 n78 : Option Addr} {w78 : Array (Option Value)}
    {o79 v79 d79 p79 c79 t79 : Value} {e79 n79 : Option Addr} {w79 : Array (Option Value)}
    {o80 v80 d80 p80 c80 t80 : Value} {e80 n80 : Option Addr} {w80 : Array (Option Value)}
    {o81 v81 d81 p81 c81 t81 : Value} {e81 n81 : Option Addr} {w81 : Array (Option Value)}
    {o82 v82 d82 p82 c82 t82 : Value} {e82 n82 : Option Addr} {w82 : Array (Option Value)}
    {t83 : Tok}
    {t84 : Tok}
    {t85 : Tok}
    {t86 : Tok}
    {t87 : Tok}
    {t88 : Tok}
    {t89 : Tok}
    {t90 : Tok}
    {t91 : Tok}
    {t92 : Tok}
    {t93 : Tok}
    {t94 : Tok}
    {t95 : Tok}
    {t96 : Tok}
    {t97 : Tok}
    {t98 : Tok}
    {t99 : Tok}
    {t100 : Tok}
    {t101 : Tok}
    {t102 : Tok}
    {t103 : Tok}
    {t104 : Tok}
    {t105 : Tok}
    {t106 : Tok}
    {t107 : Tok}
    {t108 : Tok}
    {t109 : Tok}
    {t110 : Tok}
    {t111 : Tok}
    {t112 : Tok}
    {t113 : Tok}
    {t114 : Tok}
    {t115 : Tok}
    {t116 : Tok}
    {t117 : Tok}
    {t118 : Tok}
    {t119 : Tok}
    {t120 : Tok}
    {t121 : Tok}
    {t122 : Tok}
    {t123 : Tok}
    {t124 : Tok}
    {t125 : Tok}
    {t126 : Tok}
    {t127 : Tok}
    {t128 : Tok}
    {t129 : Tok}
    {t130 : Tok}
    {t131 : Tok}
    {t132 : Tok}
    {t133 : Tok}
    {t134 : Tok}
    {i135 : Array Value} {n135 : Nat} {e135 : Option Addr} {w135 : Array (Option Value)}
    {i136 : Array Value} {n136 : Nat} {e136 : Option Addr} {w136 : Array (Option Value)}
    (aC0 : nsIn K mainGlobals "Metal" = some (some (.ref C0)))
    (pgC0 : plainGet K C0 Str.empty = true) (hdC0 : hasDictIn K C0 = true) (poC0 : plainOver K C0 = true) (saC0 : findIn K (.ref C0) "__setattr__" = some (some (.builtin "object.__setattr__"))) (mkC0 : makesIn K C0 = true) (kcC0 : keepIn K (.ref C0) = true)
    (C0_grains : findIn K (.ref C0) "grains" = some none)
    (C0_carats : findIn K (.ref C0) "carats" = some none)
    (a1 : findIn K (.ref C0) "__init__" = some (some (.ref f1))) (i1 : isFn K (.ref f1) = true)
    (l1 : K.lookup f1 = some ⟨o1, e1, .func (fnOf "__init__" "Metal.__init__" (defArgs s_Metal_init) (defBody s_Metal_init) (defScope s_Metal_init) .none v1 d1 p1 n1 c1 t1), w1⟩) (h1 : codeIn K c1 "Metal.__init__" = true) (k1 : keepIn K (.ref f1) = true)
    (a2 : findIn K (.ref C0) "is_none" = some (some (.ref f2))) (i2 : isFn K (.ref f2) = true)
    (l2 : K.lookup f2 = some ⟨o2, e2, .func (fnOf "is_none" "Metal.is_none" (defArgs s_Metal_is_none) (defBody s_Metal_is_none) (defScope s_Metal_is_none) .none v2 d2 p2 n2 c2 t2), w2⟩) (h2 : codeIn K c2 "Metal.is_none" = true) (k2 : keepIn K (.ref f2) = true)
    (a3 : findIn K (.ref C0) "is_as_fine_as" = some (some (.ref f3))) (i3 : isFn K (.ref f3) = true)
    (l3 : K.lookup f3 = some ⟨o3, e3, .func (fnOf "is_as_fine_as" "Metal.is_as_fine_as" (defArgs s_Metal_is_as_fine_as) (defBody s_Metal_is_as_fine_as) (defScope s_Metal_is_as_fine_as) .none v3 d3 p3 n3 c3 t3), w3⟩) (h3 : codeIn K c3 "Metal.is_as_fine_as" = true) (k3 : keepIn K (.ref f3) = true)
    (a4 : findIn K (.ref C0) "together_with" = some (some (.ref f4))) (i4 : isFn K (.ref f4) = true)
    (l4 : K.lookup f4 = some ⟨o4, e4, .func (fnOf "together_with" "Metal.together_with" (defArgs s_Metal_together_with) (defBody s_Metal_together_with) (defScope s_Metal_together_with) .none v4 d4 p4 n4 c4 t4), w4⟩) (h4 : codeIn K c4 "Metal.together_with" = true) (k4 : keepIn K (.ref f4) = true)
    (a5 : findIn K (.ref C0) "less" = some (some (.ref f5))) (i5 : isFn K (.ref f5) = true)
    (l5 : K.lookup f5 = some ⟨o5, e5, .func (fnOf "less" "Metal.less" (defArgs s_Metal_less) (defBody s_Metal_less) (defScope s_Metal_less) .none v5 d5 p5 n5 c5 t5), w5⟩) (h5 : codeIn K c5 "Metal.less" = true) (k5 : keepIn K (.ref f5) = true)
    (aC6 : nsIn K mainGlobals "Kind" = some (some (.ref C6)))
    (pgC6 : plainGet K C6 Str.empty = true) (hdC6 : hasDictIn K C6 = true) (poC6 : plainOver K C6 = true) (saC6 : findIn K (.ref C6) "__setattr__" = some (some (.builtin "object.__setattr__"))) (mkC6 : makesIn K C6 = true) (kcC6 : keepIn K (.ref C6) = true)
    (C6_grains : findIn K (.ref C6) "grains" = some none)
    (C6_fine : findIn K (.ref C6) "fine" = some none)
    (C6_remedy : findIn K (.ref C6) "remedy" = some none)
    (C6_struck : findIn K (.ref C6) "struck" = some none)
    (C6_stock : findIn K (.ref C6) "stock" = some none)
    (C6_box : findIn K (.ref C6) "box" = some none)
    (a7 : findIn K (.ref C6) "__init__" = some (some (.ref f7))) (i7 : isFn K (.ref f7) = true)
    (l7 : K.lookup f7 = some ⟨o7, e7, .func (fnOf "__init__" "Kind.__init__" (defArgs s_Kind_init) (defBody s_Kind_init) (defScope s_Kind_init) .none v7 d7 p7 n7 c7 t7), w7⟩) (h7 : codeIn K c7 "Kind.__init__" = true) (k7 : keepIn K (.ref f7) = true)
    (a8 : findIn K (.ref C6) "metal_of" = some (some (.ref f8))) (i8 : isFn K (.ref f8) = true)
    (l8 : K.lookup f8 = some ⟨o8, e8, .func (fnOf "metal_of" "Kind.metal_of" (defArgs s_Kind_metal_of) (defBody s_Kind_metal_of) (defScope s_Kind_metal_of) .none v8 d8 p8 n8 c8 t8), w8⟩) (h8 : codeIn K c8 "Kind.metal_of" = true) (k8 : keepIn K (.ref f8) = true)
    (a9 : findIn K (.ref C6) "another_alike" = some (some (.ref f9))) (i9 : isFn K (.ref f9) = true)
    (l9 : K.lookup f9 = some ⟨o9, e9, .func (fnOf "another_alike" "Kind.another_alike" (defArgs s_Kind_another_alike) (defBody s_Kind_another_alike) (defScope s_Kind_another_alike) .none v9 d9 p9 n9 c9 t9), w9⟩) (h9 : codeIn K c9 "Kind.another_alike" = true) (k9 : keepIn K (.ref f9) = true)
    (aC10 : nsIn K mainGlobals "Die" = some (some (.ref C10)))
    (pgC10 : plainGet K C10 Str.empty = true) (hdC10 : hasDictIn K C10 = true) (poC10 : plainOver K C10 = true) (saC10 : findIn K (.ref C10) "__setattr__" = some (some (.builtin "object.__setattr__"))) (mkC10 : makesIn K C10 = true) (kcC10 : keepIn K (.ref C10) = true)
    (C10_kind : findIn K (.ref C10) "kind" = some none)
    (C10_left : findIn K (.ref C10) "left" = some none)
    (a11 : findIn K (.ref C10) "__init__" = some (some (.ref f11))) (i11 : isFn K (.ref f11) = true)
    (l11 : K.lookup f11 = some ⟨o11, e11, .func (fnOf "__init__" "Die.__init__" (defArgs s_Die_init) (defBody s_Die_init) (defScope s_Die_init) .none v11 d11 p11 n11 c11 t11), w11⟩) (h11 : codeIn K c11 "Die.__init__" = true) (k11 : keepIn K (.ref f11) = true)
    (a12 : findIn K (.ref C10) "another_alike" = some (some (.ref f12))) (i12 : isFn K (.ref f12) = true)
    (l12 : K.lookup f12 = some ⟨o12, e12, .func (fnOf "another_alike" "Die.another_alike" (defArgs s_Die_another_alike) (defBody s_Die_another_alike) (defScope s_Die_another_alike) .none v12 d12 p12 n12 c12 t12), w12⟩) (h12 : codeIn K c12 "Die.another_alike" = true) (k12 : keepIn K (.ref f12) = true)
    (aC13 : nsIn K mainGlobals "Mint" = some (some (.ref C13)))
    (pgC13 : plainGet K C13 Str.empty = true) (hdC13 : hasDictIn K C13 = true) (poC13 : plainOver K C13 = true) (saC13 : findIn K (.ref C13) "__setattr__" = some (some (.builtin "object.__setattr__"))) (mkC13 : makesIn K C13 = true) (kcC13 : keepIn K (.ref C13) = true)
    (C13_keeps : findIn K (.ref C13) "keeps" = some none)
    (C13_kinds : findIn K (.ref C13) "kinds" = some none)
    (C13_dies : findIn K (.ref C13) "dies" = some none)
    (C13_lots : findIn K (.ref C13) "lots" = some none)
    (C13_pot : findIn K (.ref C13) "pot" = some none)
    (C13_credit : findIn K (.ref C13) "credit" = some none)
    (C13_kept : findIn K (.ref C13) "kept" = some none)
    (C13_lessened : findIn K (.ref C13) "lessened" = some none)
    (C13_brought : findIn K (.ref C13) "brought" = some none)
    (C13_added : findIn K (.ref C13) "added" = some none)
    (C13_paid : findIn K (.ref C13) "paid" = some none)
    (a14 : findIn K (.ref C13) "__init__" = some (some (.ref f14))) (i14 : isFn K (.ref f14) = true)
    (l14 : K.lookup f14 = some ⟨o14, e14, .func (fnOf "__init__" "Mint.__init__" (defArgs s_Mint_init) (defBody s_Mint_init) (defScope s_Mint_init) .none v14 d14 p14 n14 c14 t14), w14⟩) (h14 : codeIn K c14 "Mint.__init__" = true) (k14 : keepIn K (.ref f14) = true)
    (a15 : findIn K (.ref C13) "another_alike" = some (some (.ref f15))) (i15 : isFn K (.ref f15) = true)
    (l15 : K.lookup f15 = some ⟨o15, e15, .func (fnOf "another_alike" "Mint.another_alike" (defArgs s_Mint_another_alike) (defBody s_Mint_another_alike) (defScope s_Mint_another_alike) .none v15 d15 p15 n15 c15 t15), w15⟩) (h15 : codeIn K c15 "Mint.another_alike" = true) (k15 : keepIn K (.ref f15) = true)
    (a16 : findIn K (.ref C13) "count_lots" = some (some (.ref f16))) (i16 : isFn K (.ref f16) = true)
    (l16 : K.lookup f16 = some ⟨o16, e16, .func (fnOf "count_lots" "Mint.count_lots" (defArgs s_Mint_count_lots) (defBody s_Mint_count_lots) (defScope s_Mint_count_lots) .none v16 d16 p16 n16 c16 t16), w16⟩) (h16 : codeIn K c16 "Mint.count_lots" = true) (k16 : keepIn K (.ref f16) = true)
    (a17 : findIn K (.ref C13) "has_kind" = some (some (.ref f17))) (i17 : isFn K (.ref f17) = true)
    (l17 : K.lookup f17 = some ⟨o17, e17, .func (fnOf "has_kind" "Mint.has_kind" (defArgs s_Mint_has_kind) (defBody s_Mint_has_kind) (defScope s_Mint_has_kind) .none v17 d17 p17 n17 c17 t17), w17⟩) (h17 : codeIn K c17 "Mint.has_kind" = true) (k17 : keepIn K (.ref f17) = true)
    (a18 : findIn K (.ref C13) "has_die" = some (some (.ref f18))) (i18 : isFn K (.ref f18) = true)
    (l18 : K.lookup f18 = some ⟨o18, e18, .func (fnOf "has_die" "Mint.has_die" (defArgs s_Mint_has_die) (defBody s_Mint_has_die) (defScope s_Mint_has_die) .none v18 d18 p18 n18 c18 t18), w18⟩) (h18 : codeIn K c18 "Mint.has_die" = true) (k18 : keepIn K (.ref f18) = true)
    (a19 : findIn K (.ref C13) "has_person" = some (some (.ref f19))) (i19 : isFn K (.ref f19) = true)
    (l19 : K.lookup f19 = some ⟨o19, e19, .func (fnOf "has_person" "Mint.has_person" (defArgs s_Mint_has_person) (defBody s_Mint_has_person) (defScope s_Mint_has_person) .none v19 d19 p19 n19 c19 t19), w19⟩) (h19 : codeIn K c19 "Mint.has_person" = true) (k19 : keepIn K (.ref f19) = true)
    (aC20 : nsIn K mainGlobals "Book" = some (some (.ref C20)))
    (pgC20 : plainGet K C20 Str.empty = true) (hdC20 : hasDictIn K C20 = true) (poC20 : plainOver K C20 = true) (saC20 : findIn K (.ref C20) "__setattr__" = some (some (.builtin "object.__setattr__"))) (mkC20 : makesIn K C20 = true) (kcC20 : keepIn K (.ref C20) = true)
    (C20_mint : findIn K (.ref C20) "mint" = some none)
    (C20_before : findIn K (.ref C20) "before" = some none)
    (C20_behind : findIn K (.ref C20) "behind" = some none)
    (a21 : findIn K (.ref C20) "__init__" = some (some (.ref f21))) (i21 : isFn K (.ref f21) = true)
    (l21 : K.lookup f21 = some ⟨o21, e21, .func (fnOf "__init__" "Book.__init__" (defArgs s_Book_init) (defBody s_Book_init) (defScope s_Book_init) .none v21 d21 p21 n21 c21 t21), w21⟩) (h21 : codeIn K c21 "Book.__init__" = true) (k21 : keepIn K (.ref f21) = true)
    (a22 : findIn K (.ref C20) "begin_anew" = some (some (.ref f22))) (i22 : isFn K (.ref f22) = true)
    (l22 : K.lookup f22 = some ⟨o22, e22, .func (fnOf "begin_anew" "Book.begin_anew" (defArgs s_Book_begin_anew) (defBody s_Book_begin_anew) (defScope s_Book_begin_anew) .none v22 d22 p22 n22 c22 t22), w22⟩) (h22 : codeIn K c22 "Book.begin_anew" = true) (k22 : keepIn K (.ref f22) = true)
    (a23 : findIn K (.ref C20) "turn_to" = some (some (.ref f23))) (i23 : isFn K (.ref f23) = true)
    (l23 : K.lookup f23 = some ⟨o23, e23, .func (fnOf "turn_to" "Book.turn_to" (defArgs s_Book_turn_to) (defBody s_Book_turn_to) (defScope s_Book_turn_to) .none v23 d23 p23 n23 c23 t23), w23⟩) (h23 : codeIn K c23 "Book.turn_to" = true) (k23 : keepIn K (.ref f23) = true)
    (aC24 : nsIn K mainGlobals "Need" = some (some (.ref C24)))
    (pgC24 : plainGet K C24 Str.empty = true) (hdC24 : hasDictIn K C24 = true) (poC24 : plainOver K C24 = true) (saC24 : findIn K (.ref C24) "__setattr__" = some (some (.builtin "object.__setattr__"))) (mkC24 : makesIn K C24 = true) (kcC24 : keepIn K (.ref C24) = true)
    (C24_gold : findIn K (.ref C24) "gold" = some none)
    (C24_copper : findIn K (.ref C24) "copper" = some none)
    (a25 : findIn K (.ref C24) "__init__" = some (some (.ref f25))) (i25 : isFn K (.ref f25) = true)
    (l25 : K.lookup f25 = some ⟨o25, e25, .func (fnOf "__init__" "Need.__init__" (defArgs s_Need_init) (defBody s_Need_init) (defScope s_Need_init) .none v25 d25 p25 n25 c25 t25), w25⟩) (h25 : codeIn K c25 "Need.__init__" = true) (k25 : keepIn K (.ref f25) = true)
    (a26 : findIn K (.ref C24) "together" = some (some (.ref f26))) (i26 : isFn K (.ref f26) = true)
    (l26 : K.lookup f26 = some ⟨o26, e26, .func (fnOf "together" "Need.together" (defArgs s_Need_together) (defBody s_Need_together) (defScope s_Need_together) .none v26 d26 p26 n26 c26 t26), w26⟩) (h26 : codeIn K c26 "Need.together" = true) (k26 : keepIn K (.ref f26) = true)
    (aC27 : nsIn K mainGlobals "Choice" = some (some (.ref C27)))
    (pgC27 : plainGet K C27 Str.empty = true) (hdC27 : hasDictIn K C27 = true) (poC27 : plainOver K C27 = true) (saC27 : findIn K (.ref C27) "__setattr__" = some (some (.builtin "object.__setattr__"))) (mkC27 : makesIn K C27 = true) (kcC27 : keepIn K (.ref C27) = true)
    (C27_bits : findIn K (.ref C27) "bits" = some none)
    (C27_lots : findIn K (.ref C27) "lots" = some none)
    (C27_metal : findIn K (.ref C27) "metal" = some none)
    (a28 : findIn K (.ref C27) "__init__" = some (some (.ref f28))) (i28 : isFn K (.ref f28) = true)
    (l28 : K.lookup f28 = some ⟨o28, e28, .func (fnOf "__init__" "Choice.__init__" (defArgs s_Choice_init) (defBody s_Choice_init) (defScope s_Choice_init) .none v28 d28 p28 n28 c28 t28), w28⟩) (h28 : codeIn K c28 "Choice.__init__" = true) (k28 : keepIn K (.ref f28) = true)
    (a29 : findIn K (.ref C27) "and_lot" = some (some (.ref f29))) (i29 : isFn K (.ref f29) = true)
    (l29 : K.lookup f29 = some ⟨o29, e29, .func (fnOf "and_lot" "Choice.and_lot" (defArgs s_Choice_and_lot) (defBody s_Choice_and_lot) (defScope s_Choice_and_lot) .none v29 d29 p29 n29 c29 t29), w29⟩) (h29 : codeIn K c29 "Choice.and_lot" = true) (k29 : keepIn K (.ref f29) = true)
    (aC30 : nsIn K mainGlobals "Plan" = some (some (.ref C30)))
    (pgC30 : plainGet K C30 Str.empty = true) (hdC30 : hasDictIn K C30 = true) (poC30 : plainOver K C30 = true) (saC30 : findIn K (.ref C30) "__setattr__" = some (some (.builtin "object.__setattr__"))) (mkC30 : makesIn K C30 = true) (kcC30 : keepIn K (.ref C30) = true)
    (C30_choice : findIn K (.ref C30) "choice" = some none)
    (C30_added : findIn K (.ref C30) "added" = some none)
    (a31 : findIn K (.ref C30) "__init__" = some (some (.ref f31))) (i31 : isFn K (.ref f31) = true)
    (l31 : K.lookup f31 = some ⟨o31, e31, .func (fnOf "__init__" "Plan.__init__" (defArgs s_Plan_init) (defBody s_Plan_init) (defScope s_Plan_init) .none v31 d31 p31 n31 c31 t31), w31⟩) (h31 : codeIn K c31 "Plan.__init__" = true) (k31 : keepIn K (.ref f31) = true)
    (a32 : findIn K (.ref C30) "is_better_than" = some (some (.ref f32))) (i32 : isFn K (.ref f32) = true)
    (l32 : K.lookup f32 = some ⟨o32, e32, .func (fnOf "is_better_than" "Plan.is_better_than" (defArgs s_Plan_is_better_than) (defBody s_Plan_is_better_than) (defScope s_Plan_is_better_than) .none v32 d32 p32 n32 c32 t32), w32⟩) (h32 : codeIn K c32 "Plan.is_better_than" = true) (k32 : keepIn K (.ref f32) = true)
    (a33 : nsIn K mainGlobals "is_kind_as_told" = some (some (.ref f33)))
    (l33 : K.lookup f33 = some ⟨o33, e33, .func (fnOf "is_kind_as_told" "is_kind_as_told" (defArgs s_is_kind_as_told) (defBody s_is_kind_as_told) (defScope s_is_kind_as_told) .none v33 d33 p33 n33 c33 t33), w33⟩) (h33 : codeIn K c33 "is_kind_as_told" = true) (k33 : keepIn K (.ref f33) = true)
    (a34 : nsIn K mainGlobals "make_kind" = some (some (.ref f34)))
    (l34 : K.lookup f34 = some ⟨o34, e34, .func (fnOf "make_kind" "make_kind" (defArgs s_make_kind) (defBody s_make_kind) (defScope s_make_kind) .none v34 d34 p34 n34 c34 t34), w34⟩) (h34 : codeIn K c34 "make_kind" = true) (k34 : keepIn K (.ref f34) = true)
    (a35 : nsIn K mainGlobals "make_die" = some (some (.ref f35)))
    (l35 : K.lookup f35 = some ⟨o35, e35, .func (fnOf "make_die" "make_die" (defArgs s_make_die) (defBody s_make_die) (defScope s_make_die) .none v35 d35 p35 n35 c35 t35), w35⟩) (h35 : codeIn K c35 "make_die" = true) (k35 : keepIn K (.ref f35) = true)
    (a36 : nsIn K mainGlobals "is_weight_of_lot" = some (some (.ref f36)))
    (l36 : K.lookup f36 = some ⟨o36, e36, .func (fnOf "is_weight_of_lot" "is_weight_of_lot" (defArgs s_is_weight_of_lot) (defBody s_is_weight_of_lot) (defScope s_is_weight_of_lot) .none v36 d36 p36 n36 c36 t36), w36⟩) (h36 : codeIn K c36 "is_weight_of_lot" = true) (k36 : keepIn K (.ref f36) = true)
    (a37 : nsIn K mainGlobals "bring" = some (some (.ref f37)))
    (l37 : K.lookup f37 = some ⟨o37, e37, .func (fnOf "bring" "bring" (defArgs s_bring) (defBody s_bring) (defScope s_bring) .none v37 d37 p37 n37 c37 t37), w37⟩) (h37 : codeIn K c37 "bring" = true) (k37 : keepIn K (.ref f37) = true)
    (a38 : nsIn K mainGlobals "bring_old_coin" = some (some (.ref f38)))
    (l38 : K.lookup f38 = some ⟨o38, e38, .func (fnOf "bring_old_coin" "bring_old_coin" (defArgs s_bring_old_coin) (defBody s_bring_old_coin) (defScope s_bring_old_coin) .none v38 d38 p38 n38 c38 t38), w38⟩) (h38 : codeIn K c38 "bring_old_coin" = true) (k38 : keepIn K (.ref f38) = true)
    (a39 : nsIn K mainGlobals "first_empty_place" = some (some (.ref f39)))
    (l39 : K.lookup f39 = some ⟨o39, e39, .func (fnOf "first_empty_place" "first_empty_place" (defArgs s_first_empty_place) (defBody s_first_empty_place) (defScope s_first_empty_place) .none v39 d39 p39 n39 c39 t39), w39⟩) (h39 : codeIn K c39 "first_empty_place" = true) (k39 : keepIn K (.ref f39) = true)
    (a40 : nsIn K mainGlobals "take_in" = some (some (.ref f40)))
    (l40 : K.lookup f40 = some ⟨o40, e40, .func (fnOf "take_in" "take_in" (defArgs s_take_in) (defBody s_take_in) (defScope s_take_in) .none v40 d40 p40 n40 c40 t40), w40⟩) (h40 : codeIn K c40 "take_in" = true) (k40 : keepIn K (.ref f40) = true)
    (a41 : nsIn K mainGlobals "thousandths_rounded_up" = some (some (.ref f41)))
    (l41 : K.lookup f41 = some ⟨o41, e41, .func (fnOf "thousandths_rounded_up" "thousandths_rounded_up" (defArgs s_thousandths_rounded_up) (defBody s_thousandths_rounded_up) (defScope s_thousandths_rounded_up) .none v41 d41 p41 n41 c41 t41), w41⟩) (h41 : codeIn K c41 "thousandths_rounded_up" = true) (k41 : keepIn K (.ref f41) = true)
    (a42 : nsIn K mainGlobals "begin" = some (some (.ref f42)))
    (l42 : K.lookup f42 = some ⟨o42, e42, .func (fnOf "begin" "begin" (defArgs s_begin) (defBody s_begin) (defScope s_begin) .none v42 d42 p42 n42 c42 t42), w42⟩) (h42 : codeIn K c42 "begin" = true) (k42 : keepIn K (.ref f42) = true)
    (a43 : nsIn K mainGlobals "take_back" = some (some (.ref f43)))
    (l43 : K.lookup f43 = some ⟨o43, e43, .func (fnOf "take_back" "take_back" (defArgs s_take_back) (defBody s_take_back) (defScope s_take_back) .none v43 d43 p43 n43 c43 t43), w43⟩) (h43 : codeIn K c43 "take_back" = true) (k43 : keepIn K (.ref f43) = true)
    (a44 : nsIn K mainGlobals "do_again" = some (some (.ref f44)))
    (l44 : K.lookup f44 = some ⟨o44, e44, .func (fnOf "do_again" "do_again" (defArgs s_do_again) (defBody s_do_again) (defScope s_do_again) .none v44 d44 p44 n44 c44 t44), w44⟩) (h44 : codeIn K c44 "do_again" = true) (k44 : keepIn K (.ref f44) = true)
    (a45 : nsIn K mainGlobals "tell_state" = some (some (.ref f45)))
    (l45 : K.lookup f45 = some ⟨o45, e45, .func (fnOf "tell_state" "tell_state" (defArgs s_tell_state) (defBody s_tell_state) (defScope s_tell_state) .none v45 d45 p45 n45 c45 t45), w45⟩) (h45 : codeIn K c45 "tell_state" = true) (k45 : keepIn K (.ref f45) = true)
    (a46 : nsIn K mainGlobals "gold_by_rest" = some (some (.ref f46)))
    (l46 : K.lookup f46 = some ⟨o46, e46, .func (fnOf "gold_by_rest" "gold_by_rest" (defArgs s_gold_by_rest) (defBody s_gold_by_rest) (defScope s_gold_by_rest) .none v46 d46 p46 n46 c46 t46), w46⟩) (h46 : codeIn K c46 "gold_by_rest" = true) (k46 : keepIn K (.ref f46) = true)
    (a47 : nsIn K mainGlobals "find_need" = some (some (.ref f47)))
    (l47 : K.lookup f47 = some ⟨o47, e47, .func (fnOf "find_need" "find_need" (defArgs s_find_need) (defBody s_find_need) (defScope s_find_need) .none v47 d47 p47 n47 c47 t47), w47⟩) (h47 : codeIn K c47 "find_need" = true) (k47 : keepIn K (.ref f47) = true)
    (a48 : nsIn K mainGlobals "all_choices" = some (some (.ref f48)))
    (l48 : K.lookup f48 = some ⟨o48, e48, .func (fnOf "all_choices" "all_choices" (defArgs s_all_choices) (defBody s_all_choices) (defScope s_all_choices) .none v48 d48 p48 n48 c48 t48), w48⟩) (h48 : codeIn K c48 "all_choices" = true) (k48 : keepIn K (.ref f48) = true)
    (a49 : nsIn K mainGlobals "find_plan" = some (some (.ref f49)))
    (l49 : K.lookup f49 = some ⟨o49, e49, .func (fnOf "find_plan" "find_plan" (defArgs s_find_plan) (defBody s_find_plan) (defScope s_find_plan) .none v49 d49 p49 n49 c49 t49), w49⟩) (h49 : codeIn K c49 "find_plan" = true) (k49 : keepIn K (.ref f49) = true)
    (a50 : nsIn K mainGlobals "places_of" = some (some (.ref f50)))
    (l50 : K.lookup f50 = some ⟨o50, e50, .func (fnOf "places_of" "places_of" (defArgs s_places_of) (defBody s_places_of) (defScope s_places_of) .none v50 d50 p50 n50 c50 t50), w50⟩) (h50 : codeIn K c50 "places_of" = true) (k50 : keepIn K (.ref f50) = true)
    (a51 : nsIn K mainGlobals "melt" = some (some (.ref f51)))
    (l51 : K.lookup f51 = some ⟨o51, e51, .func (fnOf "melt" "melt" (defArgs s_melt) (defBody s_melt) (defScope s_melt) .none v51 d51 p51 n51 c51 t51), w51⟩) (h51 : codeIn K c51 "melt" = true) (k51 : keepIn K (.ref f51) = true)
    (a52 : nsIn K mainGlobals "add_metal" = some (some (.ref f52)))
    (l52 : K.lookup f52 = some ⟨o52, e52, .func (fnOf "add_metal" "add_metal" (defArgs s_add_metal) (defBody s_add_metal) (defScope s_add_metal) .none v52 d52 p52 n52 c52 t52), w52⟩) (h52 : codeIn K c52 "add_metal" = true) (k52 : keepIn K (.ref f52) = true)
    (a53 : nsIn K mainGlobals "tell_fits" = some (some (.ref f53)))
    (l53 : K.lookup f53 = some ⟨o53, e53, .func (fnOf "tell_fits" "tell_fits" (defArgs s_tell_fits) (defBody s_tell_fits) (defScope s_tell_fits) .none v53 d53 p53 n53 c53 t53), w53⟩) (h53 : codeIn K c53 "tell_fits" = true) (k53 : keepIn K (.ref f53) = true)
    (a54 : nsIn K mainGlobals "tell_need" = some (some (.ref f54)))
    (l54 : K.lookup f54 = some ⟨o54, e54, .func (fnOf "tell_need" "tell_need" (defArgs s_tell_need) (defBody s_tell_need) (defScope s_tell_need) .none v54 d54 p54 n54 c54 t54), w54⟩) (h54 : codeIn K c54 "tell_need" = true) (k54 : keepIn K (.ref f54) = true)
    (a55 : nsIn K mainGlobals "tell_plan" = some (some (.ref f55)))
    (l55 : K.lookup f55 = some ⟨o55, e55, .func (fnOf "tell_plan" "tell_plan" (defArgs s_tell_plan) (defBody s_tell_plan) (defScope s_tell_plan) .none v55 d55 p55 n55 c55 t55), w55⟩) (h55 : codeIn K c55 "tell_plan" = true) (k55 : keepIn K (.ref f55) = true)
    (a56 : nsIn K mainGlobals "pay" = some (some (.ref f56)))
    (l56 : K.lookup f56 = some ⟨o56, e56, .func (fnOf "pay" "pay" (defArgs s_pay) (defBody s_pay) (defScope s_pay) .none v56 d56 p56 n56 c56 t56), w56⟩) (h56 : codeIn K c56 "pay" = true) (k56 : keepIn K (.ref f56) = true)
    (a57 : nsIn K mainGlobals "tell_credit" = some (some (.ref f57)))
    (l57 : K.lookup f57 = some ⟨o57, e57, .func (fnOf "tell_credit" "tell_credit" (defArgs s_tell_credit) (defBody s_tell_credit) (defScope s_tell_credit) .none v57 d57 p57 n57 c57 t57), w57⟩) (h57 : codeIn K c57 "tell_credit" = true) (k57 : keepIn K (.ref f57) = true)
    (a58 : nsIn K mainGlobals "tell_stock" = some (some (.ref f58)))
    (l58 : K.lookup f58 = some ⟨o58, e58, .func (fnOf "tell_stock" "tell_stock" (defArgs s_tell_stock) (defBody s_tell_stock) (defScope s_tell_stock) .none v58 d58 p58 n58 c58 t58), w58⟩) (h58 : codeIn K c58 "tell_stock" = true) (k58 : keepIn K (.ref f58) = true)
    (a59 : nsIn K mainGlobals "tell_off" = some (some (.ref f59)))
    (l59 : K.lookup f59 = some ⟨o59, e59, .func (fnOf "tell_off" "tell_off" (defArgs s_tell_off) (defBody s_tell_off) (defScope s_tell_off) .none v59 d59 p59 n59 c59 t59), w59⟩) (h59 : codeIn K c59 "tell_off" = true) (k59 : keepIn K (.ref f59) = true)
    (a60 : nsIn K mainGlobals "can_be_struck" = some (some (.ref f60)))
    (l60 : K.lookup f60 = some ⟨o60, e60, .func (fnOf "can_be_struck" "can_be_struck" (defArgs s_can_be_struck) (defBody s_can_be_struck) (defScope s_can_be_struck) .none v60 d60 p60 n60 c60 t60), w60⟩) (h60 : codeIn K c60 "can_be_struck" = true) (k60 : keepIn K (.ref f60) = true)
    (a61 : nsIn K mainGlobals "strike_blank" = some (some (.ref f61)))
    (l61 : K.lookup f61 = some ⟨o61, e61, .func (fnOf "strike_blank" "strike_blank" (defArgs s_strike_blank) (defBody s_strike_blank) (defScope s_strike_blank) .none v61 d61 p61 n61 c61 t61), w61⟩) (h61 : codeIn K c61 "strike_blank" = true) (k61 : keepIn K (.ref f61) = true)
    (a62 : nsIn K mainGlobals "strike" = some (some (.ref f62)))
    (l62 : K.lookup f62 = some ⟨o62, e62, .func (fnOf "strike" "strike" (defArgs s_strike) (defBody s_strike) (defScope s_strike) .none v62 d62 p62 n62 c62 t62), w62⟩) (h62 : codeIn K c62 "strike" = true) (k62 : keepIn K (.ref f62) = true)
    (a63 : nsIn K mainGlobals "tell_enough" = some (some (.ref f63)))
    (l63 : K.lookup f63 = some ⟨o63, e63, .func (fnOf "tell_enough" "tell_enough" (defArgs s_tell_enough) (defBody s_tell_enough) (defScope s_tell_enough) .none v63 d63 p63 n63 c63 t63), w63⟩) (h63 : codeIn K c63 "tell_enough" = true) (k63 : keepIn K (.ref f63) = true)
    (a64 : nsIn K mainGlobals "box_passes" = some (some (.ref f64)))
    (l64 : K.lookup f64 = some ⟨o64, e64, .func (fnOf "box_passes" "box_passes" (defArgs s_box_passes) (defBody s_box_passes) (defScope s_box_passes) .none v64 d64 p64 n64 c64 t64), w64⟩) (h64 : codeIn K c64 "box_passes" = true) (k64 : keepIn K (.ref f64) = true)
    (a65 : nsIn K mainGlobals "try_box" = some (some (.ref f65)))
    (l65 : K.lookup f65 = some ⟨o65, e65, .func (fnOf "try_box" "try_box" (defArgs s_try_box) (defBody s_try_box) (defScope s_try_box) .none v65 d65 p65 n65 c65 t65), w65⟩) (h65 : codeIn K c65 "try_box" = true) (k65 : keepIn K (.ref f65) = true)
    (a66 : nsIn K mainGlobals "put_box_in_stock" = some (some (.ref f66)))
    (l66 : K.lookup f66 = some ⟨o66, e66, .func (fnOf "put_box_in_stock" "put_box_in_stock" (defArgs s_put_box_in_stock) (defBody s_put_box_in_stock) (defScope s_put_box_in_stock) .none v66 d66 p66 n66 c66 t66), w66⟩) (h66 : codeIn K c66 "put_box_in_stock" = true) (k66 : keepIn K (.ref f66) = true)
    (a67 : nsIn K mainGlobals "put_box_in_pot" = some (some (.ref f67)))
    (l67 : K.lookup f67 = some ⟨o67, e67, .func (fnOf "put_box_in_pot" "put_box_in_pot" (defArgs s_put_box_in_pot) (defBody s_put_box_in_pot) (defScope s_put_box_in_pot) .none v67 d67 p67 n67 c67 t67), w67⟩) (h67 : codeIn K c67 "put_box_in_pot" = true) (k67 : keepIn K (.ref f67) = true)
    (a68 : nsIn K mainGlobals "tell_pot" = some (some (.ref f68)))
    (l68 : K.lookup f68 = some ⟨o68, e68, .func (fnOf "tell_pot" "tell_pot" (defArgs s_tell_pot) (defBody s_tell_pot) (defScope s_tell_pot) .none v68 d68 p68 n68 c68 t68), w68⟩) (h68 : codeIn K c68 "tell_pot" = true) (k68 : keepIn K (.ref f68) = true)
    (a69 : nsIn K mainGlobals "tell_lots" = some (some (.ref f69)))
    (l69 : K.lookup f69 = some ⟨o69, e69, .func (fnOf "tell_lots" "tell_lots" (defArgs s_tell_lots) (defBody s_tell_lots) (defScope s_tell_lots) .none v69 d69 p69 n69 c69 t69), w69⟩) (h69 : codeIn K c69 "tell_lots" = true) (k69 : keepIn K (.ref f69) = true)
    (a70 : nsIn K mainGlobals "tell_worn" = some (some (.ref f70)))
    (l70 : K.lookup f70 = some ⟨o70, e70, .func (fnOf "tell_worn" "tell_worn" (defArgs s_tell_worn) (defBody s_tell_worn) (defScope s_tell_worn) .none v70 d70 p70 n70 c70 t70), w70⟩) (h70 : codeIn K c70 "tell_worn" = true) (k70 : keepIn K (.ref f70) = true)
    (a71 : nsIn K mainGlobals "find_held" = some (some (.ref f71)))
    (l71 : K.lookup f71 = some ⟨o71, e71, .func (fnOf "find_held" "find_held" (defArgs s_find_held) (defBody s_find_held) (defScope s_find_held) .none v71 d71 p71 n71 c71 t71), w71⟩) (h71 : codeIn K c71 "find_held" = true) (k71 : keepIn K (.ref f71) = true)
    (a72 : nsIn K mainGlobals "tell_ledger" = some (some (.ref f72)))
    (l72 : K.lookup f72 = some ⟨o72, e72, .func (fnOf "tell_ledger" "tell_ledger" (defArgs s_tell_ledger) (defBody s_tell_ledger) (defScope s_tell_ledger) .none v72 d72 p72 n72 c72 t72), w72⟩) (h72 : codeIn K c72 "tell_ledger" = true) (k72 : keepIn K (.ref f72) = true)
    (a73 : nsIn K mainGlobals "tell_claims" = some (some (.ref f73)))
    (l73 : K.lookup f73 = some ⟨o73, e73, .func (fnOf "tell_claims" "tell_claims" (defArgs s_tell_claims) (defBody s_tell_claims) (defScope s_tell_claims) .none v73 d73 p73 n73 c73 t73), w73⟩) (h73 : codeIn K c73 "tell_claims" = true) (k73 : keepIn K (.ref f73) = true)
    (a74 : nsIn K mainGlobals "answers" = some (some (.ref f74)))
    (l74 : K.lookup f74 = some ⟨o74, e74, .func (fnOf "answers" "answers" (defArgs s_answers) (defBody s_answers) (defScope s_answers) .none v74 d74 p74 n74 c74 t74), w74⟩) (h74 : codeIn K c74 "answers" = true) (k74 : keepIn K (.ref f74) = true)
    (a75 : nsIn K mainGlobals "answer_call" = some (some (.ref f75)))
    (l75 : K.lookup f75 = some ⟨o75, e75, .func (fnOf "answer_call" "answer_call" (defArgs s_answer_call) (defBody s_answer_call) (defScope s_answer_call) .none v75 d75 p75 n75 c75 t75), w75⟩) (h75 : codeIn K c75 "answer_call" = true) (k75 : keepIn K (.ref f75) = true)
    (a76 : nsIn K mainGlobals "make_change" = some (some (.ref f76)))
    (l76 : K.lookup f76 = some ⟨o76, e76, .func (fnOf "make_change" "make_change" (defArgs s_make_change) (defBody s_make_change) (defScope s_make_change) .none v76 d76 p76 n76 c76 t76), w76⟩) (h76 : codeIn K c76 "make_change" = true) (k76 : keepIn K (.ref f76) = true)
    (a77 : nsIn K mainGlobals "answer_of_mint" = some (some (.ref f77)))
    (l77 : K.lookup f77 = some ⟨o77, e77, .func (fnOf "answer_of_mint" "answer_of_mint" (defArgs s_answer_of_mint) (defBody s_answer_of_mint) (defScope s_answer_of_mint) .none v77 d77 p77 n77 c77 t77), w77⟩) (h77 : codeIn K c77 "answer_of_mint" = true) (k77 : keepIn K (.ref f77) = true)
    (a78 : nsIn K mainGlobals "answer_bringing" = some (some (.ref f78)))
    (l78 : K.lookup f78 = some ⟨o78, e78, .func (fnOf "answer_bringing" "answer_bringing" (defArgs s_answer_bringing) (defBody s_answer_bringing) (defScope s_answer_bringing) .none v78 d78 p78 n78 c78 t78), w78⟩) (h78 : codeIn K c78 "answer_bringing" = true) (k78 : keepIn K (.ref f78) = true)
    (a79 : nsIn K mainGlobals "answer_melting" = some (some (.ref f79)))
    (l79 : K.lookup f79 = some ⟨o79, e79, .func (fnOf "answer_melting" "answer_melting" (defArgs s_answer_melting) (defBody s_answer_melting) (defScope s_answer_melting) .none v79 d79 p79 n79 c79 t79), w79⟩) (h79 : codeIn K c79 "answer_melting" = true) (k79 : keepIn K (.ref f79) = true)
    (a80 : nsIn K mainGlobals "answer_striking" = some (some (.ref f80)))
    (l80 : K.lookup f80 = some ⟨o80, e80, .func (fnOf "answer_striking" "answer_striking" (defArgs s_answer_striking) (defBody s_answer_striking) (defScope s_answer_striking) .none v80 d80 p80 n80 c80 t80), w80⟩) (h80 : codeIn K c80 "answer_striking" = true) (k80 : keepIn K (.ref f80) = true)
    (a81 : nsIn K mainGlobals "answer_paying" = some (some (.ref f81)))
    (l81 : K.lookup f81 = some ⟨o81, e81, .func (fnOf "answer_paying" "answer_paying" (defArgs s_answer_paying) (defBody s_answer_paying) (defScope s_answer_paying) .none v81 d81 p81 n81 c81 t81), w81⟩) (h81 : codeIn K c81 "answer_paying" = true) (k81 : keepIn K (.ref f81) = true)
    (a82 : nsIn K mainGlobals "answer_telling" = some (some (.ref f82)))
    (l82 : K.lookup f82 = some ⟨o82, e82, .func (fnOf "answer_telling" "answer_telling" (defArgs s_answer_telling) (defBody s_answer_telling) (defScope s_answer_telling) .none v82 d82 p82 n82 c82 t82), w82⟩) (h82 : codeIn K c82 "answer_telling" = true) (k82 : keepIn K (.ref f82) = true)
    (a83 : nsIn K mainGlobals "NOT_THERE" = some (some (.int (-2) t83)))
    (a84 : nsIn K mainGlobals "BOX_EMPTY" = some (some (.int (-6) t84)))
    (a85 : nsIn K mainGlobals "TOO_FEW_COINS" = some (some (.int (-12) t85)))
    (a86 : nsIn K mainGlobals "OTHER_KIND" = some (some (.int (-13) t86)))
    (a87 : nsIn K mainGlobals "TOO_LITTLE_CREDIT" = some (some (.int (-20) t87)))
    (a88 : nsIn K mainGlobals "NOT_AS_TOLD" = some (some (.int (-22) t88)))
    (a89 : nsIn K mainGlobals "NO_ROOM" = some (some (.int (-28) t89)))
    (a90 : nsIn K mainGlobals "NOT_TO_BE_DONE" = some (some (.int (-33) t90)))
    (a91 : nsIn K mainGlobals "NOT_AS_FINE" = some (some (.int (-71) t91)))
    (a92 : nsIn K mainGlobals "CARATS_OF_GOLD" = some (some (.int (24) t92)))
    (a93 : nsIn K mainGlobals "PLACES" = some (some (.int (10) t93)))
    (a94 : nsIn K mainGlobals "PEOPLE" = some (some (.int (6) t94)))
    (a95 : nsIn K mainGlobals "MOST_IN_POT" = some (some (.int (2000000) t95)))
    (a96 : nsIn K mainGlobals "MOST_KINDS" = some (some (.int (4) t96)))
    (a97 : nsIn K mainGlobals "MOST_GRAINS_OF_COIN" = some (some (.int (10000) t97)))
    (a98 : nsIn K mainGlobals "MOST_REMEDY" = some (some (.int (100) t98)))
    (a99 : nsIn K mainGlobals "MOST_DIES" = some (some (.int (6) t99)))
    (a100 : nsIn K mainGlobals "MOST_COINS_OF_DIE" = some (some (.int (1000) t100)))
    (a101 : nsIn K mainGlobals "MOST_GRAINS_OF_LOT" = some (some (.int (100000) t101)))
    (a102 : nsIn K mainGlobals "MOST_KEPT" = some (some (.int (500) t102)))
    (a103 : nsIn K mainGlobals "MOST_CHANGES" = some (some (.int (30) t103)))
    (a104 : nsIn K mainGlobals "MOST_BITS" = some (some (.int (1023) t104)))
    (a105 : nsIn K mainGlobals "MOST_ADDED" = some (some (.int (100000) t105)))
    (a106 : nsIn K mainGlobals "MOST_BLANKS" = some (some (.int (8) t106)))
    (a107 : nsIn K mainGlobals "MOST_COINS_OF_KIND" = some (some (.int (60) t107)))
    (a108 : nsIn K mainGlobals "EACH_TENTH" = some (some (.int (10) t108)))
    (a109 : nsIn K mainGlobals "MI_BEGIN" = some (some (.int (0) t109)))
    (a110 : nsIn K mainGlobals "MI_KIND" = some (some (.int (1) t110)))
    (a111 : nsIn K mainGlobals "MI_DIE" = some (some (.int (2) t111)))
    (a112 : nsIn K mainGlobals "MI_BRING" = some (some (.int (3) t112)))
    (a113 : nsIn K mainGlobals "MI_OLD" = some (some (.int (4) t113)))
    (a114 : nsIn K mainGlobals "MI_MELT" = some (some (.int (5) t114)))
    (a115 : nsIn K mainGlobals "MI_ADD" = some (some (.int (6) t115)))
    (a116 : nsIn K mainGlobals "MI_FITS" = some (some (.int (7) t116)))
    (a117 : nsIn K mainGlobals "MI_NEED" = some (some (.int (8) t117)))
    (a118 : nsIn K mainGlobals "MI_PLAN" = some (some (.int (9) t118)))
    (a119 : nsIn K mainGlobals "MI_STRIKE" = some (some (.int (10) t119)))
    (a120 : nsIn K mainGlobals "MI_ENOUGH" = some (some (.int (11) t120)))
    (a121 : nsIn K mainGlobals "MI_TRIAL" = some (some (.int (12) t121)))
    (a122 : nsIn K mainGlobals "MI_OPEN" = some (some (.int (13) t122)))
    (a123 : nsIn K mainGlobals "MI_BREAK" = some (some (.int (14) t123)))
    (a124 : nsIn K mainGlobals "MI_PAY" = some (some (.int (15) t124)))
    (a125 : nsIn K mainGlobals "MI_CREDIT" = some (some (.int (16) t125)))
    (a126 : nsIn K mainGlobals "MI_STOCK" = some (some (.int (17) t126)))
    (a127 : nsIn K mainGlobals "MI_OFF" = some (some (.int (18) t127)))
    (a128 : nsIn K mainGlobals "MI_POT" = some (some (.int (19) t128)))
    (a129 : nsIn K mainGlobals "MI_LOTS" = some (some (.int (20) t129)))
    (a130 : nsIn K mainGlobals "MI_WORN" = some (some (.int (21) t130)))
    (a131 : nsIn K mainGlobals "MI_LEDGER" = some (some (.int (22) t131)))
    (a132 : nsIn K mainGlobals "MI_BACK" = some (some (.int (24) t132)))
    (a133 : nsIn K mainGlobals "MI_AGAIN" = some (some (.int (25) t133)))
    (a134 : nsIn K mainGlobals "MI_STATE" = some (some (.int (26) t134)))
    (a135 : nsIn K mainGlobals "NUMBERS_BEHIND" = some (some (.ref T135))) (l135 : K.lookup T135 = some ⟨.type "tuple", e135, .seq i135 n135, w135⟩) (z135 : i135.size ≤ sizeLine) (v135 : Vals (([1, 3, 2, 3, 3, 1, 2, 1, 1, 2, 12, 1, 1, 1, 1, 3, 1, 1, 1, 0, 0, 0, 0, 0, 0, 0, 0] : List Int).map V.int) i135.toList)
    (a136 : nsIn K mainGlobals "CHANGES" = some (some (.ref T136))) (l136 : K.lookup T136 = some ⟨.type "tuple", e136, .seq i136 n136, w136⟩) (z136 : i136.size ≤ sizeLine) (v136 : Vals (([1, 2, 3, 4, 5, 6, 10, 13, 14, 15] : List Int).map V.int) i136.toList)
    (z_len : nsIn K mainGlobals "len" = some none)
    (z_range : nsIn K mainGlobals "range" = some none)
    (z_abs : nsIn K mainGlobals "abs" = some none)
    (z_sum : nsIn K mainGlobals "sum" = some none)
    (z_min : nsIn K mainGlobals "min" = some none)
    (z_max : nsIn K mainGlobals "max" = some none)
    (z_list : nsIn K mainGlobals "list" = some none) :
    ∃ Z : Adr, Txt K mg Z :=
  ⟨{
    c_Metal := C0,
    c_Kind := C6,
    c_Die := C10,
    c_Mint := C13,
    c_Book := C20,
    c_Need := C24,
    c_Choice := C27,
    c_Plan := C30,
    f_Metal_init := f1,
    d_Metal_init := _,
    f_Metal_is_none := f2,
    d_Metal_is_none := _,
    f_Metal_is_as_fine_as := f3,
    d_Metal_is_as_fine_as := _,
    f_Metal_together_with := f4,
    d_Metal_together_with := _,
    f_Metal_less := f5,
    d_Metal_less := _,
    f_Kind_init := f7,
    d_Kind_init := _,
    f_Kind_metal_of := f8,
    d_Kind_metal_of := _,
    f_Kind_another_alike := f9,
    d_Kind_another_alike := _,
    f_Die_init := f11,
    d_Die_init := _,
    f_Die_another_alike := f12,
    d_Die_another_alike := _,
    f_Mint_init := f14,
    d_Mint_init := _,
    f_Mint_another_alike := f15,
    d_Mint_another_alike := _,
    f_Mint_count_lots := f16,
    d_Mint_count_lots := _,
    f_Mint_has_kind := f17,
    d_Mint_has_kind := _,
    f_Mint_has_die := f18,
    d_Mint_has_die := _,
    f_Mint_has_person := f19,
    d_Mint_has_person := _,
    f_is_kind_as_told := f33,
    d_is_kind_as_told := _,
    f_make_kind := f34,
    d_make_kind := _,
    f_make_die := f35,
    d_make_die := _,
    f_is_weight_of_lot := f36,
    d_is_weight_of_lot := _,
    f_bring := f37,
    d_bring := _,
    f_bring_old_coin := f38,
    d_bring_old_coin := _,
    f_first_empty_place := f39,
    d_first_empty_place := _,
    f_take_in := f40,
    d_take_in := _,
    f_thousandths_rounded_up := f41,
    d_thousandths_rounded_up := _,
    f_Book_init := f21,
    d_Book_init := _,
    f_Book_begin_anew := f22,
    d_Book_begin_anew := _,
    f_Book_turn_to := f23,
    d_Book_turn_to := _,
    f_begin := f42,
    d_begin := _,
    f_take_back := f43,
    d_take_back := _,
    f_do_again := f44,
    d_do_again := _,
    f_tell_state := f45,
    d_tell_state := _,
    f_Need_init := f25,
    d_Need_init := _,
    f_Need_together := f26,
    d_Need_together := _,
    f_Choice_init := f28,
    d_Choice_init := _,
    f_Choice_and_lot := f29,
    d_Choice_and_lot := _,
    f_Plan_init := f31,
    d_Plan_init := _,
    f_Plan_is_better_than := f32,
    d_Plan_is_better_than := _,
    f_gold_by_rest := f46,
    d_gold_by_rest := _,
    f_find_need := f47,
    d_find_need := _,
    f_all_choices := f48,
    d_all_choices := _,
    f_find_plan := f49,
    d_find_plan := _,
    f_places_of := f50,
    d_places_of := _,
    f_melt := f51,
    d_melt := _,
    f_add_metal := f52,
    d_add_metal := _,
    f_tell_fits := f53,
    d_tell_fits := _,
    f_tell_need := f54,
    d_tell_need := _,
    f_tell_plan := f55,
    d_tell_plan := _,
    f_pay := f56,
    d_pay := _,
    f_tell_credit := f57,
    d_tell_credit := _,
    f_tell_stock := f58,
    d_tell_stock := _,
    f_tell_off := f59,
    d_tell_off := _,
    f_can_be_struck := f60,
    d_can_be_struck := _,
    f_strike_blank := f61,
    d_strike_blank := _,
    f_strike := f62,
    d_strike := _,
    f_tell_enough := f63,
    d_tell_enough := _,
    f_box_passes := f64,
    d_box_passes := _,
    f_try_box := f65,
    d_try_box := _,
    f_put_box_in_stock := f66,
    d_put_box_in_stock := _,
    f_put_box_in_pot := f67,
    d_put_box_in_pot := _,
    f_tell_pot := f68,
    d_tell_pot := _,
    f_tell_lots := f69,
    d_tell_lots := _,
    f_tell_worn := f70,
    d_tell_worn := _,
    f_find_held := f71,
    d_find_held := _,
    f_tell_ledger := f72,
    d_tell_ledger := _,
    f_tell_claims := f73,
    d_tell_claims := _,
    f_answers := f74,
    d_answers := _,
    f_answer_call := f75,
    d_answer_call := _,
    f_make_change := f76,
    d_make_change := _,
    f_answer_of_mint := f77,
    d_answer_of_mint := _,
    f_answer_bringing := f78,
    d_answer_bringing := _,
    f_answer_melting := f79,
    d_answer_melting := _,
    f_answer_striking := f80,
    d_answer_striking := _,
    f_answer_paying := f81,
    d_answer_paying := _,
    f_answer_telling := f82,
    d_answer_telling := _,
    t_NUMBERS_BEHIND := T135,
    t_CHANGES := T136 }, {
    cl_Metal := ⟨pgC0, hdC0, poC0, saC0⟩,
    mk_Metal := ⟨mkC0, a1, i1, kcC0⟩,
    g_Metal := mg_of X G aC0,
    n_Metal_grains := C0_grains,
    n_Metal_carats := C0_carats,
    m_Metal_is_none := ⟨a2, i2, k2⟩,
    m_Metal_is_as_fine_as := ⟨a3, i3, k3⟩,
    m_Metal_together_with := ⟨a4, i4, k4⟩,
    m_Metal_less := ⟨a5, i5, k5⟩,
    cl_Kind := ⟨pgC6, hdC6, poC6, saC6⟩,
    mk_Kind := ⟨mkC6, a7, i7, kcC6⟩,
    g_Kind := mg_of X G aC6,
    n_Kind_grains := C6_grains,
    n_Kind_fine := C6_fine,
    n_Kind_remedy := C6_remedy,
    n_Kind_struck := C6_struck,
    n_Kind_stock := C6_stock,
    n_Kind_box := C6_box,
    m_Kind_metal_of := ⟨a8, i8, k8⟩,
    m_Kind_another_alike := ⟨a9, i9, k9⟩,
    cl_Die := ⟨pgC10, hdC10, poC10, saC10⟩,
    mk_Die := ⟨mkC10, a11, i11, kcC10⟩,
    g_Die := mg_of X G aC10,
    n_Die_kind := C10_kind,
    n_Die_left := C10_left,
    m_Die_another_alike := ⟨a12, i12, k12⟩,
    cl_Mint := ⟨pgC13, hdC13, poC13, saC13⟩,
    mk_Mint := ⟨mkC13, a14, i14, kcC13⟩,
    g_Mint := mg_of X G aC13,
    n_Mint_keeps := C13_keeps,
    n_Mint_kinds := C13_kinds,
    n_Mint_dies := C13_dies,
    n_Mint_lots := C13_lots,
    n_Mint_pot := C13_pot,
    n_Mint_credit := C13_credit,
    n_Mint_kept := C13_kept,
    n_Mint_lessened := C13_lessened,
    n_Mint_brought := C13_brought,
    n_Mint_added := C13_added,
    n_Mint_paid := C13_paid,
    m_Mint_another_alike := ⟨a15, i15, k15⟩,
    m_Mint_count_lots := ⟨a16, i16, k16⟩,
    m_Mint_has_kind := ⟨a17, i17, k17⟩,
    m_Mint_has_die := ⟨a18, i18, k18⟩,
    m_Mint_has_person := ⟨a19, i19, k19⟩,
    cl_Book := ⟨pgC20, hdC20, poC20, saC20⟩,
    mk_Book := ⟨mkC20, a21, i21, kcC20⟩,
    g_Book := mg_of X G aC20,
    n_Book_mint := C20_mint,
    n_Book_before := C20_before,
    n_Book_behind := C20_behind,
    m_Book_begin_anew := ⟨a22, i22, k22⟩,
    m_Book_turn_to := ⟨a23, i23, k23⟩,
    cl_Need := ⟨pgC24, hdC24, poC24, saC24⟩,
    mk_Need := ⟨mkC24, a25, i25, kcC24⟩,
    g_Need := mg_of X G aC24,
    n_Need_gold := C24_gold,
    n_Need_copper := C24_copper,
    m_Need_together := ⟨a26, i26, k26⟩,
    cl_Choice := ⟨pgC27, hdC27, poC27, saC27⟩,
    mk_Choice := ⟨mkC27, a28, i28, kcC27⟩,
    g_Choice := mg_of X G aC27,
    n_Choice_bits := C27_bits,
    n_Choice_lots := C27_lots,
    n_Choice_metal := C27_metal,
    m_Choice_and_lot := ⟨a29, i29, k29⟩,
    cl_Plan := ⟨pgC30, hdC30, poC30, saC30⟩,
    mk_Plan := ⟨mkC30, a31, i31, kcC30⟩,
    g_Plan := mg_of X G aC30,
    n_Plan_choice := C30_choice,
    n_Plan_added := C30_added,
    m_Plan_is_better_than := ⟨a32, i32, k32⟩,
    F_Metal_init := fun_mk (st := s_Metal_init) l1 h1 k1,
    F_Metal_is_none := fun_mk (st := s_Metal_is_none) l2 h2 k2,
    F_Metal_is_as_fine_as := fun_mk (st := s_Metal_is_as_fine_as) l3 h3 k3,
    F_Metal_together_with := fun_mk (st := s_Metal_together_with) l4 h4 k4,
    F_Metal_less := fun_mk (st := s_Metal_less) l5 h5 k5,
    F_Kind_init := fun_mk (st := s_Kind_init) l7 h7 k7,
    F_Kind_metal_of := fun_mk (st := s_Kind_metal_of) l8 h8 k8,
    F_Kind_another_alike := fun_mk (st := s_Kind_another_alike) l9 h9 k9,
    F_Die_init := fun_mk (st := s_Die_init) l11 h11 k11,
    F_Die_another_alike := fun_mk (st := s_Die_another_alike) l12 h12 k12,
    F_Mint_init := fun_mk (st := s_Mint_init) l14 h14 k14,
    F_Mint_another_alike := fun_mk (st := s_Mint_another_alike) l15 h15 k15,
    F_Mint_count_lots := fun_mk (st := s_Mint_count_lots) l16 h16 k16,
    F_Mint_has_kind := fun_mk (st := s_Mint_has_kind) l17 h17 k17,
    F_Mint_has_die := fun_mk (st := s_Mint_has_die) l18 h18 k18,
    F_Mint_has_person := fun_mk (st := s_Mint_has_person) l19 h19 k19,
    F_is_kind_as_told := fun_mk (st := s_is_kind_as_told) l33 h33 k33,
    g_is_kind_as_told := mg_of X G a33,
    F_make_kind := fun_mk (st := s_make_kind) l34 h34 k34,
    g_make_kind := mg_of X G a34,
    F_make_die := fun_mk (st := s_make_die) l35 h35 k35,
    g_make_die := mg_of X G a35,
    F_is_weight_of_lot := fun_mk (st := s_is_weight_of_lot) l36 h36 k36,
    g_is_weight_of_lot := mg_of X G a36,
    F_bring := fun_mk (st := s_bring) l37 h37 k37,
    g_bring := mg_of X G a37,
    F_bring_old_coin := fun_mk (st := s_bring_old_coin) l38 h38 k38,
    g_bring_old_coin := mg_of X G a38,
    F_first_empty_place := fun_mk (st := s_first_empty_place) l39 h39 k39,
    g_first_empty_place := mg_of X G a39,
    F_take_in := fun_mk (st := s_take_in) l40 h40 k40,
    g_take_in := mg_of X G a40,
    F_thousandths_rounded_up := fun_mk (st := s_thousandths_rounded_up) l41 h41 k41,
    g_thousandths_rounded_up := mg_of X G a41,
    F_Book_init := fun_mk (st := s_Book_init) l21 h21 k21,
    F_Book_begin_anew := fun_mk (st := s_Book_begin_anew) l22 h22 k22,
    F_Book_turn_to := fun_mk (st := s_Book_turn_to) l23 h23 k23,
    F_begin := fun_mk (st := s_begin) l42 h42 k42,
    g_begin := mg_of X G a42,
    F_take_back := fun_mk (st := s_take_back) l43 h43 k43,
    g_take_back := mg_of X G a43,
    F_do_again := fun_mk (st := s_do_again) l44 h44 k44,
    g_do_again := mg_of X G a44,
    F_tell_state := fun_mk (st := s_tell_state) l45 h45 k45,
    g_tell_state := mg_of X G a45,
    F_Need_init := fun_mk (st := s_Need_init) l25 h25 k25,
    F_Need_together := fun_mk (st := s_Need_together) l26 h26 k26,
    F_Choice_init := fun_mk (st := s_Choice_init) l28 h28 k28,
    F_Choice_and_lot := fun_mk (st := s_Choice_and_lot) l29 h29 k29,
    F_Plan_init := fun_mk (st := s_Plan_init) l31 h31 k31,
    F_Plan_is_better_than := fun_mk (st := s_Plan_is_better_than) l32 h32 k32,
    F_gold_by_rest := fun_mk (st := s_gold_by_rest) l46 h46 k46,
    g_gold_by_rest := mg_of X G a46,
    F_find_need := fun_mk (st := s_find_need) l47 h47 k47,
    g_find_need := mg_of X G a47,
    F_all_choices := fun_mk (st := s_all_choices) l48 h48 k48,
    g_all_choices := mg_of X G a48,
    F_find_plan := fun_mk (st := s_find_plan) l49 h49 k49,
    g_find_plan := mg_of X G a49,
    F_places_of := fun_mk (st := s_places_of) l50 h50 k50,
    g_places_of := mg_of X G a50,
    F_melt := fun_mk (st := s_melt) l51 h51 k51,
    g_melt := mg_of X G a51,
    F_add_metal := fun_mk (st := s_add_metal) l52 h52 k52,
    g_add_metal := mg_of X G a52,
    F_tell_fits := fun_mk (st := s_tell_fits) l53 h53 k53,
    g_tell_fits := mg_of X G a53,
    F_tell_need := fun_mk (st := s_tell_need) l54 h54 k54,
    g_tell_need := mg_of X G a54,
    F_tell_plan := fun_mk (st := s_tell_plan) l55 h55 k55,
    g_tell_plan := mg_of X G a55,
    F_pay := fun_mk (st := s_pay) l56 h56 k56,
    g_pay := mg_of X G a56,
    F_tell_credit := fun_mk (st := s_tell_credit) l57 h57 k57,
    g_tell_credit := mg_of X G a57,
    F_tell_stock := fun_mk (st := s_tell_stock) l58 h58 k58,
    g_tell_stock := mg_of X G a58,
    F_tell_off := fun_mk (st := s_tell_off) l59 h59 k59,
    g_tell_off := mg_of X G a59,
    F_can_be_struck := fun_mk (st := s_can_be_struck) l60 h60 k60,
    g_can_be_struck := mg_of X G a60,
    F_strike_blank := fun_mk (st := s_strike_blank) l61 h61 k61,
    g_strike_blank := mg_of X G a61,
    F_strike := fun_mk (st := s_strike) l62 h62 k62,
    g_strike := mg_of X G a62,
    F_tell_enough := fun_mk (st := s_tell_enough) l63 h63 k63,
    g_tell_enough := mg_of X G a63,
    F_box_passes := fun_mk (st := s_box_passes) l64 h64 k64,
    g_box_passes := mg_of X G a64,
    F_try_box := fun_mk (st := s_try_box) l65 h65 k65,
    g_try_box := mg_of X G a65,
    F_put_box_in_stock := fun_mk (st := s_put_box_in_stock) l66 h66 k66,
    g_put_box_in_stock := mg_of X G a66,
    F_put_box_in_pot := fun_mk (st := s_put_box_in_pot) l67 h67 k67,
    g_put_box_in_pot := mg_of X G a67,
    F_tell_pot := fun_mk (st := s_tell_pot) l68 h68 k68,
    g_tell_pot := mg_of X G a68,
    F_tell_lots := fun_mk (st := s_tell_lots) l69 h69 k69,
    g_tell_lots := mg_of X G a69,
    F_tell_worn := fun_mk (st := s_tell_worn) l70 h70 k70,
    g_tell_worn := mg_of X G a70,
    F_find_held := fun_mk (st := s_find_held) l71 h71 k71,
    g_find_held := mg_of X G a71,
    F_tell_ledger := fun_mk (st := s_tell_ledger) l72 h72 k72,
    g_tell_ledger := mg_of X G a72,
    F_tell_claims := fun_mk (st := s_tell_claims) l73 h73 k73,
    g_tell_claims := mg_of X G a73,
    F_answers := fun_mk (st := s_answers) l74 h74 k74,
    g_answers := mg_of X G a74,
    F_answer_call := fun_mk (st := s_answer_call) l75 h75 k75,
    g_answer_call := mg_of X G a75,
    F_make_change := fun_mk (st := s_make_change) l76 h76 k76,
    g_make_change := mg_of X G a76,
    F_answer_of_mint := fun_mk (st := s_answer_of_mint) l77 h77 k77,
    g_answer_of_mint := mg_of X G a77,
    F_answer_bringing := fun_mk (st := s_answer_bringing) l78 h78 k78,
    g_answer_bringing := mg_of X G a78,
    F_answer_melting := fun_mk (st := s_answer_melting) l79 h79 k79,
    g_answer_melting := mg_of X G a79,
    F_answer_striking := fun_mk (st := s_answer_striking) l80 h80 k80,
    g_answer_striking := mg_of X G a80,
    F_answer_paying := fun_mk (st := s_answer_paying) l81 h81 k81,
    g_answer_paying := mg_of X G a81,
    F_answer_telling := fun_mk (st := s_answer_telling) l82 h82 k82,
    g_answer_telling := mg_of X G a82,
    k_NOT_THERE := ⟨t83, mg_of X G a83⟩,
    k_BOX_EMPTY := ⟨t84, mg_of X G a84⟩,
    k_TOO_FEW_COINS := ⟨t85, mg_of X G a85⟩,
    k_OTHER_KIND := ⟨t86, mg_of X G a86⟩,
    k_TOO_LITTLE_CREDIT := ⟨t87, mg_of X G a87⟩,
    k_NOT_AS_TOLD := ⟨t88, mg_of X G a88⟩,
    k_NO_ROOM := ⟨t89, mg_of X G a89⟩,
    k_NOT_TO_BE_DONE := ⟨t90, mg_of X G a90⟩,
    k_NOT_AS_FINE := ⟨t91, mg_of X G a91⟩,
    k_CARATS_OF_GOLD := ⟨t92, mg_of X G a92⟩,
    k_PLACES := ⟨t93, mg_of X G a93⟩,
    k_PEOPLE := ⟨t94, mg_of X G a94⟩,
    k_MOST_IN_POT := ⟨t95, mg_of X G a95⟩,
    k_MOST_KINDS := ⟨t96, mg_of X G a96⟩,
    k_MOST_GRAINS_OF_COIN := ⟨t97, mg_of X G a97⟩,
    k_MOST_REMEDY := ⟨t98, mg_of X G a98⟩,
    k_MOST_DIES := ⟨t99, mg_of X G a99⟩,
    k_MOST_COINS_OF_DIE := ⟨t100, mg_of X G a100⟩,
    k_MOST_GRAINS_OF_LOT := ⟨t101, mg_of X G a101⟩,
    k_MOST_KEPT := ⟨t102, mg_of X G a102⟩,
    k_MOST_CHANGES := ⟨t103, mg_of X G a103⟩,
    k_MOST_BITS := ⟨t104, mg_of X G a104⟩,
    k_MOST_ADDED := ⟨t105, mg_of X G a105⟩,
    k_MOST_BLANKS := ⟨t106, mg_of X G a106⟩,
    k_MOST_COINS_OF_KIND := ⟨t107, mg_of X G a107⟩,
    k_EACH_TENTH := ⟨t108, mg_of X G a108⟩,
    k_MI_BEGIN := ⟨t109, mg_of X G a109⟩,
    k_MI_KIND := ⟨t110, mg_of X G a110⟩,
    k_MI_DIE := ⟨t111, mg_of X G a111⟩,
    k_MI_BRING := ⟨t112, mg_of X G a112⟩,
    k_MI_OLD := ⟨t113, mg_of X G a113⟩,
    k_MI_MELT := ⟨t114, mg_of X G a114⟩,
    k_MI_ADD := ⟨t115, mg_of X G a115⟩,
    k_MI_FITS := ⟨t116, mg_of X G a116⟩,
    k_MI_NEED := ⟨t117, mg_of X G a117⟩,
    k_MI_PLAN := ⟨t118, mg_of X G a118⟩,
    k_MI_STRIKE := ⟨t119, mg_of X G a119⟩,
    k_MI_ENOUGH := ⟨t120, mg_of X G a120⟩,
    k_MI_TRIAL := ⟨t121, mg_of X G a121⟩,
    k_MI_OPEN := ⟨t122, mg_of X G a122⟩,
    k_MI_BREAK := ⟨t123, mg_of X G a123⟩,
    k_MI_PAY := ⟨t124, mg_of X G a124⟩,
    k_MI_CREDIT := ⟨t125, mg_of X G a125⟩,
    k_MI_STOCK := ⟨t126, mg_of X G a126⟩,
    k_MI_OFF := ⟨t127, mg_of X G a127⟩,
    k_MI_POT := ⟨t128, mg_of X G a128⟩,
    k_MI_LOTS := ⟨t129, mg_of X G a129⟩,
    k_MI_WORN := ⟨t130, mg_of X G a130⟩,
    k_MI_LEDGER := ⟨t131, mg_of X G a131⟩,
    k_MI_BACK := ⟨t132, mg_of X G a132⟩,
    k_MI_AGAIN := ⟨t133, mg_of X G a133⟩,
    k_MI_STATE := ⟨t134, mg_of X G a134⟩,
    k_NUMBERS_BEHIND := mg_of X G a135,
    v_NUMBERS_BEHIND := fun H => .inr ⟨_, i135, n135, l135, rfl, rfl, z135, v135⟩,
    k_CHANGES := mg_of X G a136,
    v_CHANGES := fun H => .inr ⟨_, i136, n136, l136, rfl, rfl, z136, v136⟩,
    n_len := mg_none_of X G z_len,
    n_range := mg_none_of X G z_range,
    n_abs := mg_none_of X G z_abs,
    n_sum := mg_none_of X G z_sum,
    n_min := mg_none_of X G z_min,
    n_max := mg_none_of X G z_max,
    n_list := mg_none_of X G z_list }⟩
end Mi


set_option Elab.async false
set_option linter.all false
set_option maxRecDepth 100000
set_option maxHeartbeats 4000000
namespace Mi
open PySem PySem.Spec PyProof.Rows L2
/-! ### heaps that only grow -/
theorem Same.new {H : Hp} {l : Addr} {o : HO} (h : H l = none) : Same H (upd H l o) := fun b u e => by
  rw [upd_ne (ne_of_none e h)]
  exact e
def newI (H : Hp) (x dx C : Addr) (fs : List (Str × V)) : Hp := upd (upd H dx (.own x)) x (.ins C dx fs)
theorem same_newI {H : Hp} {x dx C : Addr} {fs : List (Str × V)} (n : H x = none) (m : H dx = none) : Same H (newI H x dx C fs) := fun b o e => by
  unfold newI
  rw [upd_ne (ne_of_none e n), upd_ne (ne_of_none e m)]
  exact e
theorem newI_at {H : Hp} {x dx C : Addr} {fs : List (Str × V)} : newI H x dx C fs x = some (.ins C dx fs) := upd_same
/-! ### lists side by side -/
def P2 {α β : Type} (R : α → β → Prop) (xs : List α) (ys : List β) : Prop := xs.length = ys.length ∧ ∀ (i : Nat) (x : α) (y : β), xs[i]? = some x → ys[i]? = some y → R x y
section
variable {α β : Type} {R S : α → β → Prop} {xs : List α} {ys : List β}
theorem P2.nil : P2 R [] [] := ⟨rfl, fun i x y h => by simp at h⟩
theorem P2.mono (h : P2 R xs ys) (m : ∀ x y, R x y → S x y) : P2 S xs ys := ⟨h.1, fun i x y a b => m x y (h.2 i x y a b)⟩
theorem P2.append {us : List α} {vs : List β} (h : P2 R xs ys) (g : P2 R us vs) : P2 R (xs ++ us) (ys ++ vs) := by
  refine ⟨by rw [List.length_append, List.length_append, h.1, g.1], fun i x y a b => ?_⟩
  by_cases q : i < xs.length
  · rw [List.getElem?_append_left q] at a
    rw [List.getElem?_append_left (h.1 ▸ q)] at b
    exact h.2 i x y a b
  · rw [List.getElem?_append_right (by omega)] at a
    rw [List.getElem?_append_right (by have := h.1; omega), ← h.1] at b
    exact g.2 _ x y a b
theorem P2.one {x : α} {y : β} (h : R x y) : P2 R [x] [y] := ⟨rfl, fun i a b e f => by
  cases i with
  | zero =>
    cases e
    cases f
    exact h
  | succ i => simp at e⟩
theorem P2.snoc {x : α} {y : β} (h : P2 R xs ys) (r : R x y) : P2 R (xs ++ [x]) (ys ++ [y]) := h.append (.one r)
theorem P2.right (h : P2 R xs ys) {i : Nat} {x : α} (e : xs[i]? = some x) : ∃ y, ys[i]? = some y ∧ R x y := by
  have hi : i < ys.length := by
    have := (List.getElem?_eq_some_iff.mp e).1
    have := h.1
    omega
  exact ⟨ys[i], List.getElem?_eq_getElem hi, h.2 i x _ e (List.getElem?_eq_getElem hi)⟩
theorem P2.left (h : P2 R xs ys) {i : Nat} {y : β} (e : ys[i]? = some y) : ∃ x, xs[i]? = some x ∧ R x y := by
  have hi : i < xs.length := by
    have := (List.getElem?_eq_some_iff.mp e).1
    have := h.1
    omega
  exact ⟨xs[i], List.getElem?_eq_getElem hi, h.2 i _ y (List.getElem?_eq_getElem hi) e⟩
end
theorem refs_at {as : List Addr} {i : Nat} {x : V} (h : (as.map V.ref)[i]? = some x) : ∃ a, as[i]? = some a ∧ x = .ref a := by
  rw [List.getElem?_map] at h
  cases e : as[i]? with
  | none =>
    rw [e] at h
    cases h
  | some a =>
    rw [e] at h
    exact ⟨a, rfl, (Option.some.inj h).symm⟩
/-! ### metal -/
def MetalAt (Z : Adr) (H : Hp) (p : Addr) (m : Km408.Metal) : Prop := ∃ dx, H p = some (.ins Z.c_Metal dx (fs_Metal (.int m.grains) (.int m.carats)))
theorem MetalAt.same {Z : Adr} {H H' : Hp} {p : Addr} {m : Km408.Metal} (h : MetalAt Z H p m) (s : Same H H') : MetalAt Z H' p m := by
  obtain ⟨dx, h⟩ := h
  exact ⟨dx, s _ _ h⟩
def NeedAt (Z : Adr) (H : Hp) (p : Addr) (g c : Nat) : Prop := ∃ dx, H p = some (.ins Z.c_Need dx (fs_Need (.int g) (.int c)))
section
variable {P : Program} {w : World} {K : PySem.W.Frag} {mg : Str → Option Value} {base : Heap} {Z : Adr}
/-- a store into an instance that is being made -/
theorem wr_new {H : Hp} {p C dx : Addr} {fs fs' : List (Str × V)} {f : Str} {x : V} {N : Hp → Prop} (h : H p = some (.ins C dx fs)) (c : Cls K C) (n : NoAttr K C f) (l : fs.length < 1000) (e : putF f x fs = fs') (k : N (upd H p (.ins C dx fs'))) :
    ∃ a C dx fs, V.ref p = .ref a ∧ H a = some (.ins C dx fs) ∧ Cls K C ∧ NoAttr K C f ∧ fs.length < 1000 ∧ N (upd H a (.ins C dx (putF f x fs))) := ⟨p, C, dx, fs, rfl, h, c, n, l, by rw [e]; exact k⟩
def sp_Metal_init (Z : Adr) : Sp := fun vs H Q _ => ∃ (p dx : Addr) (g c : V), vs = [.ref p, g, c] ∧ H p = some (.ins Z.c_Metal dx []) ∧ Q .non (upd H p (.ins Z.c_Metal dx (fs_Metal g c)))
theorem ok_Metal_init (T : Txt K mg Z) : FnOk P w K mg base CX0 1 Z.f_Metal_init Z.d_Metal_init ["self", "grains", "carats"] (sp_Metal_init Z) := by
  refine T.F_Metal_init.ok sc_Metal_init (fun vs H Q E h => ?_) (fun cdv A outer s H vs Q E hr h => ?_)
  · obtain ⟨p, dx, g, c, rfl, _⟩ := h
    rfl
  · obtain ⟨p, dx, g, c, rfl, hp, k⟩ := h
    refine ⟨_, (pss_cons (ps_fld (pv 0) (pv 1) rfl) (pss_one (ps_fld (pv 0) (pv 2) rfl))), ?_⟩
    refine ⟨_, rfl, _, rfl, wr_new hp T.cl_Metal T.n_Metal_grains (by show 0 < 1000; decide) rfl ?_⟩
    refine ⟨_, rfl, _, rfl, wr_new upd_same T.cl_Metal T.n_Metal_carats (by show 1 < 1000; decide) (pf1 nq_grains_carats rfl) ?_⟩
    rw [upd_upd]
    exact k
/-- Metal(g, c) -/
theorem mk_Metal_of {H : Hp} {g c : V} {R : Addr → Hp → Prop} {E : XK} (k : ∀ x dx, H x = none → H dx = none → R x (newI H x dx Z.c_Metal (fs_Metal g c))) :
    ∀ x dx, H x = none → H dx = none → dx ≠ x → sp_Metal_init Z (.ref x :: ([g, c] ++ [])) (upd (upd H dx (.own x)) x (.ins Z.c_Metal dx [])) (fun v H2 => v = .non ∧ R x H2) E := fun x dx n m _ =>
  ⟨x, dx, g, c, rfl, upd_same, rfl, by rw [upd_upd]; exact k x dx n m⟩
def sp_Metal_is_none (Z : Adr) : Sp := fun vs H Q _ => ∃ (p : Addr) (m : Km408.Metal), vs = [.ref p] ∧ MetalAt Z H p m ∧ Q (.bl (decide (m.grains = 0))) H
theorem ok_Metal_is_none (T : Txt K mg Z) : FnOk P w K mg base CX0 1 Z.f_Metal_is_none Z.d_Metal_is_none ["self"] (sp_Metal_is_none Z) := by
  refine T.F_Metal_is_none.ok sc_Metal_is_none (fun vs H Q E h => ?_) (fun cdv A outer s H vs Q E hr h => ?_)
  · obtain ⟨p, m, rfl, _⟩ := h
    rfl
  · obtain ⟨p, m, rfl, ⟨dx, hp⟩, k⟩ := h
    refine ⟨_, (pss_one (ps_ret (pe_cmpR op_eq (pe_fld (pv 0) rfl) pe_int (nomark _)))), ?_⟩
    refine ⟨_, rfl, rd_Metal_grains T hp ⟨rfl, ?_⟩⟩
    have e : decide (V.int (m.grains : Int) = V.int 0) = decide (m.grains = 0) := by
      rw [decide_eq_decide, V.int.injEq]
      omega
    rw [e]
    exact k
def sp_Metal_together_with (Z : Adr) : Sp := fun vs H Q _ => ∃ (p q : Addr) (m n : Km408.Metal), vs = [.ref p, .ref q] ∧ MetalAt Z H p m ∧ MetalAt Z H q n ∧ ∀ (H' : Hp) (r : Addr), Same H H' → MetalAt Z H' r (m.plus n) → Q (.ref r) H'
theorem ok_Metal_together_with (T : Txt K mg Z) : FnOk P w K mg base CX0 3 Z.f_Metal_together_with Z.d_Metal_together_with ["self", "other"] (sp_Metal_together_with Z) := by
  refine T.F_Metal_together_with.ok sc_Metal_together_with (fun vs H Q E h => ?_) (fun cdv A outer s H vs Q E hr h => ?_)
  · obtain ⟨p, q, m, n, rfl, _⟩ := h
    rfl
  · obtain ⟨p, q, m, n, rfl, ⟨dx, hp⟩, ⟨dy, hq⟩, k⟩ := h
    refine ⟨_, (pss_one (ps_ret (pe_make T.mk_Metal (ok_Metal_init T) (hr.mono (by decide)) rfl T.g_Metal (b_Metal_init T) .nil pass0 ((pa_cons (pe_op op_add (pe_fld (pv 0) rfl) (pe_fld (pv 1) rfl)) (pa_cons (pe_op op_add (pe_fld (pv 0) rfl) (pe_fld (pv 1) rfl)) pa_nil)))))), ?_⟩
    refine ⟨_, rfl, rd_Metal_grains T hp ⟨_, rfl, rd_Metal_grains T hq ⟨_, _, rfl, rfl, ?_⟩⟩⟩
    refine ⟨_, rfl, rd_Metal_carats T hp ⟨_, rfl, rd_Metal_carats T hq ⟨_, _, rfl, rfl, mk_Metal_of fun x dz nx nd => ?_⟩⟩⟩
    exact k _ x (same_newI nx nd) ⟨dz, newI_at⟩
def sp_Need_init (Z : Adr) : Sp := fun vs H Q _ => ∃ (p dx : Addr) (g c : V), vs = [.ref p, g, c] ∧ H p = some (.ins Z.c_Need dx []) ∧ Q .non (upd H p (.ins Z.c_Need dx (fs_Need g c)))
theorem ok_Need_init (T : Txt K mg Z) : FnOk P w K mg base CX0 1 Z.f_Need_init Z.d_Need_init ["self", "gold", "copper"] (sp_Need_init Z) := by
  refine T.F_Need_init.ok sc_Need_init (fun vs H Q E h => ?_) (fun cdv A outer s H vs Q E hr h => ?_)
  · obtain ⟨p, dx, g, c, rfl, _⟩ := h
    rfl
  · obtain ⟨p, dx, g, c, rfl, hp, k⟩ := h
    refine ⟨_, (pss_cons (ps_fld (pv 0) (pv 1) rfl) (pss_one (ps_fld (pv 0) (pv 2) rfl))), ?_⟩
    refine ⟨_, rfl, _, rfl, wr_new hp T.cl_Need T.n_Need_gold (by show 0 < 1000; decide) rfl ?_⟩
    refine ⟨_, rfl, _, rfl, wr_new upd_same T.cl_Need T.n_Need_copper (by show 1 < 1000; decide) (pf1 nq_gold_copper rfl) ?_⟩
    rw [upd_upd]
    exact k
theorem mk_Need_of {H : Hp} {g c : V} {R : Addr → Hp → Prop} {E : XK} (k : ∀ x dx, H x = none → H dx = none → R x (newI H x dx Z.c_Need (fs_Need g c))) :
    ∀ x dx, H x = none → H dx = none → dx ≠ x → sp_Need_init Z (.ref x :: ([g, c] ++ [])) (upd (upd H dx (.own x)) x (.ins Z.c_Need dx [])) (fun v H2 => v = .non ∧ R x H2) E := fun x dx n m _ =>
  ⟨x, dx, g, c, rfl, upd_same, rfl, by rw [upd_upd]; exact k x dx n m⟩
def sp_Need_together (Z : Adr) : Sp := fun vs H Q _ => ∃ (p : Addr) (g c : Nat), vs = [.ref p] ∧ NeedAt Z H p g c ∧ Q (.int (g + c : Nat)) H
theorem ok_Need_together (T : Txt K mg Z) : FnOk P w K mg base CX0 1 Z.f_Need_together Z.d_Need_together ["self"] (sp_Need_together Z) := by
  refine T.F_Need_together.ok sc_Need_together (fun vs H Q E h => ?_) (fun cdv A outer s H vs Q E hr h => ?_)
  · obtain ⟨p, g, c, rfl, _⟩ := h
    rfl
  · obtain ⟨p, g, c, rfl, ⟨dx, hp⟩, k⟩ := h
    refine ⟨_, (pss_one (ps_ret (pe_op op_add (pe_fld (pv 0) rfl) (pe_fld (pv 0) rfl)))), ?_⟩
    refine ⟨_, rfl, rd_Need_gold T hp ⟨_, rfl, rd_Need_copper T hp ⟨_, _, rfl, rfl, ?_⟩⟩⟩
    dsimp only
    rw [← Int.natCast_add]
    exact k
/-! ### find_need -/
theorem mul_small {a b : Int} {n : Nat} (e : b = (n : Int)) (h : n ≤ 1000000) : CMul a b := .inr ⟨by omega, by omega⟩
theorem mul_smallL {a b : Int} (h1 : -1000000 ≤ a) (h2 : a ≤ 1000000) : CMul a b := .inl ⟨by omega, by omega⟩
theorem need_val {C dz : Addr} {a b c d : Int} (e : a = c) (h : b = d) : some (HO.ins C dz (fs_Need (.int a) (.int b))) = some (.ins C dz (fs_Need (.int c) (.int d))) := by rw [e, h]
def sp_find_need (K : PySem.W.Frag) (Z : Adr) : Sp := fun vs H Q _ => ∃ (p l : Addr) (m : Km408.Metal) (f : Nat), vs = [.ref p, .int f, .ref l] ∧ MetalAt Z H p m ∧ 1 ≤ f ∧ f ≤ 24 ∧ SqL K H l ((MN.golds f).map V.int) ∧
  (Km408.needOf m f = none → Q .non H) ∧ ∀ (g c : Nat), Km408.needOf m f = some (g, c) → ∀ (H' : Hp) (r : Addr), Same H H' → NeedAt Z H' r g c → Q (.ref r) H'
theorem ok_find_need (T : Txt K mg Z) : FnOk P w K mg base CX0 3 Z.f_find_need Z.d_find_need ["metal", "fine", "golds"] (sp_find_need K Z) := by
  refine T.F_find_need.ok sc_find_need (fun vs H Q E h => ?_) (fun cdv A outer s H vs Q E hr h => ?_)
  · obtain ⟨p, l, m, f, rfl, _⟩ := h
    rfl
  · obtain ⟨p, l, m, f, rfl, ⟨dx, hp⟩, f1, f2, hl, k0, k1⟩ := h
    refine ⟨_, (pss_cons (ps_set (i := 3) (sc_find_need).nd rfl (Or.inl rfl) (pe_op op_sub (pe_gint rfl T.k_CARATS_OF_GOLD) (pv 1))) (pss_cons (ps_set (i := 4) (sc_find_need).nd rfl (Or.inl rfl) (pe_op op_sub (pe_fld (pv 0) rfl) (pe_op op_mul (pv 1) (pe_fld (pv 0) rfl)))) (pss_cons (ps_set (i := 5) (sc_find_need).nd rfl (Or.inl rfl) pe_int) (pss_cons (ps_if (pt_cmpR op_lt (pv 4) pe_int (nomark _)) (pss_cons (ps_if (pt_cmpR op_eq (pv 3) pe_int (nomark _)) (pss_one (ps_ret pe_non)) pss_nil) (pss_cons (ps_set (i := 5) (sc_find_need).nd rfl (Or.inl rfl) (pe_op op_fdiv (pe_op op_sub (pe_op op_add (pe_un un_neg (pv 4)) (pv 3)) pe_int) (pv 3))) (pss_one (ps_set (i := 4) (sc_find_need).nd rfl (Or.inl rfl) (pe_op op_add (pv 4) (pe_op op_mul (pv 3) (pv 5))))))) pss_nil) (pss_cons (ps_set (i := 6) (sc_find_need).nd rfl (Or.inl rfl) (pe_ix ix_list (pv 2) (pe_op op_mod (pv 4) (pv 1)) (fun _ _ => rfl))) (pss_cons (ps_if (pt_cmpR op_lt (pv 6) pe_int (nomark _)) (pss_one (ps_ret pe_non)) pss_nil) (pss_one (ps_ret (pe_make T.mk_Need (ok_Need_init T) (hr.mono (by decide)) rfl T.g_Need (b_Need_init T) .nil pass0 ((pa_cons (pe_op op_add (pv 5) (pv 6)) (pa_cons (pe_op op_fdiv (pe_op op_add (pv 4) (pe_op op_mul (pv 3) (pv 6))) (pv 1)) pa_nil)))))))))))), ?_⟩
    refine ⟨_, rfl, _, _, rfl, rfl, ?_⟩
    refine ⟨_, rfl, rd_Metal_carats T hp ⟨_, rfl, _, rfl, rd_Metal_grains T hp ⟨_, _, rfl, rfl, mul_smallL (by omega) (by omega), _, _, rfl, rfl, ?_⟩⟩⟩
    refine ⟨_, rfl, _, _, rfl, rfl, _, rfl, ite2 (fun hn => ?a) (fun hn => ?b)⟩
    case' a =>
      have hn := of_decide_eq_true hn
      refine ⟨_, rfl, rfl, _, rfl, ite2 (fun hz => k0 (MN.need_none24 f1 f2 hn (V.int.inj (of_decide_eq_true hz)))) (fun hz => ?_)⟩
      have hz : ¬ (24 : Int) - f = 0 := fun e => hz (decide_eq_true (congrArg V.int e))
      refine ⟨_, rfl, _, rfl, _, rfl, _, _, rfl, rfl, _, _, rfl, rfl, _, rfl, _, _, rfl, rfl, ⟨by omega, by omega⟩, ?_⟩
      obtain ⟨e1, e2⟩ := MN.over_neg f2 hn hz
      dsimp only
      rw [e1]
      refine ⟨_, rfl, _, rfl, _, rfl, _, _, rfl, rfl, mul_smallL (by omega) (by omega), _, _, rfl, rfl, ?_⟩
      dsimp only
      rw [e2]
      have hrest := MN.need_rest (m := m) f1 f2 fun _ => hz
    case' b =>
      have hn : ¬ _ := fun e => hn (decide_eq_true e)
      obtain ⟨e1, e2⟩ := MN.over_pos hn
      dsimp only
      rw [e2]
      have hrest := MN.need_rest (m := m) f1 f2 fun q => (hn q).elim
    all_goals
      cases e : MN.rest f (MN.over m f) with
      | none =>
        rw [e] at hrest
        refine ⟨_, rfl, _, rfl, _, rfl, _, _, rfl, rfl, (by omega), l, _, _, .int (-1), rfl, rfl, hl, at_of (Int.natCast_emod _ _).symm (by rw [List.getElem?_map, MN.golds_at f1, e]; rfl), ?_⟩
        refine ⟨_, rfl, _, _, rfl, rfl, _, rfl, iteT ?_⟩
        exact k0 hrest
      | some k =>
        rw [e] at hrest
        refine ⟨_, rfl, _, rfl, _, rfl, _, _, rfl, rfl, (by omega), l, _, _, .int (k : Int), rfl, rfl, hl, at_of (Int.natCast_emod _ _).symm (by rw [List.getElem?_map, MN.golds_at f1, e]; rfl), ?_⟩
        refine ⟨_, rfl, _, _, rfl, rfl, _, rfl, ite2 (fun q => absurd (of_decide_eq_true q) (by omega)) (fun _ => ?_)⟩
        refine ⟨_, rfl, _, rfl, _, _, rfl, rfl, _, rfl, _, rfl, _, rfl, _, _, rfl, rfl, mul_smallL (by omega) (by omega), _, _, rfl, rfl, _, rfl, _, _, rfl, rfl, ⟨by omega, by omega⟩, mk_Need_of fun x dz nx nd => ?_⟩
        exact k1 _ _ hrest _ x (same_newI nx nd) ⟨dz, Eq.trans newI_at (need_val (by omega) (MN.copper_int f2))⟩
/-! ### gold_by_rest -/
theorem rgc_down : ∀ f : Nat, f ≤ 24 → RgC ((f : Int) - 1) (-1) (-1) f := by
  intro f hf
  have h : ∀ f ∈ List.range 25, RgC (((f : Nat) : Int) - 1) (-1) (-1) f := by
    unfold RgC
    decide +kernel
  exact h f (List.mem_range.mpr (by omega))
def sp_gold_by_rest (Z : Adr) : Sp := fun vs H Q _ => ∃ (f : Nat), vs = [.int f] ∧ 1 ≤ f ∧ f ≤ 24 ∧ ∀ (H' : Hp) (l : Addr), Same H H' → H' l = some (.lst ((MN.golds f).map V.int)) → Q (.ref l) H'
theorem ok_gold_by_rest (T : Txt K mg Z) : FnOk P w K mg base CX0 1 Z.f_gold_by_rest Z.d_gold_by_rest ["fine"] (sp_gold_by_rest Z) := by
  refine T.F_gold_by_rest.ok sc_gold_by_rest (fun vs H Q E h => ?_) (fun cdv A outer s H vs Q E hr h => ?_)
  · obtain ⟨f, rfl, _⟩ := h
    rfl
  · obtain ⟨f, rfl, f1, f2, k⟩ := h
    refine ⟨_, (pss_cons (ps_setLc (i := 1) rfl (sc_gold_by_rest).nd rfl rfl (sw_true rfl rfl rfl rfl) (pi_range1 rfl T.n_range (pa_cons (pv 0) pa_nil)) (own := [("rest", 2)]) (blkOk_by (by rfl)) (fun _ _ _ _ _ => pg_name (i := 2) (sc_gold_by_rest).nd rfl (Or.inl rfl)) (fun _ _ _ _ _ => pts_nil) (fun _ _ _ _ _ => (pe_un un_neg pe_int))) (pss_cons (ps_for PassesOwn.never rfl (pi_range3 rfl T.n_range (pa_cons (pe_op op_sub (pv 0) pe_int) (pa_cons (pe_un un_neg pe_int) (pa_cons (pe_un un_neg pe_int) pa_nil)))) (pg_name (i := 3) (sc_gold_by_rest).nd rfl (Or.inl rfl)) (pss_one (ps_asg (pv 3) (pg_sub (pv 1) (pe_op op_mod (pe_op op_mul (pe_un un_neg (pe_gint rfl T.k_CARATS_OF_GOLD)) (pv 3)) (pv 0)) set_list)))) (pss_one (ps_ret (pv 1))))), ?_⟩
    refine ⟨_, rfl, _, rfl, by omega, by omega, fun D hD => lc_range (fun i H' => H' = upd H D (.lst (List.replicate i (.int (-1))))) rfl (fun i H' hi e => ?_) (fun H' e => ?_)⟩
    · subst e
      exact ⟨rfl, _, rfl, _, upd_same, (by rw [List.length_replicate]; exact Nat.lt_of_lt_of_le hi (by show (f : Int).toNat ≤ 2 ^ 24; omega)), (by rw [upd_upd, List.replicate_succ'])⟩
    · rw [Int.toNat_natCast] at e
      have s0 : Same H H' := by rw [e]; exact Same.new hD
      have hL : H' D = some (.lst ((List.replicate f (-1 : Int)).map V.int)) := by rw [e, upd_same, List.map_replicate]
      refine ⟨_, rfl, _, _, rfl, rfl, _, rfl, _, rfl, _, _, _, f, rfl, rgc_down f f2, for_rangeC (fun i σ H2 => ∃ (v : Option V) (cur : List Int), σ = [some (.int f), some (.ref D), none, v] ∧ Same H H2 ∧ H2 D = some (.lst (cur.map V.int)) ∧ cur.length = f ∧ MN.goldsLoop f (f - i) cur = MN.golds f)
        ⟨none, _, rfl, s0, hL, List.length_replicate, MN.golds_loop f f2⟩ ?_ ?_⟩
      · rintro i σ H2 hi ⟨v, cur, rfl, s2, h2, hc, hg⟩
        obtain ⟨n, en⟩ : ∃ n, f - i = n + 1 := ⟨f - i - 1, by omega⟩
        have eg : (f : Int) - 1 + (i : Nat) * (-1) = (n : Int) := by omega
        rw [eg]
        rw [en] at hg
        have hf0 : (0 : Int) < f := by omega
        have m0 := Int.emod_nonneg (-24 * (n : Int)) (Int.ne_of_gt hf0)
        have m1 := Int.emod_lt_of_pos (-24 * (n : Int)) hf0
        refine ⟨_, rfl, _, rfl, _, rfl, _, rfl, _, _, rfl, rfl, mul_smallL (by omega) (by omega), _, rfl, _, _, rfl, rfl, hf0, D, _, _, ((-24 * (n : Int)) % (f : Int)).toNat, rfl, rfl, h2, ?_, ?_⟩
        · unfold ixN
          rw [List.length_map, hc, if_pos m0, if_pos m1]
        · refine ⟨_, cur.set (((-24 * (n : Int)) % (f : Int)).toNat) (n : Int), rfl, fun b o e => ?_, ?_, ?_, ?_⟩
          · rw [upd_ne (ne_of_none e hD)]
            exact s2 b o e
          · rw [upd_same, List.map_set]
          · rw [List.length_set]; exact hc
          · rw [show f - (i + 1) = n by omega]
            exact hg
      · rintro σ H2 ⟨v, cur, rfl, s2, h2, hc, hg⟩
        rw [Nat.sub_self] at hg
        have hg : cur = MN.golds f := hg
        subst hg
        exact ⟨_, rfl, k H2 D s2 h2⟩
end
end Mi


set_option Elab.async false
set_option linter.all false
set_option maxRecDepth 100000
set_option maxHeartbeats 4000000
namespace Mi
open PySem PySem.Spec PyProof.Rows L2
open Km408 (Metal Mint ones)
open MP (picks avail mix lotAt)
/-- a choice: bits, how many lots, its metal -/
def ChAt (Z : Adr) (H : Hp) (c : Addr) (b n : Nat) (m : Metal) : Prop := ∃ mp dx, H c = some (.ins Z.c_Choice dx (fs_Choice (.int b) (.int n) (.ref mp))) ∧ MetalAt Z H mp m
theorem ChAt.same {Z : Adr} {H H' : Hp} {c : Addr} {b n : Nat} {m : Metal} (h : ChAt Z H c b n m) (s : Same H H') : ChAt Z H' c b n m := by
  obtain ⟨mp, dx, h1, h2⟩ := h
  exact ⟨mp, dx, s _ _ h1, h2.same s⟩
def PlAt (Z : Adr) (H : Hp) (p : Addr) (b n : Nat) (m : Metal) (a : Nat) : Prop := ∃ c dx, H p = some (.ins Z.c_Plan dx (fs_Plan (.ref c) (.int a))) ∧ ChAt Z H c b n m
theorem PlAt.same {Z : Adr} {H H' : Hp} {p : Addr} {b n a : Nat} {m : Metal} (h : PlAt Z H p b n m a) (s : Same H H') : PlAt Z H' p b n m a := by
  obtain ⟨c, dx, h1, h2⟩ := h
  exact ⟨c, dx, s _ _ h1, h2.same s⟩
/-- the lots of a mint, in a list of ten metals -/
structure LotsAt (Z : Adr) (H : Hp) (l : Addr) (as : List Addr) (s : Mint) : Prop where
  lst : H l = some (.lst (as.map V.ref))
  len : as.length = 10
  at_ : ∀ i a, as[i]? = some a → MetalAt Z H a (lotAt s i)
theorem LotsAt.same {Z : Adr} {H H' : Hp} {l : Addr} {as : List Addr} {s : Mint} (h : LotsAt Z H l as s) (e : Same H H') : LotsAt Z H' l as s := ⟨e _ _ h.lst, h.len, fun i a q => (h.at_ i a q).same e⟩
section
variable {P : Program} {w : World} {K : PySem.W.Frag} {mg : Str → Option Value} {base : Heap} {Z : Adr}
def sp_Choice_init (Z : Adr) : Sp := fun vs H Q _ => ∃ (p dx : Addr) (b n m : V), vs = [.ref p, b, n, m] ∧ H p = some (.ins Z.c_Choice dx []) ∧ Q .non (upd H p (.ins Z.c_Choice dx (fs_Choice b n m)))
theorem ok_Choice_init (T : Txt K mg Z) : FnOk P w K mg base CX0 1 Z.f_Choice_init Z.d_Choice_init ["self", "bits", "lots", "metal"] (sp_Choice_init Z) := by
  refine T.F_Choice_init.ok sc_Choice_init (fun vs H Q E h => ?_) (fun cdv A outer s H vs Q E hr h => ?_)
  · obtain ⟨p, dx, b, n, m, rfl, _⟩ := h
    rfl
  · obtain ⟨p, dx, b, n, m, rfl, hp, k⟩ := h
    refine ⟨_, (pss_cons (ps_fld (pv 0) (pv 1) rfl) (pss_cons (ps_fld (pv 0) (pv 2) rfl) (pss_one (ps_fld (pv 0) (pv 3) rfl)))), ?_⟩
    refine ⟨_, rfl, _, rfl, wr_new hp T.cl_Choice T.n_Choice_bits (by show 0 < 1000; decide) rfl ?_⟩
    refine ⟨_, rfl, _, rfl, wr_new upd_same T.cl_Choice T.n_Choice_lots (by show 1 < 1000; decide) (pf1 nq_bits_lots rfl) ?_⟩
    refine ⟨_, rfl, _, rfl, wr_new upd_same T.cl_Choice T.n_Choice_metal (by show 2 < 1000; decide) (pf1 nq_bits_metal (pf1 nq_lots_metal rfl)) ?_⟩
    rw [upd_upd, upd_upd]
    exact k
theorem mk_Choice_of {H : Hp} {b n m : V} {R : Addr → Hp → Prop} {E : XK} (k : ∀ x dx, H x = none → H dx = none → R x (newI H x dx Z.c_Choice (fs_Choice b n m))) :
    ∀ x dx, H x = none → H dx = none → dx ≠ x → sp_Choice_init Z (.ref x :: ([b, n, m] ++ [])) (upd (upd H dx (.own x)) x (.ins Z.c_Choice dx [])) (fun v H2 => v = .non ∧ R x H2) E := fun x dx nn mm _ =>
  ⟨x, dx, b, n, m, rfl, upd_same, rfl, by rw [upd_upd]; exact k x dx nn mm⟩
theorem ch_val {C dz : Addr} {a b c d : Int} {m : V} (e : a = c) (h : b = d) : some (HO.ins C dz (fs_Choice (.int a) (.int b) m)) = some (.ins C dz (fs_Choice (.int c) (.int d) m)) := by rw [e, h]
def sp_Choice_and_lot (Z : Adr) : Sp := fun vs H Q _ => ∃ (c q : Addr) (b n i : Nat) (m l : Metal), vs = [.ref c, .int i, .ref q] ∧ ChAt Z H c b n m ∧ MetalAt Z H q l ∧ i < 10 ∧ ∀ (H' : Hp) (r : Addr), Same H H' → ChAt Z H' r (b + 2 ^ i) (n + 1) (m.plus l) → Q (.ref r) H'
theorem ok_Choice_and_lot (T : Txt K mg Z) : FnOk P w K mg base CX0 4 Z.f_Choice_and_lot Z.d_Choice_and_lot ["self", "place", "metal"] (sp_Choice_and_lot Z) := by
  refine T.F_Choice_and_lot.ok sc_Choice_and_lot (fun vs H Q E h => ?_) (fun cdv A outer s H vs Q E hr h => ?_)
  · obtain ⟨c, q, b, n, i, m, l, rfl, _⟩ := h
    rfl
  · obtain ⟨c, q, b, n, i, m, l, rfl, ⟨mp, dx, hc, hm⟩, hq, hi, k⟩ := h
    refine ⟨_, (pss_one (ps_ret (pe_make T.mk_Choice (ok_Choice_init T) (hr.mono (by decide)) rfl T.g_Choice (b_Choice_init T) .nil pass0 ((pa_cons (pe_op op_add (pe_fld (pv 0) rfl) (pe_op op_shl pe_int (pv 1))) (pa_cons (pe_op op_add (pe_fld (pv 0) rfl) pe_int) (pa_cons (pe_meth (pe_fld (pv 0) rfl) T.cl_Metal T.m_Metal_together_with (ok_Metal_together_with T) (hr.mono (by decide)) (b_Metal_together_with T) .nil pass0 ((pa_cons (pv 2) pa_nil))) pa_nil))))))), ?_⟩
    refine ⟨_, rfl, rd_Choice_bits T hc ⟨_, rfl, _, _, rfl, rfl, ⟨by omega, by omega, by decide⟩, _, _, rfl, rfl, ?_⟩⟩
    obtain ⟨dm, hm'⟩ := hm
    refine ⟨_, rfl, rd_Choice_lots T hc ⟨_, _, rfl, rfl, _, rfl, rd_Choice_metal T hc (me_Metal_together_with hm' ⟨_, rfl, ?_⟩)⟩⟩
    refine ⟨mp, q, m, l, rfl, ⟨dm, hm'⟩, hq, fun H1 r s1 hr1 => mk_Choice_of fun x dz nx nd => ?_⟩
    have e1 : (b : Int) + 1 * 2 ^ (i : Int).toNat = ((b + 2 ^ i : Nat) : Int) := by
      rw [Int.toNat_natCast, Int.one_mul, Int.natCast_add, Int.natCast_pow]
      rfl
    exact k _ x (s1.trans (same_newI nx nd)) ⟨r, dz, Eq.trans newI_at (ch_val e1 rfl), hr1.same (same_newI nx nd)⟩
def sp_Plan_init (Z : Adr) : Sp := fun vs H Q _ => ∃ (p dx : Addr) (c a : V), vs = [.ref p, c, a] ∧ H p = some (.ins Z.c_Plan dx []) ∧ Q .non (upd H p (.ins Z.c_Plan dx (fs_Plan c a)))
theorem ok_Plan_init (T : Txt K mg Z) : FnOk P w K mg base CX0 1 Z.f_Plan_init Z.d_Plan_init ["self", "choice", "added"] (sp_Plan_init Z) := by
  refine T.F_Plan_init.ok sc_Plan_init (fun vs H Q E h => ?_) (fun cdv A outer s H vs Q E hr h => ?_)
  · obtain ⟨p, dx, c, a, rfl, _⟩ := h
    rfl
  · obtain ⟨p, dx, c, a, rfl, hp, k⟩ := h
    refine ⟨_, (pss_cons (ps_fld (pv 0) (pv 1) rfl) (pss_one (ps_fld (pv 0) (pv 2) rfl))), ?_⟩
    refine ⟨_, rfl, _, rfl, wr_new hp T.cl_Plan T.n_Plan_choice (by show 0 < 1000; decide) rfl ?_⟩
    refine ⟨_, rfl, _, rfl, wr_new upd_same T.cl_Plan T.n_Plan_added (by show 1 < 1000; decide) (pf1 nq_choice_added rfl) ?_⟩
    rw [upd_upd]
    exact k
theorem mk_Plan_of {H : Hp} {c a : V} {R : Addr → Hp → Prop} {E : XK} (k : ∀ x dx, H x = none → H dx = none → R x (newI H x dx Z.c_Plan (fs_Plan c a))) :
    ∀ x dx, H x = none → H dx = none → dx ≠ x → sp_Plan_init Z (.ref x :: ([c, a] ++ [])) (upd (upd H dx (.own x)) x (.ins Z.c_Plan dx [])) (fun v H2 => v = .non ∧ R x H2) E := fun x dx n m _ =>
  ⟨x, dx, c, a, rfl, upd_same, rfl, by rw [upd_upd]; exact k x dx n m⟩
theorem int_eq {a b : Nat} : (V.int (a : Int) = V.int (b : Int)) ↔ a = b := by
  rw [V.int.injEq]
  omega
def sp_Plan_is_better_than (Z : Adr) : Sp := fun vs H Q _ => ∃ (p q : Addr) (b n a b' n' a' : Nat) (m m' : Metal), vs = [.ref p, .ref q] ∧ PlAt Z H p b n m a ∧ PlAt Z H q b' n' m' a' ∧ Q (.bl (decide (a < a' ∨ (a = a' ∧ (n < n' ∨ (n = n' ∧ b < b')))))) H
theorem ok_Plan_is_better_than (T : Txt K mg Z) : FnOk P w K mg base CX0 1 Z.f_Plan_is_better_than Z.d_Plan_is_better_than ["self", "other"] (sp_Plan_is_better_than Z) := by
  refine T.F_Plan_is_better_than.ok sc_Plan_is_better_than (fun vs H Q E h => ?_) (fun cdv A outer s H vs Q E hr h => ?_)
  · obtain ⟨p, q, b, n, a, b', n', a', m, m', rfl, _⟩ := h
    rfl
  · obtain ⟨p, q, b, n, a, b', n', a', m, m', rfl, ⟨c, dx, hp, ⟨mp, dc, hc, _⟩⟩, ⟨c', dx', hp', ⟨mp', dc', hc', _⟩⟩, k⟩ := h
    refine ⟨_, (pss_cons (ps_if (pt_cmpR op_ne (pe_fld (pv 0) rfl) (pe_fld (pv 1) rfl) (nomark _)) (pss_one (ps_ret (pe_cmpR op_lt (pe_fld (pv 0) rfl) (pe_fld (pv 1) rfl) (nomark _)))) pss_nil) (pss_cons (ps_if (pt_cmpR op_ne (pe_fld (pe_fld (pv 0) rfl) rfl) (pe_fld (pe_fld (pv 1) rfl) rfl) (nomark _)) (pss_one (ps_ret (pe_cmpR op_lt (pe_fld (pe_fld (pv 0) rfl) rfl) (pe_fld (pe_fld (pv 1) rfl) rfl) (nomark _)))) pss_nil) (pss_one (ps_ret (pe_cmpR op_lt (pe_fld (pe_fld (pv 0) rfl) rfl) (pe_fld (pe_fld (pv 1) rfl) rfl) (nomark _)))))), ?_⟩
    refine ⟨_, rfl, rd_Plan_added T hp ⟨_, rfl, rd_Plan_added T hp' ⟨rfl, _, rfl, ite2 (fun h1 => ?_) (fun h1 => ?_)⟩⟩⟩
    · refine ⟨_, rfl, rd_Plan_added T hp ⟨_, rfl, rd_Plan_added T hp' ⟨_, _, rfl, rfl, ?_⟩⟩⟩
      have h1 : ¬ a = a' := fun e => by
        rw [decide_eq_true (int_eq.mpr e)] at h1
        cases h1
      have e : decide ((a : Int) < (a' : Int)) = decide (a < a' ∨ (a = a' ∧ (n < n' ∨ (n = n' ∧ b < b')))) := by
        rw [decide_eq_decide]
        omega
      rw [← e] at k
      exact k
    · have h1 : a = a' := by
        by_cases q : a = a'
        · exact q
        · exact (h1 (by rw [decide_eq_false (fun e => q (int_eq.mp e))]; rfl)).elim
      refine ⟨_, rfl, rd_Plan_choice T hp (rd_Choice_lots T hc ⟨_, rfl, rd_Plan_choice T hp' (rd_Choice_lots T hc' ⟨rfl, _, rfl, ite2 (fun h2 => ?_) (fun h2 => ?_)⟩)⟩)⟩
      · refine ⟨_, rfl, rd_Plan_choice T hp (rd_Choice_lots T hc ⟨_, rfl, rd_Plan_choice T hp' (rd_Choice_lots T hc' ⟨_, _, rfl, rfl, ?_⟩)⟩)⟩
        have h2 : ¬ n = n' := fun e => by
          rw [decide_eq_true (int_eq.mpr e)] at h2
          cases h2
        have e : decide ((n : Int) < (n' : Int)) = decide (a < a' ∨ (a = a' ∧ (n < n' ∨ (n = n' ∧ b < b')))) := by
          rw [decide_eq_decide]
          omega
        rw [← e] at k
        exact k
      · have h2 : n = n' := by
          by_cases q : n = n'
          · exact q
          · exact (h2 (by rw [decide_eq_false (fun e => q (int_eq.mp e))]; rfl)).elim
        refine ⟨_, rfl, rd_Plan_choice T hp (rd_Choice_bits T hc ⟨_, rfl, rd_Plan_choice T hp' (rd_Choice_bits T hc' ⟨_, _, rfl, rfl, ?_⟩)⟩)⟩
        have e : decide ((b : Int) < (b' : Int)) = decide (a < a' ∨ (a = a' ∧ (n < n' ∨ (n = n' ∧ b < b')))) := by
          rw [decide_eq_decide]
          omega
        rw [← e] at k
        exact k
/-! ### all_choices -/
def ChsAt (Z : Adr) (H : Hp) (as : List Addr) (s : Mint) (bs : List Nat) : Prop := P2 (fun a b => ChAt Z H a b (ones b) (mix s b)) as bs
theorem ChsAt.same {H H' : Hp} {as : List Addr} {s : Mint} {bs : List Nat} (h : ChsAt Z H as s bs) (e : Same H H') : ChsAt Z H' as s bs := P2.mono h fun _ _ q => q.same e
def sp_all_choices (Z : Adr) : Sp := fun vs H Q _ => ∃ (p l : Addr) (as : List Addr) (s : Mint), vs = [.ref p, .ref l] ∧ MetalAt Z H p s.pot ∧ LotsAt Z H l as s ∧ (∀ i, i < 10 → (avail s i = true ↔ ¬ (lotAt s i).grains = 0)) ∧
  ∀ (H' : Hp) (c : Addr) (cs : List Addr), Same H H' → H' c = some (.lst (cs.map V.ref)) → ChsAt Z H' cs s (picks (avail s) 10) → Q (.ref c) H'
theorem ok_all_choices (T : Txt K mg Z) : FnOk P w K mg base CX0 5 Z.f_all_choices Z.d_all_choices ["pot", "lots"] (sp_all_choices Z) := by
  refine T.F_all_choices.ok sc_all_choices (fun vs H Q E h => ?_) (fun cdv A outer s0 H vs Q E hr h => ?_)
  · obtain ⟨p, l, as, s, rfl, _⟩ := h
    rfl
  · obtain ⟨p, l, as, s, rfl, hp, hL, hav, k⟩ := h
    refine ⟨_, (pss_cons (ps_set (i := 2) (sc_all_choices).nd rfl (Or.inl rfl) (pe_lst (pa_cons (pe_make T.mk_Choice (ok_Choice_init T) (hr.mono (by decide)) rfl T.g_Choice (b_Choice_init T) .nil pass0 ((pa_cons pe_int (pa_cons pe_int (pa_cons (pv 0) pa_nil))))) pa_nil))) (pss_cons (ps_for PassesOwn.never rfl (pi_range1 rfl T.n_range (pa_cons (pe_callB call_len_seq (by rfl) T.n_len PySem.boot_len (pa_cons (pv 1) pa_nil)) pa_nil)) (pg_name (i := 3) (sc_all_choices).nd rfl (Or.inr rfl)) (pss_cons (ps_set (i := 4) (sc_all_choices).nd rfl (Or.inr rfl) (pe_ix ix_list (pv 1) (pv 3) (fun _ _ => rfl))) (pss_one (ps_if (pt_not (pt_val (pe_meth0 (pv 4) T.cl_Metal T.m_Metal_is_none (ok_Metal_is_none T) (hr.mono (by decide)) (b_Metal_is_none T) .nil pass0 ))) (pss_one (ps_set (i := 2) (sc_all_choices).nd rfl (Or.inl rfl) (pe_op op_cat (pv 2) (pe_lc rfl (sc_all_choices).nd (pi_list (pv 2)) (own := [("choice", 5)]) (blkOk_by (by rfl)) (fun _ _ _ _ _ => pg_name (i := 5) (sc_all_choices).nd rfl (Or.inl rfl)) (fun _ _ _ _ _ => pts_nil) (fun _ _ _ _ _ => (pe_meth (pv 5) T.cl_Choice T.m_Choice_and_lot (ok_Choice_and_lot T) (hr.mono (by decide)) (b_Choice_and_lot T) .nil pass0 ((pa_cons (pv 3) (pa_cons (pv 4) pa_nil))))))))) pss_nil)))) (pss_one (ps_ret (pv 2))))), ?_⟩
    refine ⟨_, rfl, mk_Choice_of fun x dx nx nd => ⟨by show 1 ≤ 2 ^ 24; decide, fun c0 hc0 => ?_⟩⟩
    have s1 := same_newI (C := Z.c_Choice) (fs := fs_Choice (.int 0) (.int 0) (.ref p)) nx nd
    have s2 : Same H _ := s1.trans (Same.new (o := .lst [.ref x]) hc0)
    have C0 : ChsAt Z (upd (newI H x dx Z.c_Choice (fs_Choice (.int 0) (.int 0) (.ref p))) c0 (.lst [.ref x])) [x] s (picks (avail s) 0) := by
      refine P2.one ⟨p, dx, ?_, ?_⟩
      · rw [upd_ne (ne_of_none newI_at hc0), newI_at, MP.ones_zero]
        rfl
      · rw [MP.mix_zero]
        exact hp.same s2
    refine ⟨_, rfl, l, _, rfl, .inl (SqL.of (s2 _ _ hL.lst)), _, rfl, (by rw [List.length_map, hL.len]; decide), (by rw [List.length_map, hL.len]; decide), ?_⟩
    rw [List.length_map, hL.len]
    refine for_range (n := 10) (fun i σ H' => ∃ (c : Addr) (cs : List Addr) (v3 v4 : Option V), σ = [some (.ref p), some (.ref l), some (.ref c), v3, v4, none] ∧ Same H H' ∧ H' c = some (.lst (cs.map V.ref)) ∧ ChsAt Z H' cs s (picks (avail s) i))
      ⟨c0, [x], none, none, rfl, s2, upd_same, C0⟩ ?_ ?_
    · rintro i σ H' hi ⟨c, cs, v3, v4, rfl, s5, hc, hC⟩
      rw [Int.zero_add]
      obtain ⟨a, ha⟩ : ∃ a, as[i]? = some a := ⟨_, List.getElem?_eq_getElem (by rw [hL.len]; exact hi)⟩
      obtain ⟨da, hA⟩ := (hL.at_ i a ha).same s5
      refine ⟨_, rfl, _, rfl, l, _, _, .ref a, rfl, rfl, SqL.of (s5 _ _ hL.lst), atI_nat (by rw [List.getElem?_map, ha]; rfl), ?_⟩
      refine ⟨_, rfl, me_Metal_is_none hA ⟨a, _, rfl, ⟨da, hA⟩, _, rfl, ite2 (fun h0 => ?_) (fun h0 => ?_)⟩⟩
      · have hg : ¬ (lotAt s i).grains = 0 := by
          simp at h0
          exact h0
        have av := (hav i hi).mpr hg
        refine ⟨_, rfl, _, rfl, c, rfl, ⟨_, SqL.of hc⟩, fun D hD => lc_list (xs := cs.map V.ref) (fun j H2 => ∃ ds, Same H' H2 ∧ H2 D = some (.lst (ds.map V.ref)) ∧ ChsAt Z H2 ds s (((picks (avail s) i).take j).map fun b => b + 2 ^ i))
          ⟨[], Same.new hD, upd_same, P2.nil⟩ (fun j H2 _ ⟨_, s6, _⟩ => SqL.of (s6 _ _ hc)) ?_ ?_⟩
        · rintro j y H2 hy ⟨ds, s6, hD2, hds⟩
          obtain ⟨ch, hch, rfl⟩ := refs_at hy
          obtain ⟨b, hb, hCh⟩ := P2.right hC hch
          have bl := MP.picks_lt (List.mem_of_getElem? hb)
          obtain ⟨mp, dc, hCh1, hm⟩ := hCh.same s6
          have hlen : ds.length ≤ 1024 := by
            have h1 := hds.1
            rw [List.length_map, List.length_take] at h1
            have h2 := MP.picks_len (avail s) i
            have h3 : 2 ^ i ≤ 2 ^ 10 := Nat.pow_le_pow_right (by decide) (by omega)
            omega
          refine ⟨rfl, _, rfl, me_Choice_and_lot hCh1 ⟨_, rfl, _, rfl, ch, a, b, _, i, _, _, rfl, ⟨mp, dc, hCh1, hm⟩, ⟨da, s6 _ _ hA⟩, hi, fun H3 r s7 hr3 => ⟨_, s7 _ _ hD2, ?_, ?_⟩⟩⟩
          · rw [List.length_map]
            exact Nat.lt_of_le_of_lt hlen (by decide)
          · have s8 : Same H2 H3 := s7
            refine ⟨ds ++ [r], fun b0 o e => ?_, ?_, ?_⟩
            · have nb : b0 ≠ D := ne_of_none e hD
              rw [upd_ne nb]
              exact s7 _ _ (s6 _ _ e)
            · rw [upd_same, List.map_append]
              rfl
            · have h9 : Same H3 (upd H3 D (.lst (ds.map V.ref ++ [V.ref r]))) ∨ True := .inr trivial
              have eT : ((picks (avail s) i).take (j + 1)).map (fun b => b + 2 ^ i) = ((picks (avail s) i).take j).map (fun b => b + 2 ^ i) ++ [b + 2 ^ i] := by
                obtain ⟨hj, ej⟩ := List.getElem?_eq_some_iff.mp hb
                rw [← List.take_append_getElem hj, List.map_append, ej]
                rfl
              rw [eT]
              have hD3 := s7 _ _ hD2
              have up : ∀ {a0 b0 n0 m0}, ChAt Z H3 a0 b0 n0 m0 → ChAt Z (upd H3 D (.lst (ds.map V.ref ++ [V.ref r]))) a0 b0 n0 m0 := by
                rintro a0 b0 n0 m0 ⟨mp0, dx0, q1, dy0, q2⟩
                exact ⟨mp0, dx0, by rw [upd_ne (ne_of q1 hD3 (by intro z; cases z))]; exact q1, dy0, by rw [upd_ne (ne_of q2 hD3 (by intro z; cases z))]; exact q2⟩
              refine P2.snoc (P2.mono hds fun _ _ q => up (q.same s7)) (up ?_)
              rw [MP.ones_top bl hi, MP.mix_top s bl hi]
              exact hr3
        · rintro H2 ⟨ds, s6, hD2, hds⟩
          rw [List.length_map, hC.1, List.take_length] at hds
          have hl1 := hC.1
          have hl2 := hds.1
          rw [List.length_map] at hl2
          have h2 := MP.picks_len (avail s) i
          have h3 : 2 ^ i ≤ 2 ^ 10 := Nat.pow_le_pow_right (by decide) (by omega)
          refine ⟨_, _, _, _, rfl, rfl, s6 _ _ hc, hD2, ?_, fun n hn => ?_⟩
          · rw [List.length_map, List.length_map, hl1, hl2]
            exact Nat.le_trans (by omega : _ ≤ 2048) (by decide)
          · have s7 : Same H2 (upd H2 n (.lst (cs.map V.ref ++ ds.map V.ref))) := Same.new hn
            refine ⟨n, cs ++ ds, _, _, rfl, (s5.trans s6).trans s7, ?_, ?_⟩
            · rw [upd_same, List.map_append]
            · rw [MP.picks_succ, if_pos av]
              exact P2.append (P2.mono hC fun _ _ q => q.same (s6.trans s7)) (P2.mono hds fun _ _ q => q.same s7)
      · have hg : (lotAt s i).grains = 0 := by
          simp at h0
          exact h0
        have av : ¬ avail s i = true := fun e => (hav i hi).mp e hg
        refine ⟨c, cs, _, _, rfl, s5, hc, ?_⟩
        rw [MP.picks_succ, if_neg av]
        exact hC
    · rintro σ H' ⟨c, cs, v3, v4, rfl, s5, hc, hC⟩
      exact ⟨_, rfl, k H' c cs s5 hc hC⟩
/-! ### find_plan -/
def BestAt (Z : Adr) (H : Hp) (v : V) (s : Mint) (r : Option (Nat × Nat)) : Prop := match r with
  | none => v = .non
  | some (b, a) => ∃ p, v = .ref p ∧ PlAt Z H p b (ones b) (mix s b) a
theorem BestAt.same {H H' : Hp} {v : V} {s : Mint} {r : Option (Nat × Nat)} (h : BestAt Z H v s r) (e : Same H H') : BestAt Z H' v s r := by
  match r, h with
  | none, h => exact h
  | some (b, a), ⟨p, h1, h2⟩ => exact ⟨p, h1, h2.same e⟩
def sp_find_plan (Z : Adr) : Sp := fun vs H Q _ => ∃ (p l : Addr) (as : List Addr) (s : Mint) (kd : Km408.Kind) (least : Nat), vs = [.ref p, .ref l, .int kd.fine, .int least] ∧ MetalAt Z H p s.pot ∧ LotsAt Z H l as s ∧ (∀ i, i < 10 → (avail s i = true ↔ ¬ (lotAt s i).grains = 0)) ∧
  1 ≤ kd.fine ∧ kd.fine ≤ 24 ∧ ∀ (H' : Hp) (v : V), Same H H' → BestAt Z H' v s (s.plan kd least) → Q v H'
theorem ok_find_plan (T : Txt K mg Z) : FnOk P w K mg base CX0 6 Z.f_find_plan Z.d_find_plan ["pot", "lots", "fine", "least"] (sp_find_plan Z) := by
  refine T.F_find_plan.ok sc_find_plan (fun vs H Q E h => ?_) (fun cdv A outer s0 H vs Q E hr h => ?_)
  · obtain ⟨p, l, as, s, kd, least, rfl, _⟩ := h
    rfl
  · obtain ⟨p, l, as, s, kd, least, rfl, hp, hL, hav, f1, f2, k⟩ := h
    refine ⟨_, (pss_cons (ps_set (i := 4) (sc_find_plan).nd rfl (Or.inl rfl) (pe_call (ok_gold_by_rest T) (hr.mono (by decide)) rfl T.g_gold_by_rest T.F_gold_by_rest.kp (b_gold_by_rest T) .nil pass0 ((pa_cons (pv 2) pa_nil)))) (pss_cons (ps_set (i := 5) (sc_find_plan).nd rfl (Or.inl rfl) pe_non) (pss_cons (ps_for PassesOwn.never rfl (pi_list (pe_call (ok_all_choices T) (hr.mono (by decide)) rfl T.g_all_choices T.F_all_choices.kp (b_all_choices T) .nil pass0 ((pa_cons (pv 0) (pa_cons (pv 1) pa_nil))))) (pg_name (i := 6) (sc_find_plan).nd rfl (Or.inl rfl)) (pss_cons (ps_set (i := 7) (sc_find_plan).nd rfl (Or.inl rfl) (pe_call (ok_find_need T) (hr.mono (by decide)) rfl T.g_find_need T.F_find_need.kp (b_find_need T) .nil pass0 ((pa_cons (pe_fld (pv 6) rfl) (pa_cons (pv 2) (pa_cons (pv 4) pa_nil)))))) (pss_one (ps_if (PW.pt (pw_and (pt_cmpR op_notN (pv 7) pe_non (nomark _)) (pw_and1 (pt_cmpR op_ge (pe_op op_add (pe_fld (pe_fld (pv 6) rfl) rfl) (pe_meth0 (pv 7) T.cl_Need T.m_Need_together (ok_Need_together T) (hr.mono (by decide)) (b_Need_together T) .nil pass0 )) (pv 3) (nomark _))))) (pss_cons (ps_set (i := 8) (sc_find_plan).nd rfl (Or.inl rfl) (pe_make T.mk_Plan (ok_Plan_init T) (hr.mono (by decide)) rfl T.g_Plan (b_Plan_init T) .nil pass0 ((pa_cons (pv 6) (pa_cons (pe_meth0 (pv 7) T.cl_Need T.m_Need_together (ok_Need_together T) (hr.mono (by decide)) (b_Need_together T) .nil pass0 ) pa_nil))))) (pss_one (ps_if (PW.pt (pw_or (pt_cmpR op_isN (pv 5) pe_non (nomark _)) (pw_or1 (pt_val (pe_meth (pv 8) T.cl_Plan T.m_Plan_is_better_than (ok_Plan_is_better_than T) (hr.mono (by decide)) (b_Plan_is_better_than T) .nil pass0 ((pa_cons (pv 5) pa_nil))))))) (pss_one (ps_set (i := 5) (sc_find_plan).nd rfl (Or.inl rfl) (pv 8))) pss_nil))) pss_nil)))) (pss_one (ps_ret (pv 5)))))), ?_⟩
    refine ⟨_, rfl, kd.fine, rfl, f1, f2, fun H1 lg s1 hlg => ?_⟩
    refine ⟨_, rfl, _, rfl, p, l, as, s, rfl, hp.same s1, hL.same s1, hav, fun H2 c cs s2 hc hC => ?_⟩
    refine ⟨c, rfl, ⟨_, SqL.of hc⟩, for_list (K := K) (a := c) (xs := cs.map V.ref) (fun i σ H' => ∃ (v : V) (w6 w7 w8 : Option V), σ = [some (.ref p), some (.ref l), some (.int kd.fine), some (.int least), some (.ref lg), some v, w6, w7, w8] ∧ Same H2 H' ∧ BestAt Z H' v s (((picks (avail s) 10).take i).foldl (MP.planStep s kd least) none))
      ⟨.non, none, none, none, rfl, Same.refl _, rfl⟩ (fun i σ H' _ ⟨_, _, _, _, _, s5, _⟩ => SqL.of (s5 _ _ hc)) ?_ ?_⟩
    · rintro i y σ H' hy ⟨v, w6, w7, w8, rfl, s5, hB⟩
      obtain ⟨ch, hch, rfl⟩ := refs_at hy
      obtain ⟨b, hb, hCh⟩ := P2.right hC hch
      have hin := List.mem_of_getElem? hb
      have hcost := MP.cost_eq (k := kd) (least := least) hin
      rw [MP.fold_take hb]
      obtain ⟨mp, dc, hC1, dm, hM⟩ := hCh.same s5
      refine ⟨_, rfl, rd_Choice_metal T hC1 ⟨_, rfl, _, rfl, mp, lg, _, kd.fine, rfl, ⟨dm, hM⟩, f1, f2, SqL.of (s5 _ _ (s2 _ _ hlg)), fun hN => ?_, fun g q hN H3 r s6 hr3 => ?_⟩⟩
      · -- nothing makes it so fine
        rw [hN] at hcost
        refine ⟨_, rfl, rfl, _, rfl, ?_⟩
        rw [MP.step_none hcost]
        exact ⟨v, _, _, _, rfl, s5, hB⟩
      · rw [hN] at hcost
        have hcost : s.cost kd least b = if (mix s b).grains + g + q < least then none else some (g + q, ones b) := hcost
        have hC3 := s6 _ _ hC1
        have hM3 := s6 _ _ hM
        obtain ⟨dn, hN3⟩ := hr3
        refine ⟨_, rfl, rfl, _, rfl, ?_⟩
        refine ⟨_, rfl, rd_Choice_metal T hC3 (rd_Metal_grains T hM3 ⟨_, rfl, me_Need_together hN3 ⟨r, g, q, rfl, ⟨dn, hN3⟩, _, _, rfl, rfl, _, rfl, _, _, rfl, rfl, _, rfl, ite2 (fun h1 => ?_) (fun h1 => ?_)⟩⟩)⟩
        · have h1 := of_decide_eq_true h1
          rw [if_neg (by omega)] at hcost
          refine ⟨_, rfl, _, rfl, me_Need_together hN3 ⟨r, g, q, rfl, ⟨dn, hN3⟩, mk_Plan_of fun x dz nx nd => ?_⟩⟩
          have s7 := same_newI (C := Z.c_Plan) (fs := fs_Plan (.ref ch) (.int (g + q : Nat))) nx nd
          have hP : PlAt Z (newI H3 x dz Z.c_Plan (fs_Plan (.ref ch) (.int (g + q : Nat)))) x b (ones b) (mix s b) (g + q) := ⟨ch, dz, newI_at, ChAt.same ⟨mp, dc, hC3, dm, hM3⟩ s7⟩
          have hB7 := hB.same (s6.trans s7)
          cases e : ((picks (avail s) 10).take i).foldl (MP.planStep s kd least) none with
          | none =>
            rw [e] at hB7
            have hB7 : v = .non := hB7
            subst hB7
            refine ⟨_, rfl, rfl, _, rfl, ?_⟩
            rw [MP.step_first hcost]
            exact ⟨_, rfl, _, _, _, _, rfl, (s5.trans s6).trans s7, x, rfl, hP⟩
          | some ad =>
            obtain ⟨a, d⟩ := ad
            rw [e] at hB7
            obtain ⟨pb, rfl, hb2⟩ := hB7
            have lt := MP.fold_below hb e
            obtain ⟨dP, hP1⟩ : ∃ dP, newI H3 x dz Z.c_Plan (fs_Plan (.ref ch) (.int (g + q : Nat))) x = some (.ins Z.c_Plan dP (fs_Plan (.ref ch) (.int (g + q : Nat)))) := ⟨dz, newI_at⟩
            refine ⟨_, rfl, rfl, _, rfl, ?_⟩
            refine ⟨_, rfl, me_Plan_is_better_than hP1 ⟨_, rfl, x, pb, b, _, g + q, a, _, d, _, _, rfl, hP, hb2, _, rfl, ite2 (fun h2 => ?_) (fun h2 => ?_)⟩⟩
            · rw [MP.step_some hcost, MP.less_iff lt, if_pos h2]
              exact ⟨_, rfl, _, _, _, _, rfl, (s5.trans s6).trans s7, x, rfl, hP⟩
            · rw [MP.step_some hcost, MP.less_iff lt, if_neg h2]
              exact ⟨_, _, _, _, rfl, (s5.trans s6).trans s7, pb, rfl, hb2⟩
        · have h1 : ¬ _ := fun e => h1 (decide_eq_true e)
          rw [if_pos (by omega)] at hcost
          rw [MP.step_none hcost]
          exact ⟨v, _, _, _, rfl, s5.trans s6, hB.same s6⟩
    · rintro σ H' ⟨v, w6, w7, w8, rfl, s5, hB⟩
      rw [List.length_map, hC.1, List.take_length, ← MP.plan_eq] at hB
      exact ⟨_, rfl, k H' v ((s1.trans s2).trans s5) hB⟩
end
end Mi


set_option Elab.async false
set_option linter.all false
set_option maxRecDepth 100000
set_option maxHeartbeats 4000000
namespace Mi
open PySem PySem.Spec PyProof.Rows L2
open Km408 (Metal Mint ones)
open MP (picks avail mix lotAt)
/-! ### whose an address is -/
inductive Role where
  | mint (i : Nat) | kinds (i : Nat) | dies (i : Nat) | lots (i : Nat) | credit (i : Nat)
  | kind (i j : Nat) | stock (i j : Nat) | box (i j : Nat) | die (i j : Nat) | book | before | behind | free
def owner : Role → Option Nat
  | .mint i => some i
  | .kinds i => some i
  | .dies i => some i
  | .lots i => some i
  | .credit i => some i
  | .kind i _ => some i
  | .stock i _ => some i
  | .box i _ => some i
  | .die i _ => some i
  | .book => none
  | .before => none
  | .behind => none
  | .free => none
abbrev Roles := Addr → Role
theorem role_ne {ρ : Roles} {x y : Addr} {r q : Role} (hx : ρ x = r) (hy : ρ y = q) (d : r ≠ q) : x ≠ y := fun e => d (by rw [← hx, ← hy, e])
/-- what is never changed -/
def Imm (Z : Adr) (o : HO) : Prop := ∃ dx g c, o = .ins Z.c_Metal dx (fs_Metal g c)
/-- all that isn't the mint i's is as it was; what never changes, too; nothing goes -/
structure Fr (Z : Adr) (ρ : Roles) (i : Nat) (H H' : Hp) : Prop where
  out : ∀ b o, H b = some o → owner (ρ b) ≠ some i → H' b = some o
  imm : ∀ b o, H b = some o → Imm Z o → H' b = some o
  some_ : ∀ b o, H b = some o → ∃ o', H' b = some o'
def Ext (H : Hp) (ρ ρ' : Roles) : Prop := ∀ b o, H b = some o → ρ' b = ρ b
theorem Ext.refl (H : Hp) (ρ : Roles) : Ext H ρ ρ := fun _ _ _ => rfl
theorem Fr.refl (Z : Adr) (ρ : Roles) (i : Nat) (H : Hp) : Fr Z ρ i H H := ⟨fun _ _ h _ => h, fun _ _ h _ => h, fun _ o h => ⟨o, h⟩⟩
theorem Fr.trans {Z : Adr} {ρ ρ1 : Roles} {i : Nat} {H H1 H2 : Hp} (a : Fr Z ρ i H H1) (e : Ext H ρ ρ1) (b : Fr Z ρ1 i H1 H2) : Fr Z ρ i H H2 := by
  refine ⟨fun x o h q => b.out x o (a.out x o h q) (by rw [e x o h]; exact q), fun x o h q => b.imm x o (a.imm x o h q) q, fun x o h => ?_⟩
  obtain ⟨o1, h1⟩ := a.some_ x o h
  exact b.some_ x o1 h1
theorem Ext.trans {Z : Adr} {ρ ρ1 ρ2 : Roles} {i : Nat} {H H1 : Hp} (a : Ext H ρ ρ1) (f : Fr Z ρ i H H1) (b : Ext H1 ρ1 ρ2) : Ext H ρ ρ2 := fun x o h => by
  obtain ⟨o1, h1⟩ := f.some_ x o h
  rw [b x o1 h1, a x o h]
theorem Fr.same {Z : Adr} {ρ : Roles} {i : Nat} {H H' : Hp} (s : Same H H') : Fr Z ρ i H H' := ⟨fun b o h _ => s b o h, fun b o h _ => s b o h, fun b o h => ⟨o, s b o h⟩⟩
/-- a store at an address of the mint's that holds no metal -/
theorem Fr.upd {Z : Adr} {ρ : Roles} {i : Nat} {H : Hp} {x : Addr} {o u : HO} (hx : H x = some u) (hu : ¬ Imm Z u) (hr : owner (ρ x) = some i) : Fr Z ρ i H (upd H x o) := by
  refine ⟨fun b v h q => ?_, fun b v h q => ?_, fun b v h => ?_⟩
  · rw [upd_ne (fun e => q (by rw [e]; exact hr))]
    exact h
  · rw [upd_ne (fun e => hu (by rw [e, hx] at h; cases h; exact q))]
    exact h
  · by_cases e : b = x
    · rw [e]
      exact ⟨o, upd_same⟩
    · rw [upd_ne e]
      exact ⟨v, h⟩
theorem MetalAt.fr {Z : Adr} {ρ : Roles} {i : Nat} {H H' : Hp} {p : Addr} {m : Metal} (h : MetalAt Z H p m) (f : Fr Z ρ i H H') : MetalAt Z H' p m := by
  obtain ⟨dx, h⟩ := h
  exact ⟨dx, f.imm _ _ h ⟨dx, _, _, rfl⟩⟩
theorem lst_imm {Z : Adr} {xs : List V} : ¬ Imm Z (.lst xs) := fun ⟨_, _, _, e⟩ => by cases e
/-! ### a mint in the heap -/
def nv (l : List Nat) : List V := l.map fun (x : Nat) => V.int x
structure KP where
  a : Addr
  dx : Addr
  st : Addr
  bx : Addr
structure KindAt (Z : Adr) (ρ : Roles) (i j : Nat) (H : Hp) (k : KP) (kd : Km408.Kind) : Prop where
  obj : H k.a = some (.ins Z.c_Kind k.dx (fs_Kind (.int kd.grains) (.int kd.fine) (.int kd.remedy) (.int kd.struck) (.ref k.st) (.ref k.bx)))
  ra : ρ k.a = .kind i j
  st : H k.st = some (.lst (nv kd.stock))
  rs : ρ k.st = .stock i j
  bx : H k.bx = some (.lst (nv kd.box))
  rb : ρ k.bx = .box i j
structure DieAt (Z : Adr) (ρ : Roles) (i j : Nat) (H : Hp) (e : Addr) (d : Km408.Die) : Prop where
  obj : ∃ dx, H e = some (.ins Z.c_Die dx (fs_Die (.int d.kind) (.int d.left)))
  ra : ρ e = .die i j
structure Fp where
  a : Addr
  dx : Addr
  lk : Addr
  ld : Addr
  ll : Addr
  mp : Addr
  lc : Addr
  ms : List Addr
  ks : List KP
  es : List Addr
def mintFs (f : Fp) (s : Mint) : List (Str × V) := fs_Mint (.int s.keeps) (.ref f.lk) (.ref f.ld) (.ref f.ll) (.ref f.mp) (.ref f.lc) (.int s.kept) (.int s.owed) (.int s.taken.carats) (.int s.added.carats) (.int s.paid.carats)
structure MintAt (Z : Adr) (ρ : Roles) (i : Nat) (H : Hp) (f : Fp) (s : Mint) : Prop where
  obj : H f.a = some (.ins Z.c_Mint f.dx (mintFs f s))
  ra : ρ f.a = .mint i
  lk : H f.lk = some (.lst (f.ks.map fun k => V.ref k.a))
  rk : ρ f.lk = .kinds i
  kl : f.ks.length = s.kinds.length
  kat : ∀ j k kd, f.ks[j]? = some k → s.kinds[j]? = some kd → KindAt Z ρ i j H k kd
  ld : H f.ld = some (.lst (f.es.map V.ref))
  rd : ρ f.ld = .dies i
  el : f.es.length = s.dies.length
  eat : ∀ j e d, f.es[j]? = some e → s.dies[j]? = some d → DieAt Z ρ i j H e d
  lots : LotsAt Z H f.ll f.ms s
  rl : ρ f.ll = .lots i
  pot : MetalAt Z H f.mp s.pot
  lc : H f.lc = some (.lst (nv s.credits))
  rc : ρ f.lc = .credit i
section
variable {Z : Adr} {ρ ρ' : Roles} {i : Nat} {H H' : Hp} {f : Fp} {s : Mint}
/-- another mint's stores, and new things -/
theorem KindAt.keep {j : Nat} {k : KP} {kd : Km408.Kind} (h : KindAt Z ρ i j H k kd) (e : ∀ b o, H b = some o → (ρ b = .kind i j ∨ ρ b = .stock i j ∨ ρ b = .box i j) → H' b = some o ∧ ρ' b = ρ b) : KindAt Z ρ' i j H' k kd := by
  obtain ⟨a1, a2⟩ := e _ _ h.obj (.inl h.ra)
  obtain ⟨b1, b2⟩ := e _ _ h.st (.inr (.inl h.rs))
  obtain ⟨c1, c2⟩ := e _ _ h.bx (.inr (.inr h.rb))
  exact ⟨a1, a2.trans h.ra, b1, b2.trans h.rs, c1, c2.trans h.rb⟩
theorem DieAt.keep {j : Nat} {a : Addr} {d : Km408.Die} (h : DieAt Z ρ i j H a d) (e : ∀ b o, H b = some o → ρ b = .die i j → H' b = some o ∧ ρ' b = ρ b) : DieAt Z ρ' i j H' a d := by
  obtain ⟨dx, h1⟩ := h.obj
  obtain ⟨a1, a2⟩ := e _ _ h1 h.ra
  exact ⟨⟨dx, a1⟩, a2.trans h.ra⟩
theorem MintAt.keep (h : MintAt Z ρ i H f s) (e : ∀ b o, H b = some o → owner (ρ b) = some i → H' b = some o ∧ ρ' b = ρ b) (m : ∀ b o, H b = some o → Imm Z o → H' b = some o) : MintAt Z ρ' i H' f s := by
  obtain ⟨a1, a2⟩ := e _ _ h.obj (by rw [h.ra]; rfl)
  obtain ⟨b1, b2⟩ := e _ _ h.lk (by rw [h.rk]; rfl)
  obtain ⟨c1, c2⟩ := e _ _ h.ld (by rw [h.rd]; rfl)
  obtain ⟨d1, d2⟩ := e _ _ h.lots.lst (by rw [h.rl]; rfl)
  obtain ⟨g1, g2⟩ := e _ _ h.lc (by rw [h.rc]; rfl)
  have mm : ∀ {p x}, MetalAt Z H p x → MetalAt Z H' p x := fun ⟨dx, q⟩ => ⟨dx, m _ _ q ⟨dx, _, _, rfl⟩⟩
  refine ⟨a1, a2.trans h.ra, b1, b2.trans h.rk, h.kl, fun j k kd q1 q2 => (h.kat j k kd q1 q2).keep fun b o q r => e b o q ?_, c1, c2.trans h.rd, h.el, fun j a d q1 q2 => (h.eat j a d q1 q2).keep fun b o q r => e b o q (by rw [r]; rfl), ⟨d1, h.lots.len, fun j a q => mm (h.lots.at_ j a q)⟩, d2.trans h.rl, mm h.pot, g1, g2.trans h.rc⟩
  rcases r with r | r | r <;> (rw [r]; rfl)
theorem MintAt.same (h : MintAt Z ρ i H f s) (e : Same H H') : MintAt Z ρ i H' f s := h.keep (fun b o q _ => ⟨e b o q, rfl⟩) fun b o q _ => e b o q
theorem MintAt.other {k : Nat} (h : MintAt Z ρ i H f s) (e : Fr Z ρ k H H') (x : Ext H ρ ρ') (d : i ≠ k) : MintAt Z ρ' i H' f s := h.keep (fun b o q r => ⟨e.out b o q (by rw [r]; intro z; exact d (Option.some.inj z)), x b o q⟩) e.imm
/-! ### the stores, one by one -/
theorem mint_imm {dx : Addr} {a b c d e g h i1 i2 i3 i4 : V} : ¬ Imm Z (.ins Z.c_Mint dx (fs_Mint a b c d e g h i1 i2 i3 i4)) := fun ⟨_, _, _, q⟩ => by
  injection q with _ _ q
  unfold fs_Mint fs_Metal at q
  injection q with q1 q2
  injection q2 with q3 q4
  injection q4
theorem kind_imm {dx : Addr} {a b c d e g : V} : ¬ Imm Z (.ins Z.c_Kind dx (fs_Kind a b c d e g)) := fun ⟨_, _, _, q⟩ => by
  injection q with _ _ q
  unfold fs_Kind fs_Metal at q
  injection q with q1 q2
  injection q2 with q3 q4
  injection q4
theorem die_imm {dx : Addr} {a b : V} : ¬ Imm Z (.ins Z.c_Die dx (fs_Die a b)) := fun ⟨_, _, _, q⟩ => by
  injection q with _ _ q
  unfold fs_Die fs_Metal at q
  injection q with q1 q2
  injection q1 with q3 q4
  exact absurd q3 (by decide +kernel)
theorem mintFs_imm {dx : Addr} : ¬ Imm Z (.ins Z.c_Mint dx (mintFs f s)) := mint_imm
/-- of the mint's own attributes: the numbers, the pot -/
theorem MintAt.put (h : MintAt Z ρ i H f s) {q : Addr} {s' : Mint} (hq : MetalAt Z H q s'.pot) (e1 : s'.kinds = s.kinds) (e2 : s'.dies = s.dies) (e3 : s'.lots = s.lots) (e4 : s'.credits = s.credits) :
    MintAt Z ρ i (upd H f.a (.ins Z.c_Mint f.dx (mintFs { f with mp := q } s'))) { f with mp := q } s' ∧ Fr Z ρ i H (upd H f.a (.ins Z.c_Mint f.dx (mintFs { f with mp := q } s'))) := by
  have F : Fr Z ρ i H (upd H f.a (.ins Z.c_Mint f.dx (mintFs { f with mp := q } s'))) := Fr.upd h.obj mintFs_imm (by rw [h.ra]; rfl)
  have kp : ∀ b o r, H b = some o → ρ b = r → r ≠ .mint i → upd H f.a (.ins Z.c_Mint f.dx (mintFs { f with mp := q } s')) b = some o := fun b o r hb hr d => by
    rw [upd_ne (role_ne hr h.ra d)]
    exact hb
  refine ⟨⟨upd_same, h.ra, kp _ _ _ h.lk h.rk (by intro z; cases z), h.rk, by rw [e1]; exact h.kl, fun j k kd q1 q2 => (h.kat j k kd q1 (by rw [← e1]; exact q2)).keep fun b o q r => ⟨?_, rfl⟩, kp _ _ _ h.ld h.rd (by intro z; cases z), h.rd, by rw [e2]; exact h.el, fun j a d q1 q2 => (h.eat j a d q1 (by rw [← e2]; exact q2)).keep fun b o q r => ⟨kp _ _ _ q r (by intro z; cases z), rfl⟩,
    ⟨kp _ _ _ h.lots.lst h.rl (by intro z; cases z), h.lots.len, fun j a q => ?_⟩, h.rl, hq.fr F, by rw [e4]; exact kp _ _ _ h.lc h.rc (by intro z; cases z), h.rc⟩, F⟩
  · rcases r with r | r | r <;> exact kp _ _ _ q r (by intro z; cases z)
  · have := (h.lots.at_ j a q).fr F
    unfold lotAt at this ⊢
    rw [e3]
    exact this
/-- lots[j] = a metal -/
theorem MintAt.lot (h : MintAt Z ρ i H f s) {q : Addr} {j : Nat} {o : Option Metal} (hq : MetalAt Z H q (o.getD ⟨0, 0⟩)) (hj : j < 10) (hl : s.lots.length = 10) :
    MintAt Z ρ i (upd H f.ll (.lst ((f.ms.map V.ref).set j (.ref q)))) { f with ms := f.ms.set j q } { s with lots := s.lots.set j o } ∧ Fr Z ρ i H (upd H f.ll (.lst ((f.ms.map V.ref).set j (.ref q)))) := by
  have F : Fr Z ρ i H (upd H f.ll (.lst ((f.ms.map V.ref).set j (.ref q)))) := Fr.upd h.lots.lst lst_imm (by rw [h.rl]; rfl)
  have kp : ∀ b o r, H b = some o → ρ b = r → r ≠ .lots i → upd H f.ll (.lst ((f.ms.map V.ref).set j (.ref q))) b = some o := fun b o r hb hr d => by
    rw [upd_ne (role_ne hr h.rl d)]
    exact hb
  refine ⟨⟨kp _ _ _ h.obj h.ra (by intro z; cases z), h.ra, kp _ _ _ h.lk h.rk (by intro z; cases z), h.rk, h.kl, fun j k kd q1 q2 => (h.kat j k kd q1 q2).keep fun b o q r => ⟨?_, rfl⟩, kp _ _ _ h.ld h.rd (by intro z; cases z), h.rd, h.el, fun j a d q1 q2 => (h.eat j a d q1 q2).keep fun b o q r => ⟨kp _ _ _ q r (by intro z; cases z), rfl⟩,
    ⟨by rw [upd_same, List.map_set], by rw [List.length_set]; exact h.lots.len, fun n a e => ?_⟩, h.rl, h.pot.fr F, kp _ _ _ h.lc h.rc (by intro z; cases z), h.rc⟩, F⟩
  · rcases r with r | r | r <;> exact kp _ _ _ q r (by intro z; cases z)
  · have e : (f.ms.set j q)[n]? = some a := e
    show MetalAt Z _ a (((s.lots.set j o).getD n none).getD ⟨0, 0⟩)
    by_cases hn : j = n
    · subst hn
      rw [List.getElem?_set_self (by rw [h.lots.len]; exact hj)] at e
      cases e
      rw [List.getD_eq_getElem?_getD, List.getElem?_set_self (by omega)]
      exact hq.fr F
    · rw [List.getElem?_set_ne hn] at e
      rw [List.getD_eq_getElem?_getD, List.getElem?_set_ne hn, ← List.getD_eq_getElem?_getD]
      exact (h.lots.at_ n a e).fr F
/-- credit[p] = a number -/
theorem MintAt.cred (h : MintAt Z ρ i H f s) (p x : Nat) :
    MintAt Z ρ i (upd H f.lc (.lst ((nv s.credits).set p (.int x)))) f { s with credits := s.credits.set p x } ∧ Fr Z ρ i H (upd H f.lc (.lst ((nv s.credits).set p (.int x)))) := by
  have F : Fr Z ρ i H (upd H f.lc (.lst ((nv s.credits).set p (.int x)))) := Fr.upd h.lc lst_imm (by rw [h.rc]; rfl)
  have kp : ∀ b o r, H b = some o → ρ b = r → r ≠ .credit i → upd H f.lc (.lst ((nv s.credits).set p (.int x))) b = some o := fun b o r hb hr d => by
    rw [upd_ne (role_ne hr h.rc d)]
    exact hb
  refine ⟨⟨kp _ _ _ h.obj h.ra (by intro z; cases z), h.ra, kp _ _ _ h.lk h.rk (by intro z; cases z), h.rk, h.kl, fun j k kd q1 q2 => (h.kat j k kd q1 q2).keep fun b o q r => ⟨?_, rfl⟩, kp _ _ _ h.ld h.rd (by intro z; cases z), h.rd, h.el, fun j a d q1 q2 => (h.eat j a d q1 q2).keep fun b o q r => ⟨kp _ _ _ q r (by intro z; cases z), rfl⟩,
    ⟨kp _ _ _ h.lots.lst h.rl (by intro z; cases z), h.lots.len, fun n a e => (h.lots.at_ n a e).fr F⟩, h.rl, h.pot.fr F, ?_, h.rc⟩, F⟩
  · rcases r with r | r | r <;> exact kp _ _ _ q r (by intro z; cases z)
  · rw [upd_same]
    unfold nv
    rw [List.map_set]
/-- the kind j becomes another -/
theorem MintAt.kindTo (h : MintAt Z ρ i H f s) {j : Nat} {k k' : KP} {kd' : Km408.Kind} (hk : f.ks[j]? = some k) (ea : k'.a = k.a) (K' : KindAt Z ρ' i j H' k' kd')
    (kp : ∀ b o, H b = some o → owner (ρ b) = some i → ρ b ≠ .kind i j → ρ b ≠ .stock i j → ρ b ≠ .box i j → H' b = some o ∧ ρ' b = ρ b) (im : ∀ b o, H b = some o → Imm Z o → H' b = some o) :
    MintAt Z ρ' i H' { f with ks := f.ks.set j k' } { s with kinds := s.kinds.set j kd' } := by
  have mm : ∀ {p x}, MetalAt Z H p x → MetalAt Z H' p x := fun ⟨dx, q⟩ => ⟨dx, im _ _ q ⟨dx, _, _, rfl⟩⟩
  have kq : ∀ {b o r}, H b = some o → ρ b = r → owner r = some i → r ≠ .kind i j → r ≠ .stock i j → r ≠ .box i j → H' b = some o ∧ ρ' b = r := fun {b o r} hb hr h1 h2 h3 h4 => by
    obtain ⟨q1, q2⟩ := kp b o hb (by rw [hr]; exact h1) (by rw [hr]; exact h2) (by rw [hr]; exact h3) (by rw [hr]; exact h4)
    exact ⟨q1, q2.trans hr⟩
  obtain ⟨a1, a2⟩ := kq h.obj h.ra rfl (by intro z; cases z) (by intro z; cases z) (by intro z; cases z)
  obtain ⟨b1, b2⟩ := kq h.lk h.rk rfl (by intro z; cases z) (by intro z; cases z) (by intro z; cases z)
  obtain ⟨c1, c2⟩ := kq h.ld h.rd rfl (by intro z; cases z) (by intro z; cases z) (by intro z; cases z)
  obtain ⟨d1, d2⟩ := kq h.lots.lst h.rl rfl (by intro z; cases z) (by intro z; cases z) (by intro z; cases z)
  obtain ⟨g1, g2⟩ := kq h.lc h.rc rfl (by intro z; cases z) (by intro z; cases z) (by intro z; cases z)
  have hj : j < f.ks.length := (List.getElem?_eq_some_iff.mp hk).1
  refine ⟨a1, a2, ?_, b2, ?_, fun n x kd q1 q2 => ?_, c1, c2, h.el, fun n a d q1 q2 => ?_, ⟨d1, h.lots.len, fun n a q => mm (h.lots.at_ n a q)⟩, d2, mm h.pot, g1, g2⟩
  · rw [b1]
    show some (HO.lst (f.ks.map fun k => V.ref k.a)) = some (.lst ((f.ks.set j k').map fun k => V.ref k.a))
    rw [List.map_set]
    congr 2
    apply List.ext_getElem?
    intro n
    by_cases hn : j = n
    · subst hn
      rw [List.getElem?_set_self (by rw [List.length_map]; exact hj), List.getElem?_map, hk]
      show some (V.ref k.a) = _
      rw [ea]
    · rw [List.getElem?_set_ne hn]
  · show (f.ks.set j k').length = (s.kinds.set j kd').length
    rw [List.length_set, List.length_set]
    exact h.kl
  · have q1 : (f.ks.set j k')[n]? = some x := q1
    have q2 : (s.kinds.set j kd')[n]? = some kd := q2
    by_cases hn : j = n
    · subst hn
      rw [List.getElem?_set_self hj] at q1
      rw [List.getElem?_set_self (by rw [← h.kl]; exact hj)] at q2
      cases q1
      cases q2
      exact K'
    · rw [List.getElem?_set_ne hn] at q1 q2
      refine (h.kat n x kd q1 q2).keep fun b o q r => ?_
      have nj : ∀ {a b : Nat}, a = b → b = j → False ∨ a = j := fun e1 e2 => .inr (e1.trans e2)
      rcases r with r | r | r
      · exact (kq q r rfl (by intro z; cases z; exact hn rfl) (by intro z; cases z) (by intro z; cases z)).imp_right fun e => e.trans r.symm
      · exact (kq q r rfl (by intro z; cases z) (by intro z; cases z; exact hn rfl) (by intro z; cases z)).imp_right fun e => e.trans r.symm
      · exact (kq q r rfl (by intro z; cases z) (by intro z; cases z) (by intro z; cases z; exact hn rfl)).imp_right fun e => e.trans r.symm
  · refine (h.eat n a d q1 q2).keep fun b o q r => ?_
    exact (kq q r rfl (by intro z; cases z) (by intro z; cases z) (by intro z; cases z)).imp_right fun e => e.trans r.symm
/-- the die j becomes another -/
theorem MintAt.dieTo (h : MintAt Z ρ i H f s) {j : Nat} {a dx : Addr} {d d' : Km408.Die} (ha : f.es[j]? = some a) (hd : s.dies[j]? = some d) (ho : H a = some (.ins Z.c_Die dx (fs_Die (.int d.kind) (.int d.left)))) :
    MintAt Z ρ i (upd H a (.ins Z.c_Die dx (fs_Die (.int d'.kind) (.int d'.left)))) f { s with dies := s.dies.set j d' } ∧ Fr Z ρ i H (upd H a (.ins Z.c_Die dx (fs_Die (.int d'.kind) (.int d'.left)))) := by
  have D := h.eat j a d ha hd
  have F : Fr Z ρ i H (upd H a (.ins Z.c_Die dx (fs_Die (.int d'.kind) (.int d'.left)))) := Fr.upd ho die_imm (by rw [D.ra]; rfl)
  have kp : ∀ b o r, H b = some o → ρ b = r → r ≠ .die i j → upd H a (.ins Z.c_Die dx (fs_Die (.int d'.kind) (.int d'.left))) b = some o := fun b o r hb hr e => by
    rw [upd_ne (role_ne hr D.ra e)]
    exact hb
  refine ⟨⟨kp _ _ _ h.obj h.ra (by intro z; cases z), h.ra, kp _ _ _ h.lk h.rk (by intro z; cases z), h.rk, h.kl, fun j k kd q1 q2 => (h.kat j k kd q1 q2).keep fun b o q r => ⟨?_, rfl⟩, kp _ _ _ h.ld h.rd (by intro z; cases z), h.rd, ?_, fun n x y q1 q2 => ?_,
    ⟨kp _ _ _ h.lots.lst h.rl (by intro z; cases z), h.lots.len, fun n a e => (h.lots.at_ n a e).fr F⟩, h.rl, h.pot.fr F, kp _ _ _ h.lc h.rc (by intro z; cases z), h.rc⟩, F⟩
  · rcases r with r | r | r <;> exact kp _ _ _ q r (by intro z; cases z)
  · show f.es.length = (s.dies.set j d').length
    rw [List.length_set]
    exact h.el
  · have q2 : (s.dies.set j d')[n]? = some y := q2
    by_cases hn : j = n
    · subst hn
      rw [List.getElem?_set_self (List.getElem?_eq_some_iff.mp hd).1] at q2
      cases q2
      have e : a = x := Option.some.inj (ha.symm.trans q1)
      subst e
      exact ⟨⟨dx, upd_same⟩, D.ra⟩
    · rw [List.getElem?_set_ne hn] at q2
      exact (h.eat n x y q1 q2).keep fun b o q r => ⟨kp _ _ _ q r (by intro z; cases z; exact hn rfl), rfl⟩
/-! ### new kinds, new dies -/
def setR (ρ : Roles) (x : Addr) (r : Role) : Roles := fun b => if b = x then r else ρ b
theorem setR_same {x : Addr} {r : Role} : setR ρ x r x = r := by
  unfold setR
  rw [if_pos rfl]
theorem setR_ne {x b : Addr} {r : Role} (h : b ≠ x) : setR ρ x r b = ρ b := by
  unfold setR
  rw [if_neg h]
theorem Ext.setR {x : Addr} {r : Role} (h : H x = none) : Ext H ρ (setR ρ x r) := fun b o q => setR_ne (ne_of_none q h)
theorem MintAt.addDie (h : MintAt Z ρ i H f s) {H1 : Hp} {e dx : Addr} {d : Km408.Die} (sm : Same H H1) (he : H e = none) (ho : H1 e = some (.ins Z.c_Die dx (fs_Die (.int d.kind) (.int d.left)))) :
    MintAt Z (setR ρ e (.die i s.dies.length)) i (upd H1 f.ld (.lst (f.es.map V.ref ++ [.ref e]))) { f with es := f.es ++ [e] } { s with dies := s.dies ++ [d] } ∧ Fr Z ρ i H (upd H1 f.ld (.lst (f.es.map V.ref ++ [.ref e]))) := by
  have F : Fr Z ρ i H (upd H1 f.ld (.lst (f.es.map V.ref ++ [.ref e]))) := (Fr.same sm).trans (Ext.refl _ _) (Fr.upd (sm _ _ h.ld) lst_imm (by rw [h.rd]; rfl))
  have kp : ∀ b o r, H b = some o → ρ b = r → r ≠ .dies i → upd H1 f.ld (.lst (f.es.map V.ref ++ [.ref e])) b = some o ∧ setR ρ e (.die i s.dies.length) b = r := fun b o r hb hr q => by
    rw [upd_ne (role_ne hr h.rd q), setR_ne (ne_of_none hb he)]
    exact ⟨sm _ _ hb, hr⟩
  have ro : ∀ {b o}, H b = some o → setR ρ e (.die i s.dies.length) b = ρ b := fun hb => setR_ne (ne_of_none hb he)
  obtain ⟨a1, a2⟩ := kp _ _ _ h.obj h.ra (by intro z; cases z)
  obtain ⟨b1, b2⟩ := kp _ _ _ h.lk h.rk (by intro z; cases z)
  obtain ⟨d1, d2⟩ := kp _ _ _ h.lots.lst h.rl (by intro z; cases z)
  obtain ⟨g1, g2⟩ := kp _ _ _ h.lc h.rc (by intro z; cases z)
  refine ⟨⟨a1, a2, b1, b2, h.kl, fun j k kd q1 q2 => (h.kat j k kd q1 q2).keep fun b o q r => ⟨?_, ro q⟩, ?_, (ro h.ld).trans h.rd, ?_, fun n x y q1 q2 => ?_,
    ⟨d1, h.lots.len, fun n a e => (h.lots.at_ n a e).fr F⟩, d2, h.pot.fr F, g1, g2⟩, F⟩
  · rcases r with r | r | r <;> exact (kp _ _ _ q r (by intro z; cases z)).1
  · rw [upd_same, List.map_append]
    rfl
  · show (f.es ++ [e]).length = (s.dies ++ [d]).length
    rw [List.length_append, List.length_append, h.el]
    rfl
  · have q1 : (f.es ++ [e])[n]? = some x := q1
    have q2 : (s.dies ++ [d])[n]? = some y := q2
    by_cases hn : n < s.dies.length
    · rw [List.getElem?_append_left (by rw [h.el]; exact hn)] at q1
      rw [List.getElem?_append_left hn] at q2
      exact (h.eat n x y q1 q2).keep fun b o q r => ⟨(kp _ _ _ q r (by intro z; cases z)).1, ro q⟩
    · rw [List.getElem?_append_right (by rw [h.el]; omega), h.el] at q1
      rw [List.getElem?_append_right (by omega)] at q2
      obtain ⟨m, hm⟩ : ∃ m, n - s.dies.length = m := ⟨_, rfl⟩
      rw [hm] at q1 q2
      cases m with
      | succ m => simp at q1
      | zero =>
        have en : n = s.dies.length := by omega
        cases q1
        cases q2
        subst en
        exact ⟨⟨dx, by rw [upd_ne (ne_of ho (sm _ _ h.ld) (by intro z; cases z))]; exact ho⟩, setR_same⟩
theorem MintAt.addKind (h : MintAt Z ρ i H f s) {H1 : Hp} {k : KP} {kd : Km408.Kind} (sm : Same H H1) (n1 : H k.a = none) (n2 : H k.st = none) (n3 : H k.bx = none) (d12 : k.a ≠ k.st) (d13 : k.a ≠ k.bx) (d23 : k.st ≠ k.bx)
    (o1 : H1 k.a = some (.ins Z.c_Kind k.dx (fs_Kind (.int kd.grains) (.int kd.fine) (.int kd.remedy) (.int kd.struck) (.ref k.st) (.ref k.bx)))) (o2 : H1 k.st = some (.lst (nv kd.stock))) (o3 : H1 k.bx = some (.lst (nv kd.box))) :
    MintAt Z (setR (setR (setR ρ k.a (.kind i s.kinds.length)) k.st (.stock i s.kinds.length)) k.bx (.box i s.kinds.length)) i (upd H1 f.lk (.lst ((f.ks.map fun k => V.ref k.a) ++ [.ref k.a]))) { f with ks := f.ks ++ [k] } { s with kinds := s.kinds ++ [kd] } ∧
    Fr Z ρ i H (upd H1 f.lk (.lst ((f.ks.map fun k => V.ref k.a) ++ [.ref k.a]))) ∧ Ext H ρ (setR (setR (setR ρ k.a (.kind i s.kinds.length)) k.st (.stock i s.kinds.length)) k.bx (.box i s.kinds.length)) := by
  have F : Fr Z ρ i H (upd H1 f.lk (.lst ((f.ks.map fun k => V.ref k.a) ++ [.ref k.a]))) := (Fr.same sm).trans (Ext.refl _ _) (Fr.upd (sm _ _ h.lk) lst_imm (by rw [h.rk]; rfl))
  have ro : ∀ {b o}, H b = some o → setR (setR (setR ρ k.a (.kind i s.kinds.length)) k.st (.stock i s.kinds.length)) k.bx (.box i s.kinds.length) b = ρ b := fun hb => by
    rw [setR_ne (ne_of_none hb n3), setR_ne (ne_of_none hb n2), setR_ne (ne_of_none hb n1)]
  have kp : ∀ b o r, H b = some o → ρ b = r → r ≠ .kinds i → upd H1 f.lk (.lst ((f.ks.map fun k => V.ref k.a) ++ [.ref k.a])) b = some o ∧ setR (setR (setR ρ k.a (.kind i s.kinds.length)) k.st (.stock i s.kinds.length)) k.bx (.box i s.kinds.length) b = r := fun b o r hb hr q => by
    rw [upd_ne (role_ne hr h.rk q), ro hb]
    exact ⟨sm _ _ hb, hr⟩
  obtain ⟨a1, a2⟩ := kp _ _ _ h.obj h.ra (by intro z; cases z)
  obtain ⟨c1, c2⟩ := kp _ _ _ h.ld h.rd (by intro z; cases z)
  obtain ⟨d1, d2⟩ := kp _ _ _ h.lots.lst h.rl (by intro z; cases z)
  obtain ⟨g1, g2⟩ := kp _ _ _ h.lc h.rc (by intro z; cases z)
  refine ⟨⟨a1, a2, ?_, (ro h.lk).trans h.rk, ?_, fun n x y q1 q2 => ?_, c1, c2, h.el, fun n x y q1 q2 => (h.eat n x y q1 q2).keep fun b o q r => ⟨(kp _ _ _ q r (by intro z; cases z)).1, ro q⟩,
    ⟨d1, h.lots.len, fun n a e => (h.lots.at_ n a e).fr F⟩, d2, h.pot.fr F, g1, g2⟩, F, fun b o q => ro q⟩
  · rw [upd_same, List.map_append]
    rfl
  · show (f.ks ++ [k]).length = (s.kinds ++ [kd]).length
    rw [List.length_append, List.length_append, h.kl]
    rfl
  · have q1 : (f.ks ++ [k])[n]? = some x := q1
    have q2 : (s.kinds ++ [kd])[n]? = some y := q2
    by_cases hn : n < s.kinds.length
    · rw [List.getElem?_append_left (by rw [h.kl]; exact hn)] at q1
      rw [List.getElem?_append_left hn] at q2
      refine (h.kat n x y q1 q2).keep fun b o q r => ⟨?_, ro q⟩
      rcases r with r | r | r <;> exact (kp _ _ _ q r (by intro z; cases z)).1
    · rw [List.getElem?_append_right (by rw [h.kl]; omega), h.kl] at q1
      rw [List.getElem?_append_right (by omega)] at q2
      obtain ⟨m, hm⟩ : ∃ m, n - s.kinds.length = m := ⟨_, rfl⟩
      rw [hm] at q1 q2
      cases m with
      | succ m => simp at q1
      | zero =>
        have en : n = s.kinds.length := by omega
        cases q1
        cases q2
        subst en
        have hl := h.lk
        refine ⟨?_, ?_, ?_, ?_, ?_, setR_same⟩
        · rw [upd_ne (ne_of o1 (sm _ _ h.lk) (by intro z; cases z))]
          exact o1
        · rw [setR_ne d13, setR_ne d12, setR_same]
        · rw [upd_ne (fun e => by rw [← e, n2] at hl; cases hl)]
          exact o2
        · rw [setR_ne d23, setR_same]
        · rw [upd_ne (fun e => by rw [← e, n3] at hl; cases hl)]
          exact o3
end
end Mi


set_option Elab.async false
set_option linter.all false
set_option maxRecDepth 100000
set_option maxHeartbeats 4000000
namespace Mi
open PySem PySem.Spec PyProof.Rows L2
open Km408 (Metal Mint ones)
open MP (picks avail mix lotAt)
section
variable {P : Program} {w : World} {K : PySem.W.Frag} {mg : Str → Option Value} {base : Heap} {Z : Adr}
/-! ### tests over numbers -/
theorem bl_t {Q : VK} {H : Hp} {p : Prop} [Decidable p] (k : Q (.bl (decide p)) H) (h : p) : Q (.bl true) H := by
  rw [decide_eq_true h] at k
  exact k
theorem bl_f {Q : VK} {H : Hp} {p : Prop} [Decidable p] (k : Q (.bl (decide p)) H) (h : ¬ p) : Q (.bl false) H := by
  rw [decide_eq_false h] at k
  exact k
theorem bl_iff {Q : VK} {H : Hp} {p q : Prop} [Decidable p] [Decidable q] (k : Q (.bl (decide p)) H) (h : q ↔ p) : Q (.bl (decide q)) H := by
  rw [show decide q = decide p from decide_eq_decide.mpr h]
  exact k
theorem not_dec {p : Prop} [Decidable p] (h : ¬ decide p = true) : ¬ p := fun e => h (decide_eq_true e)
def sp_is_kind_as_told : Sp := fun vs H Q _ => ∃ (g f r : Nat), vs = [.int g, .int f, .int r] ∧ Q (.bl (decide (1 ≤ g ∧ g ≤ 10000 ∧ 1 ≤ f ∧ f ≤ 24 ∧ r ≤ 100 ∧ r < g))) H
theorem ok_is_kind_as_told (T : Txt K mg Z) : FnOk P w K mg base CX0 1 Z.f_is_kind_as_told Z.d_is_kind_as_told ["grains", "fine", "remedy"] sp_is_kind_as_told := by
  refine T.F_is_kind_as_told.ok sc_is_kind_as_told (fun vs H Q E h => ?_) (fun cdv A outer s H vs Q E hr h => ?_)
  · obtain ⟨g, f, r, rfl, _⟩ := h
    rfl
  · obtain ⟨g, f, r, rfl, k⟩ := h
    refine ⟨_, (pss_cons (ps_if (PW.pt (pw_or (pt_cmpR op_lt (pv 0) pe_int (nomark _)) (pw_or1 (pt_cmpR op_gt (pv 0) (pe_gint rfl T.k_MOST_GRAINS_OF_COIN) (nomark _))))) (pss_one (ps_ret pe_bl)) pss_nil) (pss_cons (ps_if (PW.pt (pw_or (pt_cmpR op_lt (pv 1) pe_int (nomark _)) (pw_or1 (pt_cmpR op_gt (pv 1) (pe_gint rfl T.k_CARATS_OF_GOLD) (nomark _))))) (pss_one (ps_ret pe_bl)) pss_nil) (pss_one (ps_ret (pe_and (pe_cmpR op_le (pv 2) (pe_gint rfl T.k_MOST_REMEDY) (nomark _)) (pe_one (pe_cmpR op_lt (pv 2) (pv 0) (nomark _)))))))), ?_⟩
    refine ⟨_, rfl, _, _, rfl, rfl, _, rfl, ite2 (fun h1 => iteT (bl_f k ?_)) (fun h1 => ⟨_, rfl, _, _, rfl, rfl, _, rfl, ite2 (fun h2 => bl_f k ?_) (fun h2 => ?_)⟩)⟩
    · have := of_decide_eq_true h1
      omega
    · have := of_decide_eq_true h2
      omega
    · have h1 := not_dec h1
      have h2 := not_dec h2
      refine ⟨_, rfl, _, _, rfl, rfl, _, rfl, ite2 (fun h1 => iteT (bl_f k ?_)) (fun h3 => ⟨_, rfl, _, _, rfl, rfl, _, rfl, ite2 (fun h4 => bl_f k ?_) (fun h4 => ?_)⟩)⟩
      · have := of_decide_eq_true h1
        omega
      · have := of_decide_eq_true h4
        omega
      · have h3 := not_dec h3
        have h4 := not_dec h4
        refine ⟨_, rfl, _, _, rfl, rfl, _, rfl, ite2 (fun h5 => ⟨_, rfl, _, rfl, _, _, rfl, rfl, bl_iff k ?_⟩) (fun h5 => bl_f k ?_)⟩
        · have := of_decide_eq_true h5
          omega
        · have := not_dec h5
          omega
def sp_is_weight_of_lot : Sp := fun vs H Q _ => ∃ (g : Nat), vs = [.int g] ∧ Q (.bl (decide (1 ≤ g ∧ g ≤ 100000))) H
theorem ok_is_weight_of_lot (T : Txt K mg Z) : FnOk P w K mg base CX0 1 Z.f_is_weight_of_lot Z.d_is_weight_of_lot ["grains"] sp_is_weight_of_lot := by
  refine T.F_is_weight_of_lot.ok sc_is_weight_of_lot (fun vs H Q E h => ?_) (fun cdv A outer s H vs Q E hr h => ?_)
  · obtain ⟨g, rfl, _⟩ := h
    rfl
  · obtain ⟨g, rfl, k⟩ := h
    refine ⟨_, (pss_one (ps_ret (pe_and (pe_cmpR op_ge (pv 0) pe_int (nomark _)) (pe_one (pe_cmpR op_le (pv 0) (pe_gint rfl T.k_MOST_GRAINS_OF_LOT) (nomark _)))))), ?_⟩
    refine ⟨_, rfl, _, _, rfl, rfl, _, rfl, ite2 (fun h5 => ⟨_, rfl, _, _, rfl, rfl, bl_iff k ?_⟩) (fun h5 => bl_f k ?_)⟩
    · have := of_decide_eq_true h5
      omega
    · have := not_dec h5
      omega
def sp_thousandths_rounded_up : Sp := fun vs H Q _ => ∃ (c t : Nat), vs = [.int c, .int t] ∧ t ≤ 500 ∧ Q (.int ((c * t + 999) / 1000 : Nat)) H
theorem ok_thousandths_rounded_up (T : Txt K mg Z) : FnOk P w K mg base CX0 1 Z.f_thousandths_rounded_up Z.d_thousandths_rounded_up ["carats", "thousandths"] sp_thousandths_rounded_up := by
  refine T.F_thousandths_rounded_up.ok sc_thousandths_rounded_up (fun vs H Q E h => ?_) (fun cdv A outer s H vs Q E hr h => ?_)
  · obtain ⟨c, t, rfl, _⟩ := h
    rfl
  · obtain ⟨c, t, rfl, ht, k⟩ := h
    refine ⟨_, (pss_one (ps_ret (pe_op op_fdiv (pe_op op_add (pe_op op_mul (pv 0) (pv 1)) pe_int) pe_int))), ?_⟩
    refine ⟨_, rfl, _, rfl, _, _, rfl, rfl, mul_small rfl (by omega), _, _, rfl, rfl, _, _, rfl, rfl, ⟨by decide, by decide⟩, ?_⟩
    have e : ((c * t + 999) / 1000 : Nat) = ((c : Int) * (t : Int) + 999) / 1000 := by
      rw [Int.natCast_ediv, Int.natCast_add, Int.natCast_mul]
      rfl
    rw [e] at k
    exact k
/-! ### the least place that is empty -/
theorem lot_none {s : Mint} (G : MG.Good s) (i : Nat) : (lotAt s i).grains = 0 ↔ s.lots.getD i none = none := by
  unfold lotAt
  cases e : s.lots.getD i none with
  | none => simp
  | some m =>
    rw [List.getD_eq_getElem?_getD] at e
    have hm : some m ∈ s.lots := by
      cases q : s.lots[i]? with
      | none =>
        rw [q] at e
        cases e
      | some o =>
        rw [q] at e
        have e : o = some m := e
        subst e
        exact List.mem_of_getElem? q
    have := G.lots m hm
    simp
    omega
theorem avail_iff {s : Mint} (G : MG.Good s) (i : Nat) : avail s i = true ↔ ¬ (lotAt s i).grains = 0 := by
  rw [lot_none G i]
  unfold avail
  cases s.lots.getD i none <;> simp
def sp_first_empty_place (Z : Adr) : Sp := fun vs H Q _ => ∃ (l : Addr) (as : List Addr) (s : Mint), vs = [.ref l] ∧ LotsAt Z H l as s ∧ MG.Good s ∧ Q (.int ((s.room.getD 10 : Nat) : Int)) H
theorem ok_first_empty_place (T : Txt K mg Z) : FnOk P w K mg base CX0 2 Z.f_first_empty_place Z.d_first_empty_place ["lots"] (sp_first_empty_place Z) := by
  refine T.F_first_empty_place.ok sc_first_empty_place (fun vs H Q E h => ?_) (fun cdv A outer s0 H vs Q E hr h => ?_)
  · obtain ⟨l, as, s, rfl, _⟩ := h
    rfl
  · obtain ⟨l, as, s, rfl, hL, G, k⟩ := h
    refine ⟨_, (pss_cons (ps_set (i := 1) (sc_first_empty_place).nd rfl (Or.inl rfl) pe_int) (pss_cons (ps_while PassesOwn.never (PW.pt (pw_and (pt_cmpR op_lt (pv 1) (pe_gint rfl T.k_PLACES) (nomark _)) (pw_and1 (pt_not (pt_val (pe_meth0 (pe_ix ix_list (pv 0) (pv 1) (fun _ _ => rfl)) T.cl_Metal T.m_Metal_is_none (ok_Metal_is_none T) (hr.mono (by decide)) (b_Metal_is_none T) .nil pass0 )))))) (pss_one (ps_set (i := 1) (sc_first_empty_place).nd rfl (Or.inl rfl) (pe_op op_add (pv 1) pe_int)))) (pss_one (ps_ret (pv 1))))), ?_⟩
    have fin : ∀ n : Nat, n ≤ 10 → (∀ j, j < n → ¬ (lotAt s j).grains = 0) → (n = 10 ∨ (lotAt s n).grains = 0) → s.room.getD 10 = n := by
      intro n hn h1 h2
      cases e : s.room with
      | none =>
        rcases h2 with h2 | h2
        · exact h2.symm
        · by_cases q : n = 10
          · exact q.symm
          · have h3 := MG.room_none e n (by omega)
            rw [lot_none G] at h2
            rw [h2] at h3
            cases h3
      | some p =>
        obtain ⟨p1, p2, p3⟩ := MG.room_some e
        show p = n
        rcases Nat.lt_trichotomy p n with q | q | q
        · exact (h1 p q ((lot_none G p).mpr p2)).elim
        · exact q
        · have h3 := p3 n q
          rcases h2 with h2 | h2
          · omega
          · rw [lot_none G] at h2
            rw [h2] at h3
            cases h3
    refine while_by (fun σ H' => H' = H ∧ ∃ n : Nat, σ = [some (.ref l), some (.int n)] ∧ n ≤ 10 ∧ ∀ j, j < n → ¬ (lotAt s j).grains = 0) (fun σ _ => match σ with | [_, some (.int n)] => (10 - n).toNat | _ => 0) ⟨rfl, 0, rfl, by decide, fun j hj => absurd hj (Nat.not_lt_zero j)⟩ ?_ ?_
    · rintro σ H' ⟨rfl, n, rfl, hn, hb⟩
      refine ⟨_, rfl, _, _, rfl, rfl, _, rfl, ite2 (fun h1 => ?_) (fun h1 => ?_)⟩
      · have h1 : n < 10 := by
          have := of_decide_eq_true h1
          omega
        obtain ⟨a, ha⟩ : ∃ a, as[n]? = some a := ⟨_, List.getElem?_eq_getElem (by rw [hL.len]; exact h1)⟩
        obtain ⟨da, hA⟩ := hL.at_ n a ha
        refine ⟨_, rfl, _, rfl, l, _, _, .ref a, rfl, rfl, SqL.of hL.lst, atI_nat (by rw [List.getElem?_map, ha]; rfl), me_Metal_is_none hA ⟨a, _, rfl, ⟨da, hA⟩, _, rfl, ite2 (fun h2 => ?_) (fun h2 => ?_)⟩⟩
        · have h2 : ¬ (lotAt s n).grains = 0 := by
            simp at h2
            exact h2
          refine ⟨_, rfl, _, _, rfl, rfl, ⟨rfl, n + 1, rfl, by omega, fun j hj => ?_⟩, ?_⟩
          · by_cases q : j = n
            · rw [q]; exact h2
            · exact hb j (by omega)
          · show (10 - ((n : Int) + 1)).toNat < (10 - (n : Int)).toNat
            omega
        · have h2 : (lotAt s n).grains = 0 := by
            simp at h2
            exact h2
          refine ⟨_, rfl, ?_⟩
          rw [fin n hn hb (.inr h2)] at k
          exact k
      · have h1 := not_dec h1
        refine ⟨_, rfl, ?_⟩
        rw [fin n hn hb (.inl (by omega))] at k
        exact k
    · intro σ H1 Q1 Q2 hQ h
      obtain ⟨v, e1, i, j, e2, e3, k, e4, h⟩ := h
      refine ⟨v, e1, i, j, e2, e3, k, e4, ?_⟩
      by_cases hk : k = true
      · rw [if_pos hk] at h ⊢
        obtain ⟨v1, e5, v2, e6, p, xs, z, u, e7, e8, e9, e10, a, dx, fs, e11, e12, e13, p2, m, e14, e15, c, e16, h⟩ := h
        exact ⟨v1, e5, v2, e6, p, xs, z, u, e7, e8, e9, e10, a, dx, fs, e11, e12, e13, p2, m, e14, e15, c, e16, hQ _ _ h⟩
      · rw [if_neg hk] at h ⊢
        exact hQ _ _ h
end
end Mi


set_option Elab.async false
set_option linter.all false
set_option maxRecDepth 100000
set_option maxHeartbeats 4000000
namespace Mi
open PySem PySem.Spec PyProof.Rows L2
open Km408 (Metal Mint ones)
open MP (picks avail mix lotAt)
/-- what a call makes of a mint, and what it answers (of calls that neither take back nor do again) -/
def res (x : Km408.Call) (s : Mint) : Mint × List Int := ((Km408.act ⟨s, [], []⟩ x).1.now, Km408Neutral.told (Km408.act ⟨s, [], []⟩ x).2)
/-- a call's end -/
def CallPost (Z : Adr) (ρ : Roles) (i : Nat) (H : Hp) (f : Fp) (r : Mint × List Int) (Q : VK) : Prop := ∀ (H' : Hp) (ρ' : Roles) (f' : Fp) (l : Addr), MintAt Z ρ' i H' f' r.1 → Fr Z ρ i H H' → Ext H ρ ρ' → f'.a = f.a → H l = none → H' l = some (.lst (r.2.map V.int)) → Q (.ref l) H'
theorem Fr.free {Z : Adr} {ρ : Roles} {i : Nat} {H H' : Hp} {l : Addr} (f : Fr Z ρ i H H') (h : H' l = none) : H l = none := by
  cases e : H l with
  | none => rfl
  | some o =>
    obtain ⟨o', q⟩ := f.some_ l o e
    rw [q] at h
    cases h
theorem met_val {C dz : Addr} {a b c d : Int} (e : a = c) (h : b = d) : some (HO.ins C dz (fs_Metal (.int a) (.int b))) = some (.ins C dz (fs_Metal (.int c) (.int d))) := by rw [e, h]
section
variable {P : Program} {w : World} {K : PySem.W.Frag} {mg : Str → Option Value} {base : Heap} {Z : Adr} {ρ : Roles} {i : Nat} {H : Hp} {f : Fp} {s : Mint} {Q : VK}
/-- nothing is changed, and a list of numbers is answered -/
theorem tells {x : Km408.Call} {ans : List Int} (M : MintAt Z ρ i H f s) (k : CallPost Z ρ i H f (res x s) Q) (e : res x s = (s, ans)) {vs : List V} (ev : vs = ans.map V.int) (n : vs.length ≤ 25) : vs.length ≤ sizeLine ∧ ∀ p, H p = none → Q (.ref p) (upd H p (.lst vs)) := by
  refine ⟨Nat.le_trans n (by decide), fun l hl => ?_⟩
  rw [e] at k
  exact k _ ρ f l (M.same (Same.new hl)) (Fr.same (Same.new hl)) (Ext.refl _ _) rfl hl (by rw [upd_same, ev])
/-- a changed mint, and a list of numbers is answered -/
theorem tells2 {x : Km408.Call} {ans : List Int} {s' : Mint} {H1 : Hp} {ρ1 : Roles} {f1 : Fp} (M : MintAt Z ρ1 i H1 f1 s') (F : Fr Z ρ i H H1) (E : Ext H ρ ρ1) (ea : f1.a = f.a) (k : CallPost Z ρ i H f (res x s) Q) (e : res x s = (s', ans)) {vs : List V} (ev : vs = ans.map V.int) (n : vs.length ≤ 25) :
    vs.length ≤ sizeLine ∧ ∀ p, H1 p = none → Q (.ref p) (upd H1 p (.lst vs)) := by
  refine ⟨Nat.le_trans n (by decide), fun l hl => ?_⟩
  rw [e] at k
  exact k _ ρ1 f1 l (M.same (Same.new hl)) (F.trans E (Fr.same (Same.new hl))) E ea (F.free hl) (by rw [upd_same, ev])
/-! ### is there such a kind, die, person? -/
def sp_Mint_has_kind (Z : Adr) : Sp := fun vs H Q _ => ∃ (ρ : Roles) (i : Nat) (f : Fp) (s : Mint) (k : Nat), vs = [.ref f.a, .int k] ∧ MintAt Z ρ i H f s ∧ Q (.bl (decide (k < s.kinds.length))) H
theorem ok_Mint_has_kind (T : Txt K mg Z) : FnOk P w K mg base CX0 1 Z.f_Mint_has_kind Z.d_Mint_has_kind ["self", "k"] (sp_Mint_has_kind Z) := by
  refine T.F_Mint_has_kind.ok sc_Mint_has_kind (fun vs H Q E h => ?_) (fun cdv A outer s0 H vs Q E hr h => ?_)
  · obtain ⟨ρ, i, f, s, k, rfl, _⟩ := h
    rfl
  · obtain ⟨ρ, i, f, s, n, rfl, M, k⟩ := h
    refine ⟨_, (pss_one (ps_ret (pe_cmpR op_lt (pv 1) (pe_callB call_len_seq (by rfl) T.n_len PySem.boot_len (pa_cons (pe_fld (pv 0) rfl) pa_nil)) (nomark _)))), ?_⟩
    refine ⟨_, rfl, _, rfl, rd_Mint_kinds T M.obj ⟨f.lk, _, rfl, .inl (SqL.of M.lk), _, _, rfl, rfl, bl_iff k ?_⟩⟩
    rw [List.length_map, M.kl]
    omega
def sp_Mint_has_die (Z : Adr) : Sp := fun vs H Q _ => ∃ (ρ : Roles) (i : Nat) (f : Fp) (s : Mint) (k : Nat), vs = [.ref f.a, .int k] ∧ MintAt Z ρ i H f s ∧ Q (.bl (decide (k < s.dies.length))) H
theorem ok_Mint_has_die (T : Txt K mg Z) : FnOk P w K mg base CX0 1 Z.f_Mint_has_die Z.d_Mint_has_die ["self", "number"] (sp_Mint_has_die Z) := by
  refine T.F_Mint_has_die.ok sc_Mint_has_die (fun vs H Q E h => ?_) (fun cdv A outer s0 H vs Q E hr h => ?_)
  · obtain ⟨ρ, i, f, s, k, rfl, _⟩ := h
    rfl
  · obtain ⟨ρ, i, f, s, n, rfl, M, k⟩ := h
    refine ⟨_, (pss_one (ps_ret (pe_cmpR op_lt (pv 1) (pe_callB call_len_seq (by rfl) T.n_len PySem.boot_len (pa_cons (pe_fld (pv 0) rfl) pa_nil)) (nomark _)))), ?_⟩
    refine ⟨_, rfl, _, rfl, rd_Mint_dies T M.obj ⟨f.ld, _, rfl, .inl (SqL.of M.ld), _, _, rfl, rfl, bl_iff k ?_⟩⟩
    rw [List.length_map, M.el]
    omega
def sp_Mint_has_person (Z : Adr) : Sp := fun vs H Q _ => ∃ (a : V) (k : Nat), vs = [a, .int k] ∧ Q (.bl (decide (k < 6))) H
theorem ok_Mint_has_person (T : Txt K mg Z) : FnOk P w K mg base CX0 1 Z.f_Mint_has_person Z.d_Mint_has_person ["self", "p"] (sp_Mint_has_person Z) := by
  refine T.F_Mint_has_person.ok sc_Mint_has_person (fun vs H Q E h => ?_) (fun cdv A outer s0 H vs Q E hr h => ?_)
  · obtain ⟨a, k, rfl, _⟩ := h
    rfl
  · obtain ⟨a, n, rfl, k⟩ := h
    refine ⟨_, (pss_one (ps_ret (pe_cmpR op_lt (pv 1) (pe_gint rfl T.k_PEOPLE) (nomark _)))), ?_⟩
    exact ⟨_, rfl, _, _, rfl, rfl, bl_iff k (by omega)⟩
/-! ### metal of a kind -/
def sp_Kind_metal_of (Z : Adr) : Sp := fun vs H Q _ => ∃ (ρ : Roles) (i j : Nat) (kp : KP) (kd : Km408.Kind) (g : Nat), vs = [.ref kp.a, .int g] ∧ KindAt Z ρ i j H kp kd ∧ kd.fine ≤ 24 ∧ ∀ (H' : Hp) (r : Addr), Same H H' → MetalAt Z H' r ⟨g, kd.fine * g⟩ → Q (.ref r) H'
theorem ok_Kind_metal_of (T : Txt K mg Z) : FnOk P w K mg base CX0 3 Z.f_Kind_metal_of Z.d_Kind_metal_of ["self", "grains"] (sp_Kind_metal_of Z) := by
  refine T.F_Kind_metal_of.ok sc_Kind_metal_of (fun vs H Q E h => ?_) (fun cdv A outer s0 H vs Q E hr h => ?_)
  · obtain ⟨ρ, i, j, kp, kd, g, rfl, _⟩ := h
    rfl
  · obtain ⟨ρ, i, j, kp, kd, g, rfl, KA, f2, k⟩ := h
    refine ⟨_, (pss_one (ps_ret (pe_make T.mk_Metal (ok_Metal_init T) (hr.mono (by decide)) rfl T.g_Metal (b_Metal_init T) .nil pass0 ((pa_cons (pv 1) (pa_cons (pe_op op_mul (pe_fld (pv 0) rfl) (pv 1)) pa_nil)))))), ?_⟩
    refine ⟨_, rfl, _, rfl, rd_Kind_fine T KA.obj ⟨_, rfl, _, _, rfl, rfl, mul_smallL (by omega) (by omega), mk_Metal_of fun x dz nx nd => ?_⟩⟩
    exact k _ x (same_newI nx nd) ⟨dz, Eq.trans newI_at (met_val rfl (Int.natCast_mul _ _).symm)⟩
/-! ### make_kind -/
def sp_Kind_init (Z : Adr) : Sp := fun vs H Q _ => ∃ (p dx : Addr) (g c r : V), vs = [.ref p, g, c, r] ∧ H p = some (.ins Z.c_Kind dx []) ∧
  ∀ (H' : Hp) (st bx : Addr), H' p = some (.ins Z.c_Kind dx (fs_Kind g c r (.int 0) (.ref st) (.ref bx))) → H' st = some (.lst []) → H' bx = some (.lst []) → H st = none → H bx = none → st ≠ bx → (∀ b o, H b = some o → b ≠ p → H' b = some o) → Q .non H'
theorem ok_Kind_init (T : Txt K mg Z) : FnOk P w K mg base CX0 1 Z.f_Kind_init Z.d_Kind_init ["self", "grains", "fine", "remedy"] (sp_Kind_init Z) := by
  refine T.F_Kind_init.ok sc_Kind_init (fun vs H Q E h => ?_) (fun cdv A outer s H vs Q E hr h => ?_)
  · obtain ⟨p, dx, g, c, r, rfl, _⟩ := h
    rfl
  · obtain ⟨p, dx, g, c, r, rfl, hp, k⟩ := h
    refine ⟨_, (pss_cons (ps_fld (pv 0) (pv 1) rfl) (pss_cons (ps_fld (pv 0) (pv 2) rfl) (pss_cons (ps_fld (pv 0) (pv 3) rfl) (pss_cons (ps_fld (pv 0) pe_int rfl) (pss_cons (ps_fld (pv 0) (pe_lst pa_nil) rfl) (pss_one (ps_fld (pv 0) (pe_lst pa_nil) rfl))))))), ?_⟩
    refine ⟨_, rfl, _, rfl, wr_new hp T.cl_Kind T.n_Kind_grains (by show 0 < 1000; decide) rfl ?_⟩
    refine ⟨_, rfl, _, rfl, wr_new upd_same T.cl_Kind T.n_Kind_fine (by show 1 < 1000; decide) (pf1 nq_grains_fine rfl) ?_⟩
    refine ⟨_, rfl, _, rfl, wr_new upd_same T.cl_Kind T.n_Kind_remedy (by show 2 < 1000; decide) (pf1 nq_grains_remedy (pf1 nq_fine_remedy rfl)) ?_⟩
    refine ⟨_, rfl, wr_new upd_same T.cl_Kind T.n_Kind_struck (by show 3 < 1000; decide) (pf1 nq_grains_struck (pf1 nq_fine_struck (pf1 nq_remedy_struck rfl))) ?_⟩
    refine ⟨Nat.zero_le _, fun st hst => ⟨_, rfl, wr_new (Eq.trans (upd_ne (ne_of_none upd_same hst)) upd_same) T.cl_Kind T.n_Kind_stock (by show 4 < 1000; decide) (pf1 nq_grains_stock (pf1 nq_fine_stock (pf1 nq_remedy_stock (pf1 nq_struck_stock rfl)))) ?_⟩⟩
    refine ⟨Nat.zero_le _, fun bx hbx => ⟨_, rfl, wr_new (Eq.trans (upd_ne (ne_of_none upd_same hbx)) upd_same) T.cl_Kind T.n_Kind_box (by show 5 < 1000; decide) (pf1 nq_grains_box (pf1 nq_fine_box (pf1 nq_remedy_box (pf1 nq_struck_box (pf1 nq_stock_box rfl))))) ?_⟩⟩
    rw [upd_upd, upd_upd, upd_upd] at hst hbx ⊢
    have nps : st ≠ p := fun e => by rw [e, upd_same] at hst; cases hst
    have npb : bx ≠ p := fun e => by rw [e, upd_same] at hbx; cases hbx
    have nsb : st ≠ bx := fun e => by rw [← e, upd_ne nps, upd_same] at hbx; cases hbx
    rw [upd_ne nps] at hst
    rw [upd_ne npb, upd_ne (fun e => nsb e.symm), upd_ne npb] at hbx
    refine k _ st bx upd_same ?_ ?_ hst hbx nsb fun b o e hb => ?_
    · rw [upd_ne nps, upd_ne nsb, upd_ne nps, upd_same]
    · rw [upd_ne npb, upd_same]
    · rw [upd_ne hb, upd_ne (ne_of_none e hbx), upd_ne hb, upd_ne (ne_of_none e hst), upd_ne hb]
      exact e
end
end Mi


set_option Elab.async false
set_option linter.all false
set_option maxRecDepth 100000
set_option maxHeartbeats 4000000
namespace Mi
open PySem PySem.Spec PyProof.Rows L2
open Km408 (Metal Mint ones)
open MP (picks avail mix lotAt)
section
variable {P : Program} {w : World} {K : PySem.W.Frag} {mg : Str → Option Value} {base : Heap} {Z : Adr}
theorem int_lit {a : Nat} {b : Int} {n : Nat} (e : b = (n : Int)) : (V.int (a : Int) = V.int b) ↔ a = n := by
  rw [V.int.injEq, e]
  omega
def sp_make_kind (Z : Adr) : Sp := fun vs H Q _ => ∃ (ρ : Roles) (i : Nat) (f : Fp) (s : Mint) (g c r : Nat), vs = [.ref f.a, .int g, .int c, .int r] ∧ MintAt Z ρ i H f s ∧ MG.Good s ∧ CallPost Z ρ i H f (res (.kind g c r) s) Q
theorem ok_make_kind (T : Txt K mg Z) : FnOk P w K mg base CX0 3 Z.f_make_kind Z.d_make_kind ["mint", "grains", "fine", "remedy"] (sp_make_kind Z) := by
  refine T.F_make_kind.ok sc_make_kind (fun vs H Q E h => ?_) (fun cdv A outer s0 H vs Q E hr h => ?_)
  · obtain ⟨ρ, i, f, s, g, c, r, rfl, _⟩ := h
    rfl
  · obtain ⟨ρ, i, f, s, g, c, r, rfl, M, G, k⟩ := h
    refine ⟨_, (pss_cons (ps_if (pt_not (pt_val (pe_call (ok_is_kind_as_told T) (hr.mono (by decide)) rfl T.g_is_kind_as_told T.F_is_kind_as_told.kp (b_is_kind_as_told T) .nil pass0 ((pa_cons (pv 1) (pa_cons (pv 2) (pa_cons (pv 3) pa_nil))))))) (pss_one (ps_ret (pe_lst (pa_cons (pe_gint rfl T.k_NOT_AS_TOLD) pa_nil)))) pss_nil) (pss_cons (ps_if (pt_cmpR op_eq (pe_callB call_len_seq (by rfl) T.n_len PySem.boot_len (pa_cons (pe_fld (pv 0) rfl) pa_nil)) (pe_gint rfl T.k_MOST_KINDS) (nomark _)) (pss_one (ps_ret (pe_lst (pa_cons (pe_gint rfl T.k_NO_ROOM) pa_nil)))) pss_nil) (pss_cons (ps_expr (pe_bm PySem.F.plainAttrs_list PySem.F.slot_list_append PySem.F.type_list_append mt_append (pe_fld (pv 0) rfl) (pa_cons (pe_make T.mk_Kind (ok_Kind_init T) (hr.mono (by decide)) rfl T.g_Kind (b_Kind_init T) .nil pass0 ((pa_cons (pv 1) (pa_cons (pv 2) (pa_cons (pv 3) pa_nil))))) pa_nil))) (pss_one (ps_ret (pe_lst (pa_cons (pe_op op_sub (pe_callB call_len_seq (by rfl) T.n_len PySem.boot_len (pa_cons (pe_fld (pv 0) rfl) pa_nil)) pe_int) pa_nil))))))), ?_⟩
    refine ⟨_, rfl, _, rfl, _, rfl, g, c, r, rfl, _, rfl, ite2 (fun h1 => ?_) (fun h1 => ?_)⟩
    · refine tells M k (ans := [-22]) ?_ rfl (by decide)
      simp at h1
      unfold res Km408.act
      simp only
      rw [if_pos (by omega)]
      rfl
    · have h1 : 1 ≤ g ∧ g ≤ 10000 ∧ 1 ≤ c ∧ c ≤ 24 ∧ r ≤ 100 ∧ r < g := by
        simp at h1
        omega
      have hn : ¬ (g = 0 ∨ 10000 < g ∨ c = 0 ∨ 24 < c ∨ g ≤ r ∨ 100 < r) := by omega
      refine ⟨_, rfl, rd_Mint_kinds T M.obj ⟨f.lk, _, rfl, .inl (SqL.of M.lk), rfl, _, rfl, ite2 (fun h2 => ?_) (fun h2 => ?_)⟩⟩
      · refine tells M k (ans := [-28]) ?_ rfl (by decide)
        have h2 := (int_lit (n := 4) rfl).mp (of_decide_eq_true h2)
        rw [List.length_map, M.kl] at h2
        unfold res Km408.act
        simp only
        rw [if_neg hn, if_pos (by show 4 ≤ s.kinds.length; omega)]
        rfl
      · have h2 : ¬ s.kinds.length = 4 := fun e => h2 (decide_eq_true ((int_lit (n := 4) rfl).mpr (by rw [List.length_map, M.kl]; exact e)))
        have h3 := G.kl
        refine ⟨_, rfl, rd_Mint_kinds T M.obj ⟨.inl ⟨rfl, _, SqL.of M.lk⟩, _, rfl, _, rfl, _, rfl, fun x dx nx nd _ => ⟨x, dx, _, _, _, rfl, upd_same, fun H1 st bx o1 o2 o3 n2 n3 d23 kp => ⟨rfl, ?_⟩⟩⟩⟩
        have sm : Same H H1 := Same.made nx nd kp
        have s0 := same_newI (C := Z.c_Kind) (fs := []) nx nd
        have q2 : H st = none := s0.free n2
        have q3 : H bx = none := s0.free n3
        have d12 : x ≠ st := ne_of_none (newI_at (H := H) (dx := dx) (C := Z.c_Kind) (fs := [])) n2
        have d13 : x ≠ bx := ne_of_none (newI_at (H := H) (dx := dx) (C := Z.c_Kind) (fs := [])) n3
        obtain ⟨M2, F2, E2⟩ := M.addKind (k := ⟨x, dx, st, bx⟩) (kd := ⟨g, c, r, [], [], 0⟩) sm nx q2 q3 d12 d13 d23 o1 o2 o3
        refine ⟨f.lk, _, _, rfl, rfl, sm _ _ M.lk, ?_, ?_⟩
        · rw [List.length_map, M.kl]
          exact Nat.lt_of_le_of_lt h3 (by decide)
        · refine ⟨_, rfl, rd_Mint_kinds T M2.obj ⟨f.lk, _, rfl, .inl (SqL.of M2.lk), _, _, rfl, rfl, ?_⟩⟩
          refine tells2 M2 F2 E2 rfl k (ans := [((s.kinds.length : Nat) : Int)]) ?_ ?_ (Nat.le_of_lt (by show 1 < 25; decide))
          · unfold res Km408.act
            simp only
            rw [if_neg hn, if_neg (by show ¬ 4 ≤ s.kinds.length; omega)]
            rfl
          · show [V.int _] = [V.int _]
            rw [List.length_map, List.length_append, M.kl]
            simp
def sp_Die_init (Z : Adr) : Sp := fun vs H Q _ => ∃ (p dx : Addr) (g c : V), vs = [.ref p, g, c] ∧ H p = some (.ins Z.c_Die dx []) ∧ Q .non (upd H p (.ins Z.c_Die dx (fs_Die g c)))
theorem ok_Die_init (T : Txt K mg Z) : FnOk P w K mg base CX0 1 Z.f_Die_init Z.d_Die_init ["self", "kind", "left"] (sp_Die_init Z) := by
  refine T.F_Die_init.ok sc_Die_init (fun vs H Q E h => ?_) (fun cdv A outer s H vs Q E hr h => ?_)
  · obtain ⟨p, dx, g, c, rfl, _⟩ := h
    rfl
  · obtain ⟨p, dx, g, c, rfl, hp, k⟩ := h
    refine ⟨_, (pss_cons (ps_fld (pv 0) (pv 1) rfl) (pss_one (ps_fld (pv 0) (pv 2) rfl))), ?_⟩
    refine ⟨_, rfl, _, rfl, wr_new hp T.cl_Die T.n_Die_kind (by show 0 < 1000; decide) rfl ?_⟩
    refine ⟨_, rfl, _, rfl, wr_new upd_same T.cl_Die T.n_Die_left (by show 1 < 1000; decide) (pf1 nq_kind_left rfl) ?_⟩
    rw [upd_upd]
    exact k
theorem mk_Die_of {H : Hp} {g c : V} {R : Addr → Hp → Prop} {E : XK} (k : ∀ x dx, H x = none → H dx = none → R x (newI H x dx Z.c_Die (fs_Die g c))) :
    ∀ x dx, H x = none → H dx = none → dx ≠ x → sp_Die_init Z (.ref x :: ([g, c] ++ [])) (upd (upd H dx (.own x)) x (.ins Z.c_Die dx [])) (fun v H2 => v = .non ∧ R x H2) E := fun x dx n m _ =>
  ⟨x, dx, g, c, rfl, upd_same, rfl, by rw [upd_upd]; exact k x dx n m⟩
def sp_make_die (Z : Adr) : Sp := fun vs H Q _ => ∃ (ρ : Roles) (i : Nat) (f : Fp) (s : Mint) (kd n : Nat), vs = [.ref f.a, .int kd, .int n] ∧ MintAt Z ρ i H f s ∧ MG.Good s ∧ CallPost Z ρ i H f (res (.die kd n) s) Q
theorem ok_make_die (T : Txt K mg Z) : FnOk P w K mg base CX0 3 Z.f_make_die Z.d_make_die ["mint", "k", "n"] (sp_make_die Z) := by
  refine T.F_make_die.ok sc_make_die (fun vs H Q E h => ?_) (fun cdv A outer s0 H vs Q E hr h => ?_)
  · obtain ⟨ρ, i, f, s, kd, n, rfl, _⟩ := h
    rfl
  · obtain ⟨ρ, i, f, s, kd, n, rfl, M, G, k⟩ := h
    refine ⟨_, (pss_cons (ps_if (pt_not (pt_val (pe_meth (pv 0) T.cl_Mint T.m_Mint_has_kind (ok_Mint_has_kind T) (hr.mono (by decide)) (b_Mint_has_kind T) .nil pass0 ((pa_cons (pv 1) pa_nil))))) (pss_one (ps_ret (pe_lst (pa_cons (pe_gint rfl T.k_NOT_THERE) pa_nil)))) pss_nil) (pss_cons (ps_if (PW.pt (pw_or (pt_cmpR op_lt (pv 2) pe_int (nomark _)) (pw_or1 (pt_cmpR op_gt (pv 2) (pe_gint rfl T.k_MOST_COINS_OF_DIE) (nomark _))))) (pss_one (ps_ret (pe_lst (pa_cons (pe_gint rfl T.k_NOT_AS_TOLD) pa_nil)))) pss_nil) (pss_cons (ps_if (pt_cmpR op_eq (pe_callB call_len_seq (by rfl) T.n_len PySem.boot_len (pa_cons (pe_fld (pv 0) rfl) pa_nil)) (pe_gint rfl T.k_MOST_DIES) (nomark _)) (pss_one (ps_ret (pe_lst (pa_cons (pe_gint rfl T.k_NO_ROOM) pa_nil)))) pss_nil) (pss_cons (ps_expr (pe_bm PySem.F.plainAttrs_list PySem.F.slot_list_append PySem.F.type_list_append mt_append (pe_fld (pv 0) rfl) (pa_cons (pe_make T.mk_Die (ok_Die_init T) (hr.mono (by decide)) rfl T.g_Die (b_Die_init T) .nil pass0 ((pa_cons (pv 1) (pa_cons (pv 2) pa_nil)))) pa_nil))) (pss_one (ps_ret (pe_lst (pa_cons (pe_op op_sub (pe_callB call_len_seq (by rfl) T.n_len PySem.boot_len (pa_cons (pe_fld (pv 0) rfl) pa_nil)) pe_int) pa_nil)))))))), ?_⟩
    refine ⟨_, rfl, me_Mint_has_kind M.obj ⟨_, rfl, ρ, i, f, s, kd, rfl, M, _, rfl, ite2 (fun h1 => ?_) (fun h1 => ?_)⟩⟩
    · refine tells M k (ans := [-2]) ?_ rfl (by decide)
      simp at h1
      unfold res Km408.act
      simp only
      rw [if_pos h1]
      rfl
    · have h1 : ¬ s.kinds.length ≤ kd := by
        simp at h1
        omega
      have two : ∀ (c : Bool), (c = true → (n = 0 ∨ 1000 < n)) → True := fun _ _ => trivial
      refine ⟨_, rfl, _, _, rfl, rfl, _, rfl, ite2 (fun h2 => iteT ?_) (fun h2 => ⟨_, rfl, _, _, rfl, rfl, _, rfl, ite2 (fun h3 => ?_) (fun h3 => ?_)⟩)⟩
      · refine tells M k (ans := [-22]) ?_ rfl (by decide)
        have h2 := of_decide_eq_true h2
        unfold res Km408.act
        simp only
        rw [if_neg h1, if_pos (by omega)]
        rfl
      · refine tells M k (ans := [-22]) ?_ rfl (by decide)
        have h3 := of_decide_eq_true h3
        unfold res Km408.act
        simp only
        rw [if_neg h1, if_pos (by omega)]
        rfl
      · have h2 := not_dec h2
        have h3 := not_dec h3
        have hn : ¬ (n = 0 ∨ 1000 < n) := by omega
        refine ⟨_, rfl, rd_Mint_dies T M.obj ⟨f.ld, _, rfl, .inl (SqL.of M.ld), rfl, _, rfl, ite2 (fun h4 => ?_) (fun h4 => ?_)⟩⟩
        · refine tells M k (ans := [-28]) ?_ rfl (by decide)
          have h4 := (int_lit (n := 6) rfl).mp (of_decide_eq_true h4)
          rw [List.length_map, M.el] at h4
          unfold res Km408.act
          simp only
          rw [if_neg h1, if_neg hn, if_pos (by show 6 ≤ s.dies.length; omega)]
          rfl
        · have h4 : ¬ s.dies.length = 6 := fun e => h4 (decide_eq_true ((int_lit (n := 6) rfl).mpr (by rw [List.length_map, M.el]; exact e)))
          have h5 := G.dl
          refine ⟨_, rfl, rd_Mint_dies T M.obj ⟨.inl ⟨rfl, _, SqL.of M.ld⟩, _, rfl, _, rfl, mk_Die_of fun x dx nx nd => ?_⟩⟩
          have sm := same_newI (C := Z.c_Die) (fs := fs_Die (.int kd) (.int n)) nx nd
          obtain ⟨M2, F2⟩ := M.addDie (d := ⟨kd, n⟩) sm nx newI_at
          refine ⟨f.ld, _, _, rfl, rfl, sm _ _ M.ld, ?_, ?_⟩
          · rw [List.length_map, M.el]
            exact Nat.lt_of_le_of_lt h5 (by decide)
          · refine ⟨_, rfl, rd_Mint_dies T M2.obj ⟨f.ld, _, rfl, .inl (SqL.of M2.ld), _, _, rfl, rfl, ?_⟩⟩
            refine tells2 M2 F2 (Ext.setR nx) rfl k (ans := [((s.dies.length : Nat) : Int)]) ?_ ?_ (Nat.le_of_lt (by show 1 < 25; decide))
            · unfold res Km408.act
              simp only
              rw [if_neg h1, if_neg hn, if_neg (by show ¬ 6 ≤ s.dies.length; omega)]
              rfl
            · show [V.int _] = [V.int _]
              rw [List.length_map, List.length_append, M.el]
              simp
end
end Mi


set_option Elab.async false
set_option linter.all false
set_option maxRecDepth 100000
set_option maxHeartbeats 4000000
namespace Mi
open PySem PySem.Spec PyProof.Rows L2
open Km408 (Metal Mint ones)
open MP (picks avail mix lotAt)
section
variable {P : Program} {w : World} {K : PySem.W.Frag} {mg : Str → Option Value} {base : Heap} {Z : Adr}
section
variable {ρ : Roles} {i : Nat} {H H1 : Hp} {f : Fp} {s : Mint} {Q : VK} {r : Mint × List Int}
theorem CallPost.same (k : CallPost Z ρ i H f r Q) (s : Same H H1) : CallPost Z ρ i H1 f r Q := fun H' ρ' f' l M F E ea nl hl =>
  k H' ρ' f' l M ((Fr.same s).trans (Ext.refl _ _) F) (fun b o h => E b o (s b o h)) ea (s.free nl) hl
theorem tellsR {ans : List Int} (M : MintAt Z ρ i H f s) (k : CallPost Z ρ i H f r Q) (e : r = (s, ans)) {vs : List V} (ev : vs = ans.map V.int) (n : vs.length ≤ 25) : vs.length ≤ sizeLine ∧ ∀ p, H p = none → Q (.ref p) (upd H p (.lst vs)) := by
  refine ⟨Nat.le_trans n (by decide), fun l hl => ?_⟩
  subst e
  exact k _ ρ f l (M.same (Same.new hl)) (Fr.same (Same.new hl)) (Ext.refl _ _) rfl hl (by rw [upd_same, ev])
theorem tells2R {ans : List Int} {s' : Mint} {ρ1 : Roles} {f1 : Fp} (M : MintAt Z ρ1 i H1 f1 s') (F : Fr Z ρ i H H1) (E : Ext H ρ ρ1) (ea : f1.a = f.a) (k : CallPost Z ρ i H f r Q) (e : r = (s', ans)) {vs : List V} (ev : vs = ans.map V.int) (n : vs.length ≤ 25) :
    vs.length ≤ sizeLine ∧ ∀ p, H1 p = none → Q (.ref p) (upd H1 p (.lst vs)) := by
  refine ⟨Nat.le_trans n (by decide), fun l hl => ?_⟩
  subst e
  exact k _ ρ1 f1 l (M.same (Same.new hl)) (F.trans E (Fr.same (Same.new hl))) E ea (F.free hl) (by rw [upd_same, ev])
theorem MintAt.kind {k : Nat} (M : MintAt Z ρ i H f s) (h : k < s.kinds.length) : ∃ kp kd, f.ks[k]? = some kp ∧ s.kinds[k]? = some kd ∧ KindAt Z ρ i k H kp kd := by
  have h1 : f.ks[k]? = some (f.ks[k]'(by rw [M.kl]; exact h)) := List.getElem?_eq_getElem _
  have h2 : s.kinds[k]? = some (s.kinds[k]'h) := List.getElem?_eq_getElem _
  exact ⟨_, _, h1, h2, M.kat k _ _ h1 h2⟩
theorem MintAt.die {k : Nat} (M : MintAt Z ρ i H f s) (h : k < s.dies.length) : ∃ e d, f.es[k]? = some e ∧ s.dies[k]? = some d ∧ DieAt Z ρ i k H e d := by
  have h1 : f.es[k]? = some (f.es[k]'(by rw [M.el]; exact h)) := List.getElem?_eq_getElem _
  have h2 : s.dies[k]? = some (s.dies[k]'h) := List.getElem?_eq_getElem _
  exact ⟨_, _, h1, h2, M.eat k _ _ h1 h2⟩
end
theorem ixN_nat {n j : Nat} (h : j < n) : ixN n (j : Int) = some j := by
  unfold ixN
  rw [if_pos (by omega), if_pos (by omega)]
  congr 1
theorem kref_at {ks : List KP} {k : Nat} {kp : KP} (h : ks[k]? = some kp) : (ks.map fun k => V.ref k.a)[k]? = some (.ref kp.a) := by
  rw [List.getElem?_map, h]
  rfl
theorem ref_at {es : List Addr} {k : Nat} {e : Addr} (h : es[k]? = some e) : (es.map V.ref)[k]? = some (.ref e) := by
  rw [List.getElem?_map, h]
  rfl
theorem nv_at {l : List Nat} {k x : Nat} (h : l[k]? = some x) : (nv l)[k]? = some (.int x) := by
  unfold nv
  rw [List.getElem?_map, h]
  rfl
def takeRes (s : Mint) (p : Nat) (m : Metal) : Mint × List Int := match s.room with
  | none => (s, [-28])
  | some j => (s.comes p j m, [(j : Int), ((m.carats - s.share m.carats : Nat) : Int)])
def sp_take_in (Z : Adr) : Sp := fun vs H Q _ => ∃ (ρ : Roles) (i : Nat) (f : Fp) (s : Mint) (p : Nat) (q : Addr) (m : Metal), vs = [.ref f.a, .int p, .ref q] ∧ MintAt Z ρ i H f s ∧ MG.Good s ∧ p < 6 ∧ MetalAt Z H q m ∧ CallPost Z ρ i H f (takeRes s p m) Q
theorem ok_take_in (T : Txt K mg Z) : FnOk P w K mg base CX0 3 Z.f_take_in Z.d_take_in ["mint", "p", "metal"] (sp_take_in Z) := by
  refine T.F_take_in.ok sc_take_in (fun vs H Q E h => ?_) (fun cdv A outer s0 H vs Q E hr h => ?_)
  · obtain ⟨ρ, i, f, s, p, q, m, rfl, _⟩ := h
    rfl
  · obtain ⟨ρ, i, f, s, p, q, m, rfl, M, G, hp, ⟨dq, hq⟩, k⟩ := h
    refine ⟨_, (pss_cons (ps_set (i := 3) (sc_take_in).nd rfl (Or.inl rfl) (pe_call (ok_first_empty_place T) (hr.mono (by decide)) rfl T.g_first_empty_place T.F_first_empty_place.kp (b_first_empty_place T) .nil pass0 ((pa_cons (pe_fld (pv 0) rfl) pa_nil)))) (pss_cons (ps_if (pt_cmpR op_eq (pv 3) (pe_gint rfl T.k_PLACES) (nomark _)) (pss_one (ps_ret (pe_lst (pa_cons (pe_gint rfl T.k_NO_ROOM) pa_nil)))) pss_nil) (pss_cons (ps_set (i := 4) (sc_take_in).nd rfl (Or.inl rfl) (pe_call (ok_thousandths_rounded_up T) (hr.mono (by decide)) rfl T.g_thousandths_rounded_up T.F_thousandths_rounded_up.kp (b_thousandths_rounded_up T) .nil pass0 ((pa_cons (pe_fld (pv 2) rfl) (pa_cons (pe_fld (pv 0) rfl) pa_nil))))) (pss_cons (ps_set (i := 5) (sc_take_in).nd rfl (Or.inl rfl) (pe_op op_sub (pe_fld (pv 2) rfl) (pv 4))) (pss_cons (ps_asg (pv 2) (pg_sub (pe_fld (pv 0) rfl) (pv 3) set_list)) (pss_cons (ps_fld (pv 0) (pe_op op_add (pe_fld (pv 0) rfl) (pe_fld (pv 2) rfl)) rfl) (pss_cons (ps_fld (pv 0) (pe_op op_add (pe_fld (pv 0) rfl) (pv 4)) rfl) (pss_cons (ps_asg (pe_op op_add (pe_ix ix_list (pe_fld (pv 0) rfl) (pv 1) (fun _ _ => rfl)) (pv 5)) (pg_sub (pe_fld (pv 0) rfl) (pv 1) set_list)) (pss_one (ps_ret (pe_lst (pa_cons (pv 3) (pa_cons (pv 5) pa_nil))))))))))))), ?_⟩
    refine ⟨_, rfl, rd_Mint_lots T M.obj ⟨f.ll, f.ms, s, rfl, M.lots, G, ?_⟩⟩
    refine ⟨_, rfl, rfl, _, rfl, ite2 (fun h1 => ?_) (fun h1 => ?_)⟩
    · refine tellsR M k (ans := [-28]) ?_ rfl (by decide)
      have h1 := (int_lit (n := 10) rfl).mp (of_decide_eq_true h1)
      unfold takeRes
      cases e : s.room with
      | none => rfl
      | some j =>
        rw [e] at h1
        have h1 : j = 10 := h1
        have := (MG.room_some e).1
        omega
    · cases e : s.room with
      | none => exact (h1 (by rw [e]; exact decide_eq_true rfl)).elim
      | some j =>
        obtain ⟨hj, _, _⟩ := MG.room_some e
        have hsh := MG.share_le G.keeps m.carats
        obtain ⟨c0, hc0⟩ : ∃ c0, s.credits[p]? = some c0 := ⟨_, List.getElem?_eq_getElem (by rw [G.cl]; exact hp)⟩
        have hcd : s.credits.getD p 0 = c0 := by rw [List.getD_eq_getElem?_getD, hc0]; rfl
        refine ⟨_, rfl, rd_Metal_carats T hq ⟨_, rfl, rd_Mint_keeps T M.obj ⟨m.carats, s.keeps, rfl, G.keeps, ?_⟩⟩⟩
        refine ⟨_, rfl, rd_Metal_carats T hq ⟨_, rfl, _, _, rfl, rfl, ?_⟩⟩
        -- lots[place] = metal
        obtain ⟨M1, F1⟩ := M.lot (j := j) (o := some m) ⟨dq, hq⟩ hj G.ll
        refine ⟨_, rfl, _, rfl, rd_Mint_lots T M.obj ⟨_, rfl, f.ll, _, _, j, rfl, rfl, M.lots.lst, ixN_nat (by rw [List.length_map, M.lots.len]; exact hj), ?_⟩⟩
        -- brought
        have hq1 := F1.imm _ _ hq ⟨dq, _, _, rfl⟩
        obtain ⟨M1b, F1b⟩ := M1.put (q := f.mp) (s' := { s with lots := s.lots.set j (some m), taken := s.taken.plus m }) M1.pot rfl rfl rfl rfl
        refine ⟨_, rfl, rd_Mint_brought T M1.obj ⟨_, rfl, rd_Metal_carats T hq1 ⟨_, _, rfl, rfl, _, rfl, wr_Mint_brought T M1.obj ?_⟩⟩⟩
        -- kept
        obtain ⟨M2, F2⟩ := M1b.put (q := f.mp) (s' := { s with lots := s.lots.set j (some m), taken := s.taken.plus m, kept := s.kept + s.share m.carats }) M1b.pot rfl rfl rfl rfl
        refine ⟨_, rfl, rd_Mint_kept T M1b.obj ⟨_, rfl, _, _, rfl, rfl, _, rfl, wr_Mint_kept T M1b.obj ?_⟩⟩
        -- credit
        obtain ⟨M3, F3⟩ := M2.cred p (s.credits.getD p 0 + (m.carats - s.share m.carats))
        have hci : (nv s.credits)[p]? = some (.int c0) := nv_at hc0
        refine ⟨_, rfl, rd_Mint_credit T M2.obj ⟨_, rfl, f.lc, _, _, .int c0, rfl, rfl, SqL.of M2.lc, atI_nat hci, _, rfl, _, _, rfl, rfl, ?_⟩⟩
        refine ⟨_, rfl, rd_Mint_credit T M2.obj ⟨_, rfl, f.lc, _, _, p, rfl, rfl, M2.lc, ixN_nat (by unfold nv; rw [List.length_map]; show p < s.credits.length; rw [G.cl]; exact hp), ?_⟩⟩
        have eg : (m.carats : Int) - (((m.carats * s.keeps + 999) / 1000 : Nat) : Int) = ((m.carats - s.share m.carats : Nat) : Int) := by
          unfold Mint.share at hsh ⊢
          omega
        have ec : (c0 : Int) + ((m.carats : Int) - (((m.carats * s.keeps + 999) / 1000 : Nat) : Int)) = ((s.credits.getD p 0 + (m.carats - s.share m.carats) : Nat) : Int) := by
          rw [hcd, eg, Int.natCast_add]
        dsimp only
        rw [ec]
        refine ⟨_, rfl, _, rfl, ?_⟩
        refine tells2R M3 (F1.trans (Ext.refl _ _) (F1b.trans (Ext.refl _ _) (F2.trans (Ext.refl _ _) F3))) (Ext.refl _ _) rfl k (s' := s.comes p j m) (ans := [(j : Int), ((m.carats - s.share m.carats : Nat) : Int)]) ?_ ?_ (by show 2 ≤ 25; decide)
        · unfold takeRes
          rw [e]
        · show [V.int _, V.int _] = [V.int _, V.int _]
          rw [eg]
          rfl
/-! ### bring, bring_old_coin -/
theorem act_bring {s : Mint} {p g x : Nat} (h1 : p < 6) (h2 : ¬ (g = 0 ∨ 100000 < g ∨ 24 * g < x)) : res (.bring p g x) s = takeRes s p ⟨g, x⟩ := by
  unfold res Km408.act takeRes
  simp only
  rw [if_neg (by show ¬ 6 ≤ p; omega), if_neg (by exact h2)]
  cases s.room <;> rfl
def sp_bring (Z : Adr) : Sp := fun vs H Q _ => ∃ (ρ : Roles) (i : Nat) (f : Fp) (s : Mint) (p g x : Nat), vs = [.ref f.a, .int p, .int g, .int x] ∧ MintAt Z ρ i H f s ∧ MG.Good s ∧ CallPost Z ρ i H f (res (.bring p g x) s) Q
theorem ok_bring (T : Txt K mg Z) : FnOk P w K mg base CX0 4 Z.f_bring Z.d_bring ["mint", "p", "grains", "carats"] (sp_bring Z) := by
  refine T.F_bring.ok sc_bring (fun vs H Q E h => ?_) (fun cdv A outer s0 H vs Q E hr h => ?_)
  · obtain ⟨ρ, i, f, s, p, g, x, rfl, _⟩ := h
    rfl
  · obtain ⟨ρ, i, f, s, p, g, x, rfl, M, G, k⟩ := h
    refine ⟨_, (pss_cons (ps_if (pt_not (pt_val (pe_meth (pv 0) T.cl_Mint T.m_Mint_has_person (ok_Mint_has_person T) (hr.mono (by decide)) (b_Mint_has_person T) .nil pass0 ((pa_cons (pv 1) pa_nil))))) (pss_one (ps_ret (pe_lst (pa_cons (pe_gint rfl T.k_NOT_THERE) pa_nil)))) pss_nil) (pss_cons (ps_if (PW.pt (pw_or (pt_not (pt_val (pe_call (ok_is_weight_of_lot T) (hr.mono (by decide)) rfl T.g_is_weight_of_lot T.F_is_weight_of_lot.kp (b_is_weight_of_lot T) .nil pass0 ((pa_cons (pv 2) pa_nil))))) (pw_or1 (pt_cmpR op_gt (pv 3) (pe_op op_mul (pe_gint rfl T.k_CARATS_OF_GOLD) (pv 2)) (nomark _))))) (pss_one (ps_ret (pe_lst (pa_cons (pe_gint rfl T.k_NOT_AS_TOLD) pa_nil)))) pss_nil) (pss_one (ps_ret (pe_call (ok_take_in T) (hr.mono (by decide)) rfl T.g_take_in T.F_take_in.kp (b_take_in T) .nil pass0 ((pa_cons (pv 0) (pa_cons (pv 1) (pa_cons (pe_make T.mk_Metal (ok_Metal_init T) (hr.mono (by decide)) rfl T.g_Metal (b_Metal_init T) .nil pass0 ((pa_cons (pv 2) (pa_cons (pv 3) pa_nil)))) pa_nil))))))))), ?_⟩
    refine ⟨_, rfl, me_Mint_has_person M.obj ⟨_, rfl, _, p, rfl, _, rfl, ite2 (fun h1 => ?_) (fun h1 => ?_)⟩⟩
    · refine tells M k (ans := [-2]) ?_ rfl (by decide)
      simp at h1
      unfold res Km408.act
      simp only
      rw [if_pos (by exact h1)]
      rfl
    · have h1 : p < 6 := by
        simp at h1
        omega
      refine ⟨_, rfl, g, rfl, _, rfl, ite2 (fun h2 => iteT ?_) (fun h2 => ?_)⟩
      · refine tells M k (ans := [-22]) ?_ rfl (by decide)
        simp at h2
        unfold res Km408.act
        simp only
        rw [if_neg (by show ¬ 6 ≤ p; omega), if_pos (by show g = 0 ∨ 100000 < g ∨ 24 * g < x; omega)]
        rfl
      · have h2 : 1 ≤ g ∧ g ≤ 100000 := by
          simp at h2
          omega
        refine ⟨_, rfl, _, rfl, _, _, rfl, rfl, mul_smallL (by decide) (by decide), _, _, rfl, rfl, _, rfl, ite2 (fun h3 => ?_) (fun h3 => ?_)⟩
        · refine tells M k (ans := [-22]) ?_ rfl (by decide)
          have h3 := of_decide_eq_true h3
          unfold res Km408.act
          simp only
          rw [if_neg (by show ¬ 6 ≤ p; omega), if_pos (by show g = 0 ∨ 100000 < g ∨ 24 * g < x; omega)]
          rfl
        · have h3 := not_dec h3
          rw [act_bring h1 (by omega)] at k
          refine ⟨_, rfl, _, rfl, _, rfl, _, rfl, mk_Metal_of fun q dq nx nd => ?_⟩
          have sm := same_newI (C := Z.c_Metal) (fs := fs_Metal (.int g) (.int x)) nx nd
          exact ⟨ρ, i, f, s, p, q, ⟨g, x⟩, rfl, M.same sm, G, h1, ⟨dq, newI_at⟩, k.same sm⟩
theorem act_old {s : Mint} {p kd g : Nat} {c : Km408.Kind} (h1 : p < 6) (h2 : ¬ (g = 0 ∨ 100000 < g)) (h : s.kinds[kd]? = some c) : res (.old p kd g) s = takeRes s p ⟨g, c.fine * g⟩ := by
  unfold res Km408.act takeRes
  simp only
  rw [h]
  simp only
  rw [if_neg (by show ¬ 6 ≤ p; omega), if_neg (by exact h2)]
  cases s.room <;> rfl
def sp_bring_old_coin (Z : Adr) : Sp := fun vs H Q _ => ∃ (ρ : Roles) (i : Nat) (f : Fp) (s : Mint) (p kd g : Nat), vs = [.ref f.a, .int p, .int kd, .int g] ∧ MintAt Z ρ i H f s ∧ MG.Good s ∧ CallPost Z ρ i H f (res (.old p kd g) s) Q
theorem ok_bring_old_coin (T : Txt K mg Z) : FnOk P w K mg base CX0 4 Z.f_bring_old_coin Z.d_bring_old_coin ["mint", "p", "k", "grains"] (sp_bring_old_coin Z) := by
  refine T.F_bring_old_coin.ok sc_bring_old_coin (fun vs H Q E h => ?_) (fun cdv A outer s0 H vs Q E hr h => ?_)
  · obtain ⟨ρ, i, f, s, p, kd, g, rfl, _⟩ := h
    rfl
  · obtain ⟨ρ, i, f, s, p, kd, g, rfl, M, G, k⟩ := h
    refine ⟨_, (pss_cons (ps_if (PW.pt (pw_or (pt_not (pt_val (pe_meth (pv 0) T.cl_Mint T.m_Mint_has_person (ok_Mint_has_person T) (hr.mono (by decide)) (b_Mint_has_person T) .nil pass0 ((pa_cons (pv 1) pa_nil))))) (pw_or1 (pt_not (pt_val (pe_meth (pv 0) T.cl_Mint T.m_Mint_has_kind (ok_Mint_has_kind T) (hr.mono (by decide)) (b_Mint_has_kind T) .nil pass0 ((pa_cons (pv 2) pa_nil)))))))) (pss_one (ps_ret (pe_lst (pa_cons (pe_gint rfl T.k_NOT_THERE) pa_nil)))) pss_nil) (pss_cons (ps_if (pt_not (pt_val (pe_call (ok_is_weight_of_lot T) (hr.mono (by decide)) rfl T.g_is_weight_of_lot T.F_is_weight_of_lot.kp (b_is_weight_of_lot T) .nil pass0 ((pa_cons (pv 3) pa_nil))))) (pss_one (ps_ret (pe_lst (pa_cons (pe_gint rfl T.k_NOT_AS_TOLD) pa_nil)))) pss_nil) (pss_one (ps_ret (pe_call (ok_take_in T) (hr.mono (by decide)) rfl T.g_take_in T.F_take_in.kp (b_take_in T) .nil pass0 ((pa_cons (pv 0) (pa_cons (pv 1) (pa_cons (pe_meth (pe_ix ix_list (pe_fld (pv 0) rfl) (pv 2) (fun _ _ => rfl)) T.cl_Kind T.m_Kind_metal_of (ok_Kind_metal_of T) (hr.mono (by decide)) (b_Kind_metal_of T) .nil pass0 ((pa_cons (pv 3) pa_nil))) pa_nil))))))))), ?_⟩
    refine ⟨_, rfl, me_Mint_has_person M.obj ⟨_, rfl, _, p, rfl, _, rfl, ite2 (fun h1 => iteT ?_) (fun h1 => ?_)⟩⟩
    · refine tells M k (ans := [-2]) ?_ rfl (by decide)
      simp at h1
      unfold res Km408.act
      simp only
      cases e : s.kinds[kd]? with
      | none => rfl
      | some c =>
        simp only
        rw [if_pos (by exact h1)]
        rfl
    · have h1 : p < 6 := by
        simp at h1
        omega
      refine ⟨_, rfl, me_Mint_has_kind M.obj ⟨_, rfl, ρ, i, f, s, kd, rfl, M, _, rfl, ite2 (fun h2 => ?_) (fun h2 => ?_)⟩⟩
      · refine tells M k (ans := [-2]) ?_ rfl (by decide)
        simp at h2
        unfold res Km408.act
        simp only
        rw [List.getElem?_eq_none h2]
        rfl
      · have h2 : kd < s.kinds.length := by
          simp at h2
          omega
        obtain ⟨kp, c, hk, hc, KA⟩ := M.kind h2
        refine ⟨_, rfl, g, rfl, _, rfl, ite2 (fun h3 => ?_) (fun h3 => ?_)⟩
        · refine tells M k (ans := [-22]) ?_ rfl (by decide)
          simp at h3
          unfold res Km408.act
          simp only
          rw [hc]
          simp only
          rw [if_neg (by show ¬ 6 ≤ p; omega), if_pos (by show g = 0 ∨ 100000 < g; omega)]
          rfl
        · have h3 : 1 ≤ g ∧ g ≤ 100000 := by
            simp at h3
            omega
          rw [act_old h1 (by omega) hc] at k
          have GK := MG.kind_good G hc
          refine ⟨_, rfl, _, rfl, _, rfl, rd_Mint_kinds T M.obj ⟨_, rfl, f.lk, _, _, .ref kp.a, rfl, rfl, SqL.of M.lk, atI_nat (kref_at hk), me_Kind_metal_of KA.obj ⟨_, rfl, ρ, i, kd, kp, c, g, rfl, KA, GK.f2, fun H1 q sm hq => ?_⟩⟩⟩
          exact ⟨ρ, i, f, s, p, q, ⟨g, c.fine * g⟩, rfl, M.same sm, G, h1, hq, k.same sm⟩
end
end Mi


set_option Elab.async false
set_option linter.all false
set_option maxRecDepth 100000
set_option maxHeartbeats 4000000
namespace Mi
open PySem PySem.Spec PyProof.Rows L2
open Km408 (Metal Mint ones)
open MP (picks avail mix lotAt)
section
variable {P : Program} {w : World} {K : PySem.W.Frag} {mg : Str → Option Value} {base : Heap} {Z : Adr}
theorem bit_and {b p : Nat} : Builtin.bitAnd (b : Int) (1 * 2 ^ (p : Int).toNat) = ((b &&& 2 ^ p : Nat) : Int) := by
  have e : (1 * 2 ^ (p : Int).toNat : Int) = ((2 ^ p : Nat) : Int) := by
    rw [Int.toNat_natCast, Int.one_mul, Int.natCast_pow]
    rfl
  rw [e]
  unfold Builtin.bitAnd
  rw [decide_eq_true (Int.natCast_nonneg b), decide_eq_true (Int.natCast_nonneg _)]
  rfl
theorem bit_ne {b p : Nat} : (!decide (V.int (Builtin.bitAnd (b : Int) (1 * 2 ^ (p : Int).toNat)) = V.int 0)) = b.testBit p := by
  rw [bit_and]
  cases e : b.testBit p with
  | false =>
    have h : b &&& 2 ^ p = 0 := by
      apply Nat.eq_of_testBit_eq
      intro i
      rw [Nat.testBit_and, Nat.testBit_two_pow, Nat.zero_testBit]
      by_cases q : p = i
      · subst q
        rw [e]
        rfl
      · rw [decide_eq_false q, Bool.and_false]
    rw [h]
    rfl
  | true =>
    have h : ¬ b &&& 2 ^ p = 0 := fun q => by
      have h2 : (b &&& 2 ^ p).testBit p = true := by rw [Nat.testBit_and, Nat.testBit_two_pow, e, decide_eq_true rfl]; rfl
      rw [q, Nat.zero_testBit] at h2
      cases h2
    rw [decide_eq_false (fun q => h (by
      rw [V.int.injEq] at q
      omega))]
    rfl
def sp_places_of (Z : Adr) : Sp := fun vs H Q _ => ∃ (b : Nat), vs = [.int b] ∧ ∀ (H' : Hp) (l : Addr), Same H H' → H l = none → H' l = some (.lst (nv (MM.places b))) → Q (.ref l) H'
theorem ok_places_of (T : Txt K mg Z) : FnOk P w K mg base CX0 1 Z.f_places_of Z.d_places_of ["bits"] (sp_places_of Z) := by
  refine T.F_places_of.ok sc_places_of (fun vs H Q E h => ?_) (fun cdv A outer s H vs Q E hr h => ?_)
  · obtain ⟨b, rfl, _⟩ := h
    rfl
  · obtain ⟨b, rfl, k⟩ := h
    refine ⟨_, (pss_one (ps_ret (pe_lc rfl (sc_places_of).nd (pi_range1 rfl T.n_range (pa_cons (pe_gint rfl T.k_PLACES) pa_nil)) (own := [("place", 1)]) (blkOk_by (by rfl)) (fun _ _ _ _ _ => pg_name (i := 1) (sc_places_of).nd rfl (Or.inl rfl)) (fun _ _ _ _ _ => pts_one (pt_cmpR op_ne (pe_op op_and (pv 0) (pe_op op_shl pe_int (pv 1))) pe_int (nomark _))) (fun _ _ _ _ _ => (pv 1))))), ?_⟩
    refine ⟨_, rfl, by decide, by decide, fun D hD => lc_range (n := 10) (fun j H' => H' = upd H D (.lst (nv ((List.range j).filter fun p => b.testBit p)))) rfl (fun j H' hj e => ?_) (fun H' e => ?_)⟩
    · subst e
      rw [Int.zero_add]
      refine ⟨rfl, _, rfl, _, rfl, _, _, rfl, rfl, ⟨by omega, by omega, by decide⟩, _, _, rfl, rfl, rfl, _, rfl, ?_⟩
      have eb := bit_ne (b := b) (p := j)
      dsimp only
      rw [eb]
      have hl : (nv ((List.range j).filter fun p => b.testBit p)).length ≤ 10 := by
        unfold nv
        rw [List.length_map]
        have := List.length_filter_le (fun p => b.testBit p) (List.range j)
        rw [List.length_range] at this
        omega
      refine ite2 (fun h1 => ⟨_, rfl, _, upd_same, Nat.lt_of_le_of_lt hl (by decide), ?_⟩) (fun h1 => ?_)
      · rw [upd_upd, List.range_succ, List.filter_append]
        unfold nv
        rw [List.map_append]
        simp [h1]
      · rw [List.range_succ, List.filter_append]
        simp [h1]
    · have s0 : Same H H' := by rw [e]; exact Same.new hD
      exact k H' D s0 hD (by rw [e]; exact upd_same)
end
end Mi


set_option Elab.async false
set_option linter.all false
set_option maxRecDepth 100000
set_option maxHeartbeats 4000000
namespace Mi
open PySem PySem.Spec PyProof.Rows L2
open Km408 (Metal Mint ones)
open MP (picks avail mix lotAt)
section
variable {P : Program} {w : World} {K : PySem.W.Frag} {mg : Str → Option Value} {base : Heap} {Z : Adr}
theorem nv_inv {l : List Nat} {k : Nat} {y : V} (h : (nv l)[k]? = some y) : ∃ x, l[k]? = some x ∧ y = .int x := by
  unfold nv at h
  rw [List.getElem?_map] at h
  cases e : l[k]? with
  | none =>
    rw [e] at h
    cases h
  | some x =>
    rw [e] at h
    exact ⟨x, rfl, (Option.some.inj h).symm⟩
theorem nv_len (l : List Nat) : (nv l).length = l.length := List.length_map _
def sp_melt (Z : Adr) : Sp := fun vs H Q _ => ∃ (ρ : Roles) (i : Nat) (f : Fp) (s : Mint) (b : Nat), vs = [.ref f.a, .int b] ∧ MintAt Z ρ i H f s ∧ MG.Good s ∧ CallPost Z ρ i H f (res (.melt b) s) Q
theorem ok_melt (T : Txt K mg Z) : FnOk P w K mg base CX0 4 Z.f_melt Z.d_melt ["mint", "bits"] (sp_melt Z) := by
  refine T.F_melt.ok sc_melt (fun vs H Q E h => ?_) (fun cdv A outer s0 H vs Q E hr h => ?_)
  · obtain ⟨ρ, i, f, s, b, rfl, _⟩ := h
    rfl
  · obtain ⟨ρ, i, f, s, b, rfl, M, G, k⟩ := h
    refine ⟨_, (pss_cons (ps_if (PW.pt (pw_or (pt_cmpR op_eq (pv 1) pe_int (nomark _)) (pw_or1 (pt_cmpR op_gt (pv 1) (pe_gint rfl T.k_MOST_BITS) (nomark _))))) (pss_one (ps_ret (pe_lst (pa_cons (pe_gint rfl T.k_NOT_AS_TOLD) pa_nil)))) pss_nil) (pss_cons (ps_set (i := 2) (sc_melt).nd rfl (Or.inl rfl) (pe_call (ok_places_of T) (hr.mono (by decide)) rfl T.g_places_of T.F_places_of.kp (b_places_of T) .nil pass0 ((pa_cons (pv 1) pa_nil)))) (pss_cons (ps_set (i := 3) (sc_melt).nd rfl (Or.inl rfl) (pe_fld (pv 0) rfl)) (pss_cons (ps_for PassesOwn.never rfl (pi_list (pv 2)) (pg_name (i := 4) (sc_melt).nd rfl (Or.inl rfl)) (pss_cons (ps_if (pt_val (pe_meth0 (pe_ix ix_list (pe_fld (pv 0) rfl) (pv 4) (fun _ _ => rfl)) T.cl_Metal T.m_Metal_is_none (ok_Metal_is_none T) (hr.mono (by decide)) (b_Metal_is_none T) .nil pass0 )) (pss_one (ps_ret (pe_lst (pa_cons (pe_gint rfl T.k_NOT_THERE) pa_nil)))) pss_nil) (pss_one (ps_set (i := 3) (sc_melt).nd rfl (Or.inl rfl) (pe_meth (pv 3) T.cl_Metal T.m_Metal_together_with (ok_Metal_together_with T) (hr.mono (by decide)) (b_Metal_together_with T) .nil pass0 ((pa_cons (pe_ix ix_list (pe_fld (pv 0) rfl) (pv 4) (fun _ _ => rfl)) pa_nil))))))) (pss_cons (ps_if (pt_cmpR op_gt (pe_fld (pv 3) rfl) (pe_gint rfl T.k_MOST_IN_POT) (nomark _)) (pss_one (ps_ret (pe_lst (pa_cons (pe_gint rfl T.k_NO_ROOM) pa_nil)))) pss_nil) (pss_cons (ps_fld (pv 0) (pv 3) rfl) (pss_cons (ps_for PassesOwn.never rfl (pi_list (pv 2)) (pg_name (i := 4) (sc_melt).nd rfl (Or.inl rfl)) (pss_one (ps_asg (pe_make T.mk_Metal (ok_Metal_init T) (hr.mono (by decide)) rfl T.g_Metal (b_Metal_init T) .nil pass0 ((pa_cons pe_int (pa_cons pe_int pa_nil)))) (pg_sub (pe_fld (pv 0) rfl) (pv 4) set_list)))) (pss_one (ps_ret (pe_lst (pa_cons (pe_fld (pv 3) rfl) pa_nil))))))))))), ?_⟩
    have r22 : (b = 0 ∨ 1024 ≤ b) → res (.melt b) s = (s, [-22]) := fun h => by
      unfold res Km408.act
      simp only
      rw [if_pos (by exact h)]
      rfl
    refine ⟨_, rfl, rfl, _, rfl, ite2 (fun h1 => iteT ?_) (fun h1 => ⟨_, rfl, _, _, rfl, rfl, _, rfl, ite2 (fun h2 => ?_) (fun h2 => ?_)⟩)⟩
    · exact tells M k (r22 (.inl ((int_lit (n := 0) rfl).mp (of_decide_eq_true h1)))) rfl (by decide)
    · exact tells M k (r22 (.inr (by have := of_decide_eq_true h2; omega))) rfl (by decide)
    · have h1 : ¬ b = 0 := fun e => h1 (decide_eq_true ((int_lit (n := 0) rfl).mpr e))
      have h2 := not_dec h2
      have hb : ¬ (b = 0 ∨ 2 ^ 10 ≤ b) := by omega
      refine ⟨_, rfl, b, rfl, fun H1 lp s1 hlp hpl => ?_⟩
      have M1 := M.same s1
      have k1 := k.same s1
      refine ⟨_, rfl, rd_Mint_pot T M1.obj ?_⟩
      have npl : lp ≠ f.ll := fun e => by
        have := M.lots.lst
        rw [← e, hlp] at this
        cases this
      -- the first loop: all together
      refine ⟨_, rfl, lp, rfl, ⟨_, SqL.of hpl⟩, for_list (K := K) (a := lp) (xs := nv (MM.places b)) (fun j σ H' => ∃ (q : Addr) (v4 : Option V), σ = [some (.ref f.a), some (.int b), some (.ref lp), some (.ref q), v4] ∧ Same H1 H' ∧ MetalAt Z H' q (MM.pour s ((MM.places b).take j)) ∧ ∀ p ∈ (MM.places b).take j, avail s p = true)
        ⟨f.mp, none, rfl, Same.refl _, M1.pot, fun p hp => by rw [List.take_zero] at hp; cases hp⟩ (fun j σ H' _ ⟨_, _, _, s5, _⟩ => SqL.of (s5 _ _ hpl)) ?_ ?_⟩
      · rintro j y σ H' hy ⟨q, v4, rfl, s5, ⟨dq, hq⟩, hav⟩
        obtain ⟨p, hp, rfl⟩ := nv_inv hy
        have hin := List.mem_of_getElem? hp
        have p10 := MM.places_lt hin
        have M5 := M1.same s5
        obtain ⟨a, ha⟩ : ∃ a, f.ms[p]? = some a := ⟨_, List.getElem?_eq_getElem (by rw [M.lots.len]; exact p10)⟩
        obtain ⟨da, hA⟩ := M5.lots.at_ p a ha
        refine ⟨_, rfl, rd_Mint_lots T M5.obj ⟨_, rfl, f.ll, _, _, .ref a, rfl, rfl, SqL.of M5.lots.lst, atI_nat (ref_at ha), me_Metal_is_none hA ⟨a, _, rfl, ⟨da, hA⟩, _, rfl, ite2 (fun h3 => ?_) (fun h3 => ?_)⟩⟩⟩
        · refine tells M5 (k1.same s5) (ans := [-2]) ?_ rfl (by decide)
          have h3 := of_decide_eq_true h3
          unfold res Km408.act
          simp only
          rw [if_neg (by exact hb), if_pos (by
            have : ¬ s.there b = true := fun e => ((avail_iff G p).mp ((MM.there_iff s b).mp e p hin)) h3
            simpa using this)]
          rfl
        · have h3 := not_dec h3
          refine ⟨_, rfl, me_Metal_together_with hq ⟨_, rfl, rd_Mint_lots T M5.obj ⟨_, rfl, f.ll, _, _, .ref a, rfl, rfl, SqL.of M5.lots.lst, atI_nat (ref_at ha), ?_⟩⟩⟩
          refine ⟨q, a, _, _, rfl, ⟨dq, hq⟩, ⟨da, hA⟩, fun H6 r s6 hr6 => ?_⟩
          refine ⟨r, _, rfl, s5.trans s6, ?_, fun p' hp' => ?_⟩
          · rw [MM.pour_snoc s hp]
            exact hr6
          · rw [← List.take_append_getElem (List.getElem?_eq_some_iff.mp hp).1, (List.getElem?_eq_some_iff.mp hp).2] at hp'
            rcases List.mem_append.mp hp' with z | z
            · exact hav p' z
            · rw [List.mem_singleton.mp z]
              exact (avail_iff G p).mpr h3
      · rintro σ H' ⟨q, v4, rfl, s5, ⟨dq, hq⟩, hav⟩
        rw [nv_len, List.take_length] at hq hav
        have hth : s.there b = true := (MM.there_iff s b).mpr hav
        rw [MM.pour_eq] at hq
        have M5 := M1.same s5
        refine ⟨_, rfl, rd_Metal_grains T hq ⟨_, _, rfl, rfl, _, rfl, ite2 (fun h3 => ?_) (fun h3 => ?_)⟩⟩
        · refine tells M5 (k1.same s5) (ans := [-28]) ?_ rfl (by decide)
          have h3 := of_decide_eq_true h3
          unfold res Km408.act
          simp only
          rw [if_neg (by exact hb), if_neg (by rw [hth]; decide), if_pos (by
            show 2000000 < (Km408.metals (s.chosen b)).grains + s.pot.grains
            have : ((Km408.metals (s.chosen b)).plus s.pot).grains = (Km408.metals (s.chosen b)).grains + s.pot.grains := rfl
            omega)]
          rfl
        · have h3 := not_dec h3
          obtain ⟨M6, F6⟩ := M5.put (q := q) (s' := { s with pot := (Km408.metals (s.chosen b)).plus s.pot }) ⟨dq, hq⟩ rfl rfl rfl rfl
          refine ⟨_, rfl, _, rfl, wr_Mint_pot T M5.obj ?_⟩
          have F06 : Fr Z ρ i H _ := (Fr.same (s1.trans s5)).trans (Ext.refl _ _) F6
          have hpl6 : upd H' f.a (.ins Z.c_Mint f.dx (mintFs { f with mp := q } { s with pot := (Km408.metals (s.chosen b)).plus s.pot })) lp = some (.lst (nv (MM.places b))) := by
            rw [upd_ne (ne_of (s5 _ _ hpl) M5.obj (by intro z; cases z))]
            exact s5 _ _ hpl
          -- the second loop: their places empty
          refine ⟨_, rfl, lp, rfl, ⟨_, SqL.of hpl6⟩, for_list (K := K) (a := lp) (xs := nv (MM.places b)) (fun j σ H2 => ∃ (f2 : Fp) (v4 : Option V), σ = [some (.ref f.a), some (.int b), some (.ref lp), some (.ref q), v4] ∧ H2 lp = some (.lst (nv (MM.places b))) ∧ f2.a = f.a ∧ f2.ll = f.ll ∧ MintAt Z ρ i H2 f2 { s with pot := (Km408.metals (s.chosen b)).plus s.pot, lots := MM.empt s.lots ((MM.places b).take j) } ∧ Fr Z ρ i H H2 ∧ MetalAt Z H2 q ((Km408.metals (s.chosen b)).plus s.pot))
            ⟨{ f with mp := q }, _, rfl, hpl6, rfl, rfl, M6, F06, MetalAt.fr ⟨dq, hq⟩ F6⟩ (fun j σ H2 _ ⟨_, _, _, h5, _⟩ => SqL.of h5) ?_ ?_⟩
          · rintro j y σ H2 hy ⟨f2, v5, rfl, hl2, ea, el, M2, F2, hq2⟩
            obtain ⟨p, hp, rfl⟩ := nv_inv hy
            have hin := List.mem_of_getElem? hp
            have p10 := MM.places_lt hin
            refine mk_Metal_of fun x dx nx nd => ?_
            have sn := same_newI (C := Z.c_Metal) (fs := fs_Metal (.int 0) (.int 0)) nx nd
            have M3 := M2.same sn
            obtain ⟨M4, F4⟩ := M3.lot (q := x) (j := p) (o := none) ⟨dx, newI_at⟩ p10 (by show (MM.empt _ _).length = 10; rw [MM.empt_len]; exact G.ll)
            rw [← ea]
            refine ⟨_, rfl, rd_Mint_lots T M3.obj ⟨_, rfl, f2.ll, _, _, p, rfl, rfl, M3.lots.lst, ixN_nat (by rw [List.length_map, M3.lots.len]; exact p10), ?_⟩⟩
            refine ⟨{ f2 with ms := f2.ms.set p x }, _, rfl, ?_, rfl, el, ?_, F2.trans (Ext.refl _ _) ((Fr.same sn).trans (Ext.refl _ _) F4), (hq2.same sn).fr F4⟩
            · rw [upd_ne (by rw [el]; exact npl)]
              exact sn _ _ hl2
            · rw [MM.empt_snoc s.lots hp]
              exact M4
          · rintro σ H2 ⟨f2, v5, rfl, hl2, ea, el, M2, F2, ⟨dq2, hq2⟩⟩
            rw [nv_len, List.take_length, MM.empt_eq G.ll] at M2
            refine ⟨_, rfl, rd_Metal_grains T hq2 ?_⟩
            refine tells2 M2 F2 (Ext.refl _ _) ea k (ans := [((((Km408.metals (s.chosen b)).plus s.pot).grains : Nat) : Int)]) ?_ rfl (by show 1 ≤ 25; decide)
            unfold res Km408.act
            simp only
            rw [if_neg (by exact hb), if_neg (by rw [hth]; decide), if_neg (by
              show ¬ 2000000 < (Km408.metals (s.chosen b)).grains + s.pot.grains
              have : ((Km408.metals (s.chosen b)).plus s.pot).grains = (Km408.metals (s.chosen b)).grains + s.pot.grains := rfl
              omega)]
            rfl
end
end Mi


set_option Elab.async false
set_option linter.all false
set_option maxRecDepth 100000
set_option maxHeartbeats 4000000
namespace Mi
open PySem PySem.Spec PyProof.Rows L2
open Km408 (Metal Mint ones)
open MP (picks avail mix lotAt)
section
variable {P : Program} {w : World} {K : PySem.W.Frag} {mg : Str → Option Value} {base : Heap} {Z : Adr}
def sp_Metal_is_as_fine_as (Z : Adr) : Sp := fun vs H Q _ => ∃ (p : Addr) (m : Metal) (f : Nat), vs = [.ref p, .int f] ∧ f ≤ 24 ∧ MetalAt Z H p m ∧ Q (.bl (Km408.fitsAs m f)) H
theorem ok_Metal_is_as_fine_as (T : Txt K mg Z) : FnOk P w K mg base CX0 1 Z.f_Metal_is_as_fine_as Z.d_Metal_is_as_fine_as ["self", "fine"] (sp_Metal_is_as_fine_as Z) := by
  refine T.F_Metal_is_as_fine_as.ok sc_Metal_is_as_fine_as (fun vs H Q E h => ?_) (fun cdv A outer s H vs Q E hr h => ?_)
  · obtain ⟨p, m, f, rfl, _⟩ := h
    rfl
  · obtain ⟨p, m, f, rfl, hf, ⟨dx, hp⟩, k⟩ := h
    refine ⟨_, (pss_one (ps_ret (pe_cmpR op_eq (pe_fld (pv 0) rfl) (pe_op op_mul (pv 1) (pe_fld (pv 0) rfl)) (nomark _)))), ?_⟩
    refine ⟨_, rfl, rd_Metal_carats T hp ⟨_, rfl, _, rfl, rd_Metal_grains T hp ⟨_, _, rfl, rfl, mul_smallL (by omega) (by omega), rfl, ?_⟩⟩⟩
    have e : decide (V.int (m.carats : Int) = V.int ((f : Int) * (m.grains : Int))) = Km408.fitsAs m f := by
      unfold Km408.fitsAs
      rw [← Int.natCast_mul, decide_eq_decide.mpr int_eq, Bool.beq_eq_decide_eq]
    rw [← e] at k
    exact k
def sp_Metal_less (Z : Adr) : Sp := fun vs H Q _ => ∃ (p q : Addr) (m n : Metal), vs = [.ref p, .ref q] ∧ MetalAt Z H p m ∧ MetalAt Z H q n ∧ n.grains ≤ m.grains ∧ n.carats ≤ m.carats ∧ ∀ (H' : Hp) (r : Addr), Same H H' → MetalAt Z H' r ⟨m.grains - n.grains, m.carats - n.carats⟩ → Q (.ref r) H'
theorem ok_Metal_less (T : Txt K mg Z) : FnOk P w K mg base CX0 3 Z.f_Metal_less Z.d_Metal_less ["self", "other"] (sp_Metal_less Z) := by
  refine T.F_Metal_less.ok sc_Metal_less (fun vs H Q E h => ?_) (fun cdv A outer s H vs Q E hr h => ?_)
  · obtain ⟨p, q, m, n, rfl, _⟩ := h
    rfl
  · obtain ⟨p, q, m, n, rfl, ⟨dx, hp⟩, ⟨dy, hq⟩, l1, l2, k⟩ := h
    refine ⟨_, (pss_one (ps_ret (pe_make T.mk_Metal (ok_Metal_init T) (hr.mono (by decide)) rfl T.g_Metal (b_Metal_init T) .nil pass0 ((pa_cons (pe_op op_sub (pe_fld (pv 0) rfl) (pe_fld (pv 1) rfl)) (pa_cons (pe_op op_sub (pe_fld (pv 0) rfl) (pe_fld (pv 1) rfl)) pa_nil)))))), ?_⟩
    refine ⟨_, rfl, rd_Metal_grains T hp ⟨_, rfl, rd_Metal_grains T hq ⟨_, _, rfl, rfl, ?_⟩⟩⟩
    refine ⟨_, rfl, rd_Metal_carats T hp ⟨_, rfl, rd_Metal_carats T hq ⟨_, _, rfl, rfl, mk_Metal_of fun x dz nx nd => ?_⟩⟩⟩
    exact k _ x (same_newI nx nd) ⟨dz, Eq.trans newI_at (met_val (Int.ofNat_sub l1).symm (Int.ofNat_sub l2).symm)⟩
/-! ### add_metal -/
def sp_add_metal (Z : Adr) : Sp := fun vs H Q _ => ∃ (ρ : Roles) (i : Nat) (f : Fp) (s : Mint) (g c : Nat), vs = [.ref f.a, .int g, .int c] ∧ MintAt Z ρ i H f s ∧ MG.Good s ∧ CallPost Z ρ i H f (res (.add g c) s) Q
theorem ok_add_metal (T : Txt K mg Z) : FnOk P w K mg base CX0 4 Z.f_add_metal Z.d_add_metal ["mint", "gold", "copper"] (sp_add_metal Z) := by
  refine T.F_add_metal.ok sc_add_metal (fun vs H Q E h => ?_) (fun cdv A outer s0 H vs Q E hr h => ?_)
  · obtain ⟨ρ, i, f, s, g, c, rfl, _⟩ := h
    rfl
  · obtain ⟨ρ, i, f, s, g, c, rfl, M, G, k⟩ := h
    refine ⟨_, (pss_cons (ps_if (PW.pt (pw_and (pt_cmpR op_eq (pv 1) pe_int (nomark _)) (pw_and1 (pt_cmpR op_eq (pv 2) pe_int (nomark _))))) (pss_one (ps_ret (pe_lst (pa_cons (pe_gint rfl T.k_NOT_AS_TOLD) pa_nil)))) pss_nil) (pss_cons (ps_if (PW.pt (pw_or (pt_cmpR op_gt (pv 1) (pe_gint rfl T.k_MOST_ADDED) (nomark _)) (pw_or1 (pt_cmpR op_gt (pv 2) (pe_gint rfl T.k_MOST_ADDED) (nomark _))))) (pss_one (ps_ret (pe_lst (pa_cons (pe_gint rfl T.k_NOT_AS_TOLD) pa_nil)))) pss_nil) (pss_cons (ps_set (i := 3) (sc_add_metal).nd rfl (Or.inl rfl) (pe_make T.mk_Metal (ok_Metal_init T) (hr.mono (by decide)) rfl T.g_Metal (b_Metal_init T) .nil pass0 ((pa_cons (pe_op op_add (pv 1) (pv 2)) (pa_cons (pe_op op_mul (pe_gint rfl T.k_CARATS_OF_GOLD) (pv 1)) pa_nil))))) (pss_cons (ps_set (i := 4) (sc_add_metal).nd rfl (Or.inl rfl) (pe_meth (pe_fld (pv 0) rfl) T.cl_Metal T.m_Metal_together_with (ok_Metal_together_with T) (hr.mono (by decide)) (b_Metal_together_with T) .nil pass0 ((pa_cons (pv 3) pa_nil)))) (pss_cons (ps_if (pt_cmpR op_gt (pe_fld (pv 4) rfl) (pe_gint rfl T.k_MOST_IN_POT) (nomark _)) (pss_one (ps_ret (pe_lst (pa_cons (pe_gint rfl T.k_NO_ROOM) pa_nil)))) pss_nil) (pss_cons (ps_fld (pv 0) (pv 4) rfl) (pss_cons (ps_fld (pv 0) (pe_op op_add (pe_fld (pv 0) rfl) (pe_fld (pv 3) rfl)) rfl) (pss_one (ps_ret (pe_lst (pa_cons (pe_fld (pv 4) rfl) pa_nil))))))))))), ?_⟩
    have r22 : ((g = 0 ∧ c = 0) ∨ 100000 < g ∨ 100000 < c) → res (.add g c) s = (s, [-22]) := fun h => by
      unfold res Km408.act
      simp only
      rw [if_pos (by exact h)]
      rfl
    have go : ¬ (g = 0 ∧ c = 0) → ∀ (R : Prop), R = R → True := fun _ _ _ => trivial
    refine ⟨_, rfl, rfl, _, rfl, ite2 (fun h1 => ⟨_, rfl, rfl, _, rfl, ite2 (fun h2 => ?_) (fun h2 => ?a)⟩) (fun h1 => ?b)⟩
    · exact tells M k (r22 (.inl ⟨(int_lit (n := 0) rfl).mp (of_decide_eq_true h1), (int_lit (n := 0) rfl).mp (of_decide_eq_true h2)⟩)) rfl (by decide)
    case' a =>
      have h0 : ¬ (g = 0 ∧ c = 0) := fun e => h2 (decide_eq_true ((int_lit (n := 0) rfl).mpr e.2))
    case' b =>
      have h0 : ¬ (g = 0 ∧ c = 0) := fun e => h1 (decide_eq_true ((int_lit (n := 0) rfl).mpr e.1))
    all_goals
      refine ⟨_, rfl, _, _, rfl, rfl, _, rfl, ite2 (fun h3 => iteT ?_) (fun h3 => ⟨_, rfl, _, _, rfl, rfl, _, rfl, ite2 (fun h4 => ?_) (fun h4 => ?_)⟩)⟩
      · exact tells M k (r22 (.inr (.inl (by have := of_decide_eq_true h3; omega)))) rfl (by decide)
      · exact tells M k (r22 (.inr (.inr (by have := of_decide_eq_true h4; omega)))) rfl (by decide)
      · have h3 := not_dec h3
        have h4 := not_dec h4
        have hn : ¬ ((g = 0 ∧ c = 0) ∨ 100000 < g ∨ 100000 < c) := by omega
        obtain ⟨dp, hP⟩ := M.pot
        refine ⟨_, rfl, _, rfl, _, _, rfl, rfl, _, rfl, _, _, rfl, rfl, mul_smallL (by decide) (by decide), mk_Metal_of fun x dx nx nd => ?_⟩
        have sn := same_newI (C := Z.c_Metal) (fs := fs_Metal (.int ((g : Int) + (c : Int))) (.int (24 * (g : Int)))) nx nd
        have hX : MetalAt Z (newI H x dx Z.c_Metal (fs_Metal (.int ((g : Int) + (c : Int))) (.int (24 * (g : Int))))) x ⟨g + c, 24 * g⟩ := ⟨dx, Eq.trans newI_at (met_val (show (g : Int) + (c : Int) = ((g + c : Nat) : Int) by omega) (show 24 * (g : Int) = ((24 * g : Nat) : Int) by omega))⟩
        have M0 := M.same sn
        refine ⟨_, rfl, rd_Mint_pot T M0.obj (me_Metal_together_with (sn _ _ hP) ⟨_, rfl, ?_⟩)⟩
        refine ⟨f.mp, x, s.pot, ⟨g + c, 24 * g⟩, rfl, ⟨dp, sn _ _ hP⟩, hX, fun H1 q s1 hq => ?_⟩
        obtain ⟨dX, hX1⟩ := hX.same s1
        have sm := sn.trans s1
        have M1 := M.same sm
        obtain ⟨dq, hq⟩ := hq
        have eg : (s.pot.plus ⟨g + c, 24 * g⟩).grains = s.pot.grains + g + c := (Nat.add_assoc _ _ _).symm
        refine ⟨_, rfl, rd_Metal_grains T hq ⟨_, _, rfl, rfl, _, rfl, ite2 (fun h5 => ?_) (fun h5 => ?_)⟩⟩
        · refine tells M1 (k.same sm) (ans := [-28]) ?_ rfl (by decide)
          have h5 := of_decide_eq_true h5
          rw [eg] at h5
          unfold res Km408.act
          simp only
          rw [if_neg (by exact hn), if_pos (by show 2000000 < s.pot.grains + g + c; omega)]
          rfl
        · have h5 := not_dec h5
          rw [eg] at h5
          obtain ⟨M2, F2⟩ := M1.put (q := q) (s' := { s with pot := s.pot.plus ⟨g + c, 24 * g⟩ }) ⟨dq, hq⟩ rfl rfl rfl rfl
          refine ⟨_, rfl, _, rfl, wr_Mint_pot T M1.obj ?_⟩
          have hX2 := F2.imm _ _ hX1 ⟨dX, _, _, rfl⟩
          have hq2 := F2.imm _ _ hq ⟨dq, _, _, rfl⟩
          obtain ⟨M3, F3⟩ := M2.put (q := q) (s' := { s with pot := s.pot.plus ⟨g + c, 24 * g⟩, added := s.added.plus ⟨g + c, 24 * g⟩ }) ⟨dq, hq2⟩ rfl rfl rfl rfl
          refine ⟨_, rfl, rd_Mint_added T M2.obj ⟨_, rfl, rd_Metal_carats T hX2 ⟨_, _, rfl, rfl, _, rfl, wr_Mint_added T M2.obj ?_⟩⟩⟩
          have hq3 := F3.imm _ _ hq2 ⟨dq, _, _, rfl⟩
          refine ⟨_, rfl, rd_Metal_grains T hq3 ?_⟩
          refine tells2 M3 ((Fr.same sm).trans (Ext.refl _ _) (F2.trans (Ext.refl _ _) F3)) (Ext.refl _ _) rfl k (ans := [((s.pot.grains + g + c : Nat) : Int)]) ?_ ?_ (by show 1 ≤ 25; decide)
          · unfold res Km408.act
            simp only
            rw [if_neg (by exact hn), if_neg (by show ¬ 2000000 < s.pot.grains + g + c; omega)]
            rfl
          · rw [eg]
            rfl
/-! ### of a kind: fits, need, plan, enough -/
theorem r_nokind {s : Mint} {x : Km408.Call} {k : Nat} (h : s.kinds.length ≤ k) (hx : x = .fits k ∨ x = .need k ∨ x = .enough k ∨ x = .trial k ∨ x = .open_ k ∨ (∃ n, x = .plan k n) ∨ x = .break_ k ∨ x = .stock k ∨ x = .off k) : res x s = (s, [-2]) := by
  have e : s.kinds[k]? = none := List.getElem?_eq_none h
  rcases hx with rfl | rfl | rfl | rfl | rfl | ⟨n, rfl⟩ | rfl | rfl | rfl <;>
  · unfold res Km408.act
    simp only
    rw [e]
    rfl
def sp_tell_fits (Z : Adr) : Sp := fun vs H Q _ => ∃ (ρ : Roles) (i : Nat) (f : Fp) (s : Mint) (kd : Nat), vs = [.ref f.a, .int kd] ∧ MintAt Z ρ i H f s ∧ MG.Good s ∧ CallPost Z ρ i H f (res (.fits kd) s) Q
theorem ok_tell_fits (T : Txt K mg Z) : FnOk P w K mg base CX0 2 Z.f_tell_fits Z.d_tell_fits ["mint", "k"] (sp_tell_fits Z) := by
  refine T.F_tell_fits.ok sc_tell_fits (fun vs H Q E h => ?_) (fun cdv A outer s0 H vs Q E hr h => ?_)
  · obtain ⟨ρ, i, f, s, kd, rfl, _⟩ := h
    rfl
  · obtain ⟨ρ, i, f, s, kd, rfl, M, G, k⟩ := h
    refine ⟨_, (pss_cons (ps_if (pt_not (pt_val (pe_meth (pv 0) T.cl_Mint T.m_Mint_has_kind (ok_Mint_has_kind T) (hr.mono (by decide)) (b_Mint_has_kind T) .nil pass0 ((pa_cons (pv 1) pa_nil))))) (pss_one (ps_ret (pe_lst (pa_cons (pe_gint rfl T.k_NOT_THERE) pa_nil)))) pss_nil) (pss_one (ps_ret (pe_lst (pa_cons (pe_ifExp (pt_val (pe_meth (pe_fld (pv 0) rfl) T.cl_Metal T.m_Metal_is_as_fine_as (ok_Metal_is_as_fine_as T) (hr.mono (by decide)) (b_Metal_is_as_fine_as T) .nil pass0 ((pa_cons (pe_fld (pe_ix ix_list (pe_fld (pv 0) rfl) (pv 1) (fun _ _ => rfl)) rfl) pa_nil)))) pe_int pe_int) pa_nil))))), ?_⟩
    refine ⟨_, rfl, me_Mint_has_kind M.obj ⟨_, rfl, ρ, i, f, s, kd, rfl, M, _, rfl, ite2 (fun h1 => ?_) (fun h1 => ?_)⟩⟩
    · simp at h1
      exact tells M k (r_nokind h1 (.inl rfl)) rfl (by decide)
    · have h1 : kd < s.kinds.length := by
        simp at h1
        omega
      obtain ⟨kp, c, hk, hc, KA⟩ := M.kind h1
      have GK := MG.kind_good G hc
      obtain ⟨dp, hP⟩ := M.pot
      refine ⟨_, rfl, rd_Mint_pot T M.obj (me_Metal_is_as_fine_as hP ⟨_, rfl, rd_Mint_kinds T M.obj ⟨_, rfl, f.lk, _, _, .ref kp.a, rfl, rfl, SqL.of M.lk, atI_nat (kref_at hk), rd_Kind_fine T KA.obj ⟨f.mp, s.pot, c.fine, rfl, GK.f2, ⟨dp, hP⟩, _, rfl, ite2 (fun h2 => ?_) (fun h2 => ?_)⟩⟩⟩)⟩
      · refine tells M k (ans := [1]) ?_ rfl (by decide)
        unfold res Km408.act
        simp only
        rw [hc]
        simp only
        rw [h2]
        rfl
      · refine tells M k (ans := [0]) ?_ rfl (by decide)
        unfold res Km408.act
        simp only
        rw [hc]
        simp only
        rw [Bool.eq_false_iff.mpr h2]
        rfl
def sp_tell_need (Z : Adr) : Sp := fun vs H Q _ => ∃ (ρ : Roles) (i : Nat) (f : Fp) (s : Mint) (kd : Nat), vs = [.ref f.a, .int kd] ∧ MintAt Z ρ i H f s ∧ MG.Good s ∧ CallPost Z ρ i H f (res (.need kd) s) Q
theorem ok_tell_need (T : Txt K mg Z) : FnOk P w K mg base CX0 4 Z.f_tell_need Z.d_tell_need ["mint", "k"] (sp_tell_need Z) := by
  refine T.F_tell_need.ok sc_tell_need (fun vs H Q E h => ?_) (fun cdv A outer s0 H vs Q E hr h => ?_)
  · obtain ⟨ρ, i, f, s, kd, rfl, _⟩ := h
    rfl
  · obtain ⟨ρ, i, f, s, kd, rfl, M, G, k⟩ := h
    refine ⟨_, (pss_cons (ps_if (pt_not (pt_val (pe_meth (pv 0) T.cl_Mint T.m_Mint_has_kind (ok_Mint_has_kind T) (hr.mono (by decide)) (b_Mint_has_kind T) .nil pass0 ((pa_cons (pv 1) pa_nil))))) (pss_one (ps_ret (pe_lst (pa_cons (pe_gint rfl T.k_NOT_THERE) pa_nil)))) pss_nil) (pss_cons (ps_set (i := 2) (sc_tell_need).nd rfl (Or.inl rfl) (pe_fld (pe_ix ix_list (pe_fld (pv 0) rfl) (pv 1) (fun _ _ => rfl)) rfl)) (pss_cons (ps_set (i := 3) (sc_tell_need).nd rfl (Or.inl rfl) (pe_call (ok_find_need T) (hr.mono (by decide)) rfl T.g_find_need T.F_find_need.kp (b_find_need T) .nil pass0 ((pa_cons (pe_fld (pv 0) rfl) (pa_cons (pv 2) (pa_cons (pe_call (ok_gold_by_rest T) (hr.mono (by decide)) rfl T.g_gold_by_rest T.F_gold_by_rest.kp (b_gold_by_rest T) .nil pass0 ((pa_cons (pv 2) pa_nil))) pa_nil)))))) (pss_cons (ps_if (pt_cmpR op_isN (pv 3) pe_non (nomark _)) (pss_one (ps_ret (pe_lst (pa_cons (pe_gint rfl T.k_NOT_TO_BE_DONE) pa_nil)))) pss_nil) (pss_one (ps_ret (pe_lst (pa_cons (pe_meth0 (pv 3) T.cl_Need T.m_Need_together (ok_Need_together T) (hr.mono (by decide)) (b_Need_together T) .nil pass0 ) (pa_cons (pe_fld (pv 3) rfl) (pa_cons (pe_fld (pv 3) rfl) pa_nil)))))))))), ?_⟩
    refine ⟨_, rfl, me_Mint_has_kind M.obj ⟨_, rfl, ρ, i, f, s, kd, rfl, M, _, rfl, ite2 (fun h1 => ?_) (fun h1 => ?_)⟩⟩
    · simp at h1
      exact tells M k (r_nokind h1 (.inr (.inl rfl))) rfl (by decide)
    · have h1 : kd < s.kinds.length := by
        simp at h1
        omega
      obtain ⟨kp, c, hk, hc, KA⟩ := M.kind h1
      have GK := MG.kind_good G hc
      refine ⟨_, rfl, rd_Mint_kinds T M.obj ⟨_, rfl, f.lk, _, _, .ref kp.a, rfl, rfl, SqL.of M.lk, atI_nat (kref_at hk), rd_Kind_fine T KA.obj ?_⟩⟩
      refine ⟨_, rfl, rd_Mint_pot T M.obj ⟨_, rfl, _, rfl, c.fine, rfl, GK.f1, GK.f2, fun H1 l s1 hl => ?_⟩⟩
      refine ⟨f.mp, l, s.pot, c.fine, rfl, M.pot.same s1, GK.f1, GK.f2, SqL.of hl, fun hN => ?_, fun g q hN H2 r s2 hr2 => ?_⟩
      · refine ⟨_, rfl, rfl, _, rfl, ?_⟩
        refine tells (M.same s1) (k.same s1) (ans := [-33]) ?_ rfl (by decide)
        unfold res Km408.act
        simp only
        rw [hc]
        simp only
        rw [hN]
        rfl
      · obtain ⟨dr, hr2⟩ := hr2
        refine ⟨_, rfl, rfl, _, rfl, ?_⟩
        refine ⟨_, rfl, me_Need_together hr2 ⟨r, g, q, rfl, ⟨dr, hr2⟩, _, rfl, rd_Need_gold T hr2 ⟨_, rfl, rd_Need_copper T hr2 ?_⟩⟩⟩
        refine tells (M.same (s1.trans s2)) (k.same (s1.trans s2)) (ans := [((g + q : Nat) : Int), (g : Int), (q : Int)]) ?_ rfl (by show 3 ≤ 25; decide)
        unfold res Km408.act
        simp only
        rw [hc]
        simp only
        rw [hN]
        rfl
def sp_tell_plan (Z : Adr) : Sp := fun vs H Q _ => ∃ (ρ : Roles) (i : Nat) (f : Fp) (s : Mint) (kd n : Nat), vs = [.ref f.a, .int kd, .int n] ∧ MintAt Z ρ i H f s ∧ MG.Good s ∧ CallPost Z ρ i H f (res (.plan kd n) s) Q
theorem ok_tell_plan (T : Txt K mg Z) : FnOk P w K mg base CX0 7 Z.f_tell_plan Z.d_tell_plan ["mint", "k", "least"] (sp_tell_plan Z) := by
  refine T.F_tell_plan.ok sc_tell_plan (fun vs H Q E h => ?_) (fun cdv A outer s0 H vs Q E hr h => ?_)
  · obtain ⟨ρ, i, f, s, kd, n, rfl, _⟩ := h
    rfl
  · obtain ⟨ρ, i, f, s, kd, n, rfl, M, G, k⟩ := h
    refine ⟨_, (pss_cons (ps_if (pt_not (pt_val (pe_meth (pv 0) T.cl_Mint T.m_Mint_has_kind (ok_Mint_has_kind T) (hr.mono (by decide)) (b_Mint_has_kind T) .nil pass0 ((pa_cons (pv 1) pa_nil))))) (pss_one (ps_ret (pe_lst (pa_cons (pe_gint rfl T.k_NOT_THERE) pa_nil)))) pss_nil) (pss_cons (ps_if (pt_cmpR op_gt (pv 2) (pe_gint rfl T.k_MOST_IN_POT) (nomark _)) (pss_one (ps_ret (pe_lst (pa_cons (pe_gint rfl T.k_NOT_AS_TOLD) pa_nil)))) pss_nil) (pss_cons (ps_set (i := 3) (sc_tell_plan).nd rfl (Or.inl rfl) (pe_call (ok_find_plan T) (hr.mono (by decide)) rfl T.g_find_plan T.F_find_plan.kp (b_find_plan T) .nil pass0 ((pa_cons (pe_fld (pv 0) rfl) (pa_cons (pe_fld (pv 0) rfl) (pa_cons (pe_fld (pe_ix ix_list (pe_fld (pv 0) rfl) (pv 1) (fun _ _ => rfl)) rfl) (pa_cons (pv 2) pa_nil))))))) (pss_cons (ps_if (pt_cmpR op_isN (pv 3) pe_non (nomark _)) (pss_one (ps_ret (pe_lst (pa_cons (pe_gint rfl T.k_NOT_TO_BE_DONE) pa_nil)))) pss_nil) (pss_one (ps_ret (pe_lst (pa_cons (pe_fld (pv 3) rfl) (pa_cons (pe_fld (pe_fld (pv 3) rfl) rfl) pa_nil))))))))), ?_⟩
    refine ⟨_, rfl, me_Mint_has_kind M.obj ⟨_, rfl, ρ, i, f, s, kd, rfl, M, _, rfl, ite2 (fun h1 => ?_) (fun h1 => ?_)⟩⟩
    · simp at h1
      exact tells M k (r_nokind h1 (.inr (.inr (.inr (.inr (.inr (.inl ⟨n, rfl⟩))))))) rfl (by decide)
    · have h1 : kd < s.kinds.length := by
        simp at h1
        omega
      obtain ⟨kp, c, hk, hc, KA⟩ := M.kind h1
      have GK := MG.kind_good G hc
      refine ⟨_, rfl, _, _, rfl, rfl, _, rfl, ite2 (fun h2 => ?_) (fun h2 => ?_)⟩
      · refine tells M k (ans := [-22]) ?_ rfl (by decide)
        have h2 := of_decide_eq_true h2
        unfold res Km408.act
        simp only
        rw [hc]
        simp only
        rw [if_pos (by show 2000000 < n; omega)]
        rfl
      · have h2 := not_dec h2
        refine ⟨_, rfl, rd_Mint_pot T M.obj ⟨_, rfl, rd_Mint_lots T M.obj ⟨_, rfl, rd_Mint_kinds T M.obj ⟨_, rfl, f.lk, _, _, .ref kp.a, rfl, rfl, SqL.of M.lk, atI_nat (kref_at hk), rd_Kind_fine T KA.obj ⟨_, rfl, ?_⟩⟩⟩⟩⟩
        refine ⟨f.mp, f.ll, f.ms, s, c, n, rfl, M.pot, M.lots, fun j _ => avail_iff G j, GK.f1, GK.f2, fun H1 v s1 hB => ?_⟩
        cases e : s.plan c n with
        | none =>
          rw [e] at hB
          have hB : v = .non := hB
          subst hB
          refine ⟨_, rfl, rfl, _, rfl, ?_⟩
          refine tells (M.same s1) (k.same s1) (ans := [-33]) ?_ rfl (by decide)
          unfold res Km408.act
          simp only
          rw [hc]
          simp only
          rw [if_neg (by show ¬ 2000000 < n; omega), e]
          rfl
        | some ba =>
          obtain ⟨b, a⟩ := ba
          rw [e] at hB
          obtain ⟨p, rfl, cc, dp, hp, mp, dc, hcc, _⟩ := hB
          refine ⟨_, rfl, rfl, _, rfl, ?_⟩
          refine ⟨_, rfl, rd_Plan_added T hp ⟨_, rfl, rd_Plan_choice T hp (rd_Choice_bits T hcc ?_)⟩⟩
          refine tells (M.same s1) (k.same s1) (ans := [(a : Int), (b : Int)]) ?_ rfl (by show 2 ≤ 25; decide)
          unfold res Km408.act
          simp only
          rw [hc]
          simp only
          rw [if_neg (by show ¬ 2000000 < n; omega), e]
          rfl
def sp_tell_enough (Z : Adr) : Sp := fun vs H Q _ => ∃ (ρ : Roles) (i : Nat) (f : Fp) (s : Mint) (kd : Nat), vs = [.ref f.a, .int kd] ∧ MintAt Z ρ i H f s ∧ MG.Good s ∧ CallPost Z ρ i H f (res (.enough kd) s) Q
theorem ok_tell_enough (T : Txt K mg Z) : FnOk P w K mg base CX0 2 Z.f_tell_enough Z.d_tell_enough ["mint", "k"] (sp_tell_enough Z) := by
  refine T.F_tell_enough.ok sc_tell_enough (fun vs H Q E h => ?_) (fun cdv A outer s0 H vs Q E hr h => ?_)
  · obtain ⟨ρ, i, f, s, kd, rfl, _⟩ := h
    rfl
  · obtain ⟨ρ, i, f, s, kd, rfl, M, G, k⟩ := h
    refine ⟨_, (pss_cons (ps_if (pt_not (pt_val (pe_meth (pv 0) T.cl_Mint T.m_Mint_has_kind (ok_Mint_has_kind T) (hr.mono (by decide)) (b_Mint_has_kind T) .nil pass0 ((pa_cons (pv 1) pa_nil))))) (pss_one (ps_ret (pe_lst (pa_cons (pe_gint rfl T.k_NOT_THERE) pa_nil)))) pss_nil) (pss_one (ps_ret (pe_lst (pa_cons (pe_op op_fdiv (pe_fld (pe_fld (pv 0) rfl) rfl) (pe_fld (pe_ix ix_list (pe_fld (pv 0) rfl) (pv 1) (fun _ _ => rfl)) rfl)) pa_nil))))), ?_⟩
    refine ⟨_, rfl, me_Mint_has_kind M.obj ⟨_, rfl, ρ, i, f, s, kd, rfl, M, _, rfl, ite2 (fun h1 => ?_) (fun h1 => ?_)⟩⟩
    · simp at h1
      exact tells M k (r_nokind h1 (.inr (.inr (.inl rfl)))) rfl (by decide)
    · have h1 : kd < s.kinds.length := by
        simp at h1
        omega
      obtain ⟨kp, c, hk, hc, KA⟩ := M.kind h1
      have GK := MG.kind_good G hc
      have g1 := GK.g1
      have g2 := GK.g2
      obtain ⟨dp, hP⟩ := M.pot
      refine ⟨_, rfl, rd_Mint_pot T M.obj (rd_Metal_grains T hP ⟨_, rfl, rd_Mint_kinds T M.obj ⟨_, rfl, f.lk, _, _, .ref kp.a, rfl, rfl, SqL.of M.lk, atI_nat (kref_at hk), rd_Kind_grains T KA.obj ⟨_, _, rfl, rfl, ⟨by omega, by omega⟩, ?_⟩⟩⟩)⟩
      refine tells M k (ans := [((s.pot.grains / c.grains : Nat) : Int)]) ?_ ?_ (by show 1 ≤ 25; decide)
      · unfold res Km408.act
        simp only
        rw [hc]
        rfl
      · show [V.int _] = [V.int _]
        rw [Int.natCast_ediv]
end
end Mi


set_option Elab.async false
set_option linter.all false
set_option maxRecDepth 100000
set_option maxHeartbeats 4000000
namespace Mi
open PySem PySem.Spec PyProof.Rows L2
open Km408 (Metal Mint ones)
open MP (picks avail mix lotAt)
/-! ### sums and differences -/
theorem nv_ints (l : List Nat) : nv l = (l.map fun (x : Nat) => (x : Int)).map V.int := by
  unfold nv
  rw [List.map_map]
  rfl
theorem sum_foldl : ∀ (l : List Nat) (a : Nat), l.foldl (· + ·) a = a + l.foldl (· + ·) 0
  | [], a => rfl
  | x :: l, a => by
    rw [List.foldl_cons, List.foldl_cons, sum_foldl l (a + x), sum_foldl l (0 + x)]
    omega
theorem sum_cast : ∀ l : List Nat, (l.map fun (x : Nat) => (x : Int)).sum = ((Km408.sum l : Nat) : Int)
  | [] => rfl
  | x :: l => by
    unfold Km408.sum
    rw [List.map_cons, List.sum_cons, sum_cast l, List.foldl_cons, sum_foldl l (0 + x)]
    unfold Km408.sum
    omega
theorem abs_diff (a b : Nat) : (if ((a : Int) - (b : Int)) < 0 then -((a : Int) - (b : Int)) else (a : Int) - (b : Int)) = ((Km408.absDiff a b : Nat) : Int) := by
  unfold Km408.absDiff
  by_cases h : a ≤ b
  · rw [if_pos h]
    split <;> omega
  · rw [if_neg h]
    split <;> omega
section
variable {P : Program} {w : World} {K : PySem.W.Frag} {mg : Str → Option Value} {base : Heap} {Z : Adr}
section
variable {ρ ρ' : Roles} {i : Nat} {H H1 : Hp} {f : Fp} {s : Mint}
theorem MintAt.reRole (h : MintAt Z ρ i H f s) (e : Ext H ρ ρ') : MintAt Z ρ' i H f s := h.keep (fun b o q _ => ⟨q, e b o q⟩) fun _ _ q _ => q
theorem set_same {α : Type} {l : List α} {j : Nat} {x : α} (h : l[j]? = some x) : l.set j x = l := by
  apply List.ext_getElem?
  intro n
  by_cases e : j = n
  · subst e
    rw [List.getElem?_set_self (List.getElem?_eq_some_iff.mp h).1, h]
  · rw [List.getElem?_set_ne e]
/-- a store into a kind's own attributes: how many were struck -/
theorem MintAt.kObj (h : MintAt Z ρ i H f s) {j : Nat} {k : KP} {kd : Km408.Kind} (hk : f.ks[j]? = some k) (hd : s.kinds[j]? = some kd) (n : Nat) :
    MintAt Z ρ i (upd H k.a (.ins Z.c_Kind k.dx (fs_Kind (.int kd.grains) (.int kd.fine) (.int kd.remedy) (.int n) (.ref k.st) (.ref k.bx)))) f { s with kinds := s.kinds.set j { kd with struck := n } } ∧
    Fr Z ρ i H (upd H k.a (.ins Z.c_Kind k.dx (fs_Kind (.int kd.grains) (.int kd.fine) (.int kd.remedy) (.int n) (.ref k.st) (.ref k.bx)))) := by
  have KA := h.kat j k kd hk hd
  have F : Fr Z ρ i H (upd H k.a (.ins Z.c_Kind k.dx (fs_Kind (.int kd.grains) (.int kd.fine) (.int kd.remedy) (.int n) (.ref k.st) (.ref k.bx)))) := Fr.upd KA.obj kind_imm (by rw [KA.ra]; rfl)
  have R := h.kindTo (ρ' := ρ) (H' := upd H k.a (.ins Z.c_Kind k.dx (fs_Kind (.int kd.grains) (.int kd.fine) (.int kd.remedy) (.int n) (.ref k.st) (.ref k.bx)))) (k' := k) (kd' := { kd with struck := n }) hk rfl
    ⟨upd_same, KA.ra, by rw [upd_ne (role_ne KA.rs KA.ra (by intro z; cases z))]; exact KA.st, KA.rs, by rw [upd_ne (role_ne KA.rb KA.ra (by intro z; cases z))]; exact KA.bx, KA.rb⟩
    (fun b o q _ r1 _ _ => ⟨by rw [upd_ne (fun e => r1 (by rw [e]; exact KA.ra))]; exact q, rfl⟩) F.imm
  rw [set_same hk] at R
  exact ⟨R, F⟩
/-- a kind's stock becomes another -/
theorem MintAt.kStock (h : MintAt Z ρ i H f s) {j : Nat} {k : KP} {kd : Km408.Kind} (hk : f.ks[j]? = some k) (hd : s.kinds[j]? = some kd) (l : List Nat) :
    MintAt Z ρ i (upd H k.st (.lst (nv l))) f { s with kinds := s.kinds.set j { kd with stock := l } } ∧ Fr Z ρ i H (upd H k.st (.lst (nv l))) := by
  have KA := h.kat j k kd hk hd
  have F : Fr Z ρ i H (upd H k.st (.lst (nv l))) := Fr.upd KA.st lst_imm (by rw [KA.rs]; rfl)
  have R := h.kindTo (ρ' := ρ) (H' := upd H k.st (.lst (nv l))) (k' := k) (kd' := { kd with stock := l }) hk rfl
    ⟨by rw [upd_ne (role_ne KA.ra KA.rs (by intro z; cases z))]; exact KA.obj, KA.ra, upd_same, KA.rs, by rw [upd_ne (role_ne KA.rb KA.rs (by intro z; cases z))]; exact KA.bx, KA.rb⟩
    (fun b o q _ _ r1 _ => ⟨by rw [upd_ne (fun e => r1 (by rw [e]; exact KA.rs))]; exact q, rfl⟩) F.imm
  rw [set_same hk] at R
  exact ⟨R, F⟩
theorem MintAt.kBox (h : MintAt Z ρ i H f s) {j : Nat} {k : KP} {kd : Km408.Kind} (hk : f.ks[j]? = some k) (hd : s.kinds[j]? = some kd) (l : List Nat) :
    MintAt Z ρ i (upd H k.bx (.lst (nv l))) f { s with kinds := s.kinds.set j { kd with box := l } } ∧ Fr Z ρ i H (upd H k.bx (.lst (nv l))) := by
  have KA := h.kat j k kd hk hd
  have F : Fr Z ρ i H (upd H k.bx (.lst (nv l))) := Fr.upd KA.bx lst_imm (by rw [KA.rb]; rfl)
  have R := h.kindTo (ρ' := ρ) (H' := upd H k.bx (.lst (nv l))) (k' := k) (kd' := { kd with box := l }) hk rfl
    ⟨by rw [upd_ne (role_ne KA.ra KA.rb (by intro z; cases z))]; exact KA.obj, KA.ra, by rw [upd_ne (role_ne KA.rs KA.rb (by intro z; cases z))]; exact KA.st, KA.rs, upd_same, KA.rb⟩
    (fun b o q _ _ _ r1 => ⟨by rw [upd_ne (fun e => r1 (by rw [e]; exact KA.rb))]; exact q, rfl⟩) F.imm
  rw [set_same hk] at R
  exact ⟨R, F⟩
/-- a kind's box becomes a new, empty one -/
theorem MintAt.kNewBox (h : MintAt Z ρ i H f s) {j : Nat} {k : KP} {kd : Km408.Kind} {l : Addr} (hk : f.ks[j]? = some k) (hd : s.kinds[j]? = some kd) (hl : H l = none) :
    MintAt Z (setR ρ l (.box i j)) i (upd (upd H l (.lst [])) k.a (.ins Z.c_Kind k.dx (fs_Kind (.int kd.grains) (.int kd.fine) (.int kd.remedy) (.int kd.struck) (.ref k.st) (.ref l)))) { f with ks := f.ks.set j { k with bx := l } } { s with kinds := s.kinds.set j { kd with box := [] } } ∧
    Fr Z ρ i H (upd (upd H l (.lst [])) k.a (.ins Z.c_Kind k.dx (fs_Kind (.int kd.grains) (.int kd.fine) (.int kd.remedy) (.int kd.struck) (.ref k.st) (.ref l)))) ∧ Ext H ρ (setR ρ l (.box i j)) := by
  have KA := h.kat j k kd hk hd
  have sn : Same H (upd H l (.lst [])) := Same.new hl
  have F : Fr Z ρ i H (upd (upd H l (.lst [])) k.a (.ins Z.c_Kind k.dx (fs_Kind (.int kd.grains) (.int kd.fine) (.int kd.remedy) (.int kd.struck) (.ref k.st) (.ref l)))) := (Fr.same sn).trans (Ext.refl _ _) (Fr.upd (sn _ _ KA.obj) kind_imm (by rw [KA.ra]; rfl))
  have nla : l ≠ k.a := fun e => by
    have := KA.obj
    rw [← e, hl] at this
    cases this
  have ro : ∀ {b o}, H b = some o → setR ρ l (.box i j) b = ρ b := fun q => setR_ne (ne_of_none q hl)
  refine ⟨h.kindTo (k' := { k with bx := l }) hk rfl ⟨upd_same, (ro KA.obj).trans KA.ra, ?_, (ro KA.st).trans KA.rs, ?_, setR_same⟩ (fun b o q _ r1 _ _ => ⟨?_, ro q⟩) F.imm, F, fun b o q => ro q⟩
  · rw [upd_ne (role_ne KA.rs KA.ra (by intro z; cases z))]
    exact sn _ _ KA.st
  · rw [upd_ne nla, upd_same]
    rfl
  · rw [upd_ne (fun e => r1 (by rw [e]; exact KA.ra))]
    exact sn _ _ q
end
/-! ### the box -/
def sp_box_passes (Z : Adr) : Sp := fun vs H Q _ => ∃ (ρ : Roles) (i j : Nat) (k : KP) (kd : Km408.Kind), vs = [.ref k.a] ∧ KindAt Z ρ i j H k kd ∧ MG.GoodK kd ∧ Q (.bl kd.passes) H
theorem ok_box_passes (T : Txt K mg Z) : FnOk P w K mg base CX0 1 Z.f_box_passes Z.d_box_passes ["kind"] (sp_box_passes Z) := by
  refine T.F_box_passes.ok sc_box_passes (fun vs H Q E h => ?_) (fun cdv A outer s H vs Q E hr h => ?_)
  · obtain ⟨ρ, i, j, k, kd, rfl, _⟩ := h
    rfl
  · obtain ⟨ρ, i, j, kp, kd, rfl, KA, G, k⟩ := h
    refine ⟨_, (pss_cons (ps_set (i := 1) (sc_box_passes).nd rfl (Or.inl rfl) (pe_callB call_len_seq (by rfl) T.n_len PySem.boot_len (pa_cons (pe_fld (pv 0) rfl) pa_nil))) (pss_cons (ps_set (i := 2) (sc_box_passes).nd rfl (Or.inl rfl) (pe_callB call_abs (by rfl) T.n_abs boot_abs (pa_cons (pe_op op_sub (pe_callB (cr_sum rfl) (by rfl) T.n_sum boot_sum (pa_cons (pe_fld (pv 0) rfl) pa_nil)) (pe_op op_mul (pv 1) (pe_fld (pv 0) rfl))) pa_nil))) (pss_one (ps_ret (pe_cmpR op_le (pe_op op_mul pe_int (pv 2)) (pe_op op_mul (pv 1) (pe_fld (pv 0) rfl)) (nomark _)))))), ?_⟩
    have g2 := G.g2
    have gr := G.r
    refine ⟨_, rfl, rd_Kind_box T KA.obj ⟨kp.bx, _, rfl, .inl (SqL.of KA.bx), ?_⟩⟩
    rw [nv_len]
    refine ⟨_, rfl, rd_Kind_box T KA.obj ⟨kp.bx, _, rfl, (by rw [← nv_ints]; exact SqL.of KA.bx), ?_⟩⟩
    rw [sum_cast]
    refine ⟨_, rfl, _, rfl, rd_Kind_grains T KA.obj ⟨_, _, rfl, rfl, mul_small rfl (by omega), _, _, rfl, rfl, _, rfl, ?_⟩⟩
    dsimp only
    rw [← Int.natCast_mul, abs_diff]
    refine ⟨_, rfl, _, _, rfl, rfl, mul_smallL (by decide) (by decide), _, rfl, _, rfl, rd_Kind_remedy T KA.obj ⟨_, _, rfl, rfl, mul_small rfl (by omega), _, _, rfl, rfl, ?_⟩⟩
    have e : kd.passes = decide ((2 : Int) * ((Km408.absDiff (Km408.sum kd.box) (kd.box.length * kd.grains) : Nat) : Int) ≤ ((kd.box.length : Nat) : Int) * ((kd.remedy : Nat) : Int)) := by
      unfold Km408.Kind.passes
      rw [decide_eq_decide, ← Int.natCast_mul]
      omega
    rw [e] at k
    exact k
def sp_try_box (Z : Adr) : Sp := fun vs H Q _ => ∃ (ρ : Roles) (i : Nat) (f : Fp) (s : Mint) (kd : Nat), vs = [.ref f.a, .int kd] ∧ MintAt Z ρ i H f s ∧ MG.Good s ∧ CallPost Z ρ i H f (res (.trial kd) s) Q
theorem len_zero {α : Type} {l : List α} : l.length = 0 ↔ l = [] := List.length_eq_zero_iff
theorem ok_try_box (T : Txt K mg Z) : FnOk P w K mg base CX0 2 Z.f_try_box Z.d_try_box ["mint", "k"] (sp_try_box Z) := by
  refine T.F_try_box.ok sc_try_box (fun vs H Q E h => ?_) (fun cdv A outer s0 H vs Q E hr h => ?_)
  · obtain ⟨ρ, i, f, s, kd, rfl, _⟩ := h
    rfl
  · obtain ⟨ρ, i, f, s, kd, rfl, M, G, k⟩ := h
    refine ⟨_, (pss_cons (ps_if (pt_not (pt_val (pe_meth (pv 0) T.cl_Mint T.m_Mint_has_kind (ok_Mint_has_kind T) (hr.mono (by decide)) (b_Mint_has_kind T) .nil pass0 ((pa_cons (pv 1) pa_nil))))) (pss_one (ps_ret (pe_lst (pa_cons (pe_gint rfl T.k_NOT_THERE) pa_nil)))) pss_nil) (pss_cons (ps_set (i := 2) (sc_try_box).nd rfl (Or.inl rfl) (pe_ix ix_list (pe_fld (pv 0) rfl) (pv 1) (fun _ _ => rfl))) (pss_cons (ps_if (pt_cmpR op_eq (pe_callB call_len_seq (by rfl) T.n_len PySem.boot_len (pa_cons (pe_fld (pv 2) rfl) pa_nil)) pe_int (nomark _)) (pss_one (ps_ret (pe_lst (pa_cons (pe_gint rfl T.k_BOX_EMPTY) pa_nil)))) pss_nil) (pss_one (ps_ret (pe_lst (pa_cons (pe_ifExp (pt_val (pe_call (ok_box_passes T) (hr.mono (by decide)) rfl T.g_box_passes T.F_box_passes.kp (b_box_passes T) .nil pass0 ((pa_cons (pv 2) pa_nil)))) pe_int pe_int) (pa_cons (pe_callB call_len_seq (by rfl) T.n_len PySem.boot_len (pa_cons (pe_fld (pv 2) rfl) pa_nil)) (pa_cons (pe_callB (cr_sum rfl) (by rfl) T.n_sum boot_sum (pa_cons (pe_fld (pv 2) rfl) pa_nil)) pa_nil))))))))), ?_⟩
    refine ⟨_, rfl, me_Mint_has_kind M.obj ⟨_, rfl, ρ, i, f, s, kd, rfl, M, _, rfl, ite2 (fun h1 => ?_) (fun h1 => ?_)⟩⟩
    · simp at h1
      exact tells M k (r_nokind h1 (.inr (.inr (.inr (.inl rfl))))) rfl (by decide)
    · have h1 : kd < s.kinds.length := by
        simp at h1
        omega
      obtain ⟨kp, c, hk, hc, KA⟩ := M.kind h1
      have GK := MG.kind_good G hc
      refine ⟨_, rfl, rd_Mint_kinds T M.obj ⟨_, rfl, f.lk, _, _, .ref kp.a, rfl, rfl, SqL.of M.lk, atI_nat (kref_at hk), ?_⟩⟩
      refine ⟨_, rfl, rd_Kind_box T KA.obj ⟨kp.bx, _, rfl, .inl (SqL.of KA.bx), rfl, _, rfl, ite2 (fun h2 => ?_) (fun h2 => ?_)⟩⟩
      · refine tells M k (ans := [-6]) ?_ rfl (by decide)
        have h2 := (int_lit (n := 0) rfl).mp (of_decide_eq_true h2)
        rw [nv_len, len_zero] at h2
        unfold res Km408.act
        simp only
        rw [hc]
        simp only
        rw [if_pos (by exact h2)]
        rfl
      · have h2 : ¬ c.box = [] := fun e => h2 (decide_eq_true ((int_lit (n := 0) rfl).mpr (by rw [nv_len, e]; rfl)))
        have rr : ∀ b : Bool, c.passes = b → res (.trial kd) s = (s, [((Km408.bit b : Nat) : Int), ((c.box.length : Nat) : Int), ((Km408.sum c.box : Nat) : Int)]) := fun b hb => by
          unfold res Km408.act
          simp only
          rw [hc]
          simp only
          rw [if_neg (by exact h2), hb]
          rfl
        refine ⟨_, rfl, ρ, i, kd, kp, c, rfl, KA, GK, _, rfl, ite2 (fun h3 => ?_) (fun h3 => ?_)⟩
        · refine ⟨_, rfl, rd_Kind_box T KA.obj ⟨kp.bx, _, rfl, .inl (SqL.of KA.bx), _, rfl, rd_Kind_box T KA.obj ⟨kp.bx, _, rfl, (by rw [← nv_ints]; exact SqL.of KA.bx), ?_⟩⟩⟩
          rw [sum_cast, nv_len]
          exact tells M k (rr true h3) rfl (by show 3 ≤ 25; decide)
        · refine ⟨_, rfl, rd_Kind_box T KA.obj ⟨kp.bx, _, rfl, .inl (SqL.of KA.bx), _, rfl, rd_Kind_box T KA.obj ⟨kp.bx, _, rfl, (by rw [← nv_ints]; exact SqL.of KA.bx), ?_⟩⟩⟩
          rw [sum_cast, nv_len]
          exact tells M k (rr false (Bool.eq_false_iff.mpr h3)) rfl (by show 3 ≤ 25; decide)
def sp_put_box_in_stock (Z : Adr) : Sp := fun vs H Q _ => ∃ (ρ : Roles) (i : Nat) (f : Fp) (s : Mint) (kd : Nat), vs = [.ref f.a, .int kd] ∧ MintAt Z ρ i H f s ∧ MG.Good s ∧ CallPost Z ρ i H f (res (.open_ kd) s) Q
theorem ok_put_box_in_stock (T : Txt K mg Z) : FnOk P w K mg base CX0 2 Z.f_put_box_in_stock Z.d_put_box_in_stock ["mint", "k"] (sp_put_box_in_stock Z) := by
  refine T.F_put_box_in_stock.ok sc_put_box_in_stock (fun vs H Q E h => ?_) (fun cdv A outer s0 H vs Q E hr h => ?_)
  · obtain ⟨ρ, i, f, s, kd, rfl, _⟩ := h
    rfl
  · obtain ⟨ρ, i, f, s, kd, rfl, M, G, k⟩ := h
    refine ⟨_, (pss_cons (ps_if (pt_not (pt_val (pe_meth (pv 0) T.cl_Mint T.m_Mint_has_kind (ok_Mint_has_kind T) (hr.mono (by decide)) (b_Mint_has_kind T) .nil pass0 ((pa_cons (pv 1) pa_nil))))) (pss_one (ps_ret (pe_lst (pa_cons (pe_gint rfl T.k_NOT_THERE) pa_nil)))) pss_nil) (pss_cons (ps_set (i := 2) (sc_put_box_in_stock).nd rfl (Or.inl rfl) (pe_ix ix_list (pe_fld (pv 0) rfl) (pv 1) (fun _ _ => rfl))) (pss_cons (ps_if (pt_cmpR op_eq (pe_callB call_len_seq (by rfl) T.n_len PySem.boot_len (pa_cons (pe_fld (pv 2) rfl) pa_nil)) pe_int (nomark _)) (pss_one (ps_ret (pe_lst (pa_cons (pe_gint rfl T.k_BOX_EMPTY) pa_nil)))) pss_nil) (pss_cons (ps_if (pt_not (pt_val (pe_call (ok_box_passes T) (hr.mono (by decide)) rfl T.g_box_passes T.F_box_passes.kp (b_box_passes T) .nil pass0 ((pa_cons (pv 2) pa_nil))))) (pss_one (ps_ret (pe_lst (pa_cons (pe_gint rfl T.k_NOT_TO_BE_DONE) pa_nil)))) pss_nil) (pss_cons (ps_set (i := 3) (sc_put_box_in_stock).nd rfl (Or.inl rfl) (pe_callB call_len_seq (by rfl) T.n_len PySem.boot_len (pa_cons (pe_fld (pv 2) rfl) pa_nil))) (pss_cons (ps_expr (pe_bm PySem.F.plainAttrs_list PySem.F.slot_list_extend PySem.F.type_list_extend mt_extend (pe_fld (pv 2) rfl) (pa_cons (pe_fld (pv 2) rfl) pa_nil))) (pss_cons (ps_fld (pv 2) (pe_lst pa_nil) rfl) (pss_one (ps_ret (pe_lst (pa_cons (pv 3) pa_nil))))))))))), ?_⟩
    refine ⟨_, rfl, me_Mint_has_kind M.obj ⟨_, rfl, ρ, i, f, s, kd, rfl, M, _, rfl, ite2 (fun h1 => ?_) (fun h1 => ?_)⟩⟩
    · simp at h1
      exact tells M k (r_nokind h1 (.inr (.inr (.inr (.inr (.inl rfl)))))) rfl (by decide)
    · have h1 : kd < s.kinds.length := by
        simp at h1
        omega
      obtain ⟨kp, c, hk, hc, KA⟩ := M.kind h1
      have GK := MG.kind_good G hc
      refine ⟨_, rfl, rd_Mint_kinds T M.obj ⟨_, rfl, f.lk, _, _, .ref kp.a, rfl, rfl, SqL.of M.lk, atI_nat (kref_at hk), ?_⟩⟩
      refine ⟨_, rfl, rd_Kind_box T KA.obj ⟨kp.bx, _, rfl, .inl (SqL.of KA.bx), rfl, _, rfl, ite2 (fun h2 => ?_) (fun h2 => ?_)⟩⟩
      · refine tells M k (ans := [-6]) ?_ rfl (by decide)
        have h2 := (int_lit (n := 0) rfl).mp (of_decide_eq_true h2)
        rw [nv_len, len_zero] at h2
        unfold res Km408.act
        simp only
        rw [hc]
        simp only
        rw [if_pos (by exact h2)]
        rfl
      · have h2 : ¬ c.box = [] := fun e => h2 (decide_eq_true ((int_lit (n := 0) rfl).mpr (by rw [nv_len, e]; rfl)))
        refine ⟨_, rfl, ρ, i, kd, kp, c, rfl, KA, GK, _, rfl, ite2 (fun h3 => ?_) (fun h3 => ?_)⟩
        · refine tells M k (ans := [-33]) ?_ rfl (by decide)
          unfold res Km408.act
          simp only
          rw [hc]
          simp only
          rw [if_neg (by exact h2), if_pos (by simpa using h3)]
          rfl
        · have h3 : ¬ c.passes = false := by simpa using h3
          have hn := GK.n
          refine ⟨_, rfl, rd_Kind_box T KA.obj ⟨kp.bx, _, rfl, .inl (SqL.of KA.bx), ?_⟩⟩
          obtain ⟨M1, F1⟩ := M.kStock hk hc (c.stock ++ c.box)
          have hc1 : (s.kinds.set kd { c with stock := c.stock ++ c.box })[kd]? = some { c with stock := c.stock ++ c.box } := List.getElem?_set_self h1
          have KA1 := M1.kat kd kp _ hk hc1
          have es : nv c.stock ++ nv c.box = nv (c.stock ++ c.box) := (List.map_append).symm
          refine ⟨_, rfl, rd_Kind_stock T KA.obj ⟨.inl ⟨rfl, _, SqL.of KA.st⟩, _, rfl, rd_Kind_box T KA.obj ⟨kp.st, kp.bx, _, _, rfl, rfl, KA.st, KA.bx, (by rw [nv_len, nv_len]; exact Nat.le_trans hn (by decide)), ?_⟩⟩⟩
          rw [es]
          refine ⟨Nat.zero_le _, fun l hl => ⟨_, rfl, wr_Kind_box T (Same.new hl _ _ KA1.obj) ?_⟩⟩
          obtain ⟨M2, F2, E2⟩ := M1.kNewBox hk hc1 hl
          refine ⟨_, rfl, ?_⟩
          rw [nv_len]
          refine tells2 M2 (F1.trans (Ext.refl _ _) F2) (fun b o q => ?_) rfl k (ans := [((c.box.length : Nat) : Int)]) ?_ rfl (by show 1 ≤ 25; decide)
          · obtain ⟨o', q'⟩ := F1.some_ b o q
            exact E2 b o' q'
          · unfold res Km408.act
            simp only
            rw [hc]
            simp only
            rw [if_neg (by exact h2), if_neg (by exact h3), List.set_set]
            rfl
end
end Mi


set_option Elab.async false
set_option linter.all false
set_option maxRecDepth 100000
set_option maxHeartbeats 4000000
namespace Mi
open PySem PySem.Spec PyProof.Rows L2
open Km408 (Metal Mint ones)
open MP (picks avail mix lotAt)
/-- it can be struck -/
def canB (kd : Km408.Kind) (de : Km408.Die) (g w : Nat) : Bool := decide (¬ (Km408.within kd w = false ∨ de.left = 0 ∨ g < w ∨ 60 ≤ kd.stock.length + kd.box.length))
theorem take_cut (xs : List V) (n : Nat) : cutV xs none (some (n : Int)) = xs.take n := by
  unfold cutV
  rw [HT.sIx_none, HT.sIx_nat, List.drop_zero, Nat.sub_zero]
  by_cases h : n ≤ xs.length
  · rw [Nat.min_eq_left h]
  · rw [Nat.min_eq_right (by omega), List.take_length, List.take_of_length_le (by omega)]
section
variable {P : Program} {w : World} {K : PySem.W.Frag} {mg : Str → Option Value} {base : Heap} {Z : Adr}
def sp_can_be_struck (Z : Adr) : Sp := fun vs H Q _ => ∃ (ρ : Roles) (i j d : Nat) (q e : Addr) (m : Metal) (kp : KP) (kd : Km408.Kind) (de : Km408.Die) (w : Nat), vs = [.ref q, .ref kp.a, .ref e, .int w] ∧ MetalAt Z H q m ∧ KindAt Z ρ i j H kp kd ∧ DieAt Z ρ i d H e de ∧ Q (.bl (canB kd de m.grains w)) H
theorem ok_can_be_struck (T : Txt K mg Z) : FnOk P w K mg base CX0 1 Z.f_can_be_struck Z.d_can_be_struck ["pot", "kind", "die", "weight"] (sp_can_be_struck Z) := by
  refine T.F_can_be_struck.ok sc_can_be_struck (fun vs H Q E h => ?_) (fun cdv A outer s H vs Q E hr h => ?_)
  · obtain ⟨ρ, i, j, d, q, e, m, kp, kd, de, w, rfl, _⟩ := h
    rfl
  · obtain ⟨ρ, i, j, d, q, e, m, kp, kd, de, w, rfl, ⟨dq, hq⟩, KA, ⟨⟨dd, hd⟩, _⟩, k⟩ := h
    refine ⟨_, (pss_cons (ps_if (pt_cmpR op_gt (pe_callB call_abs (by rfl) T.n_abs boot_abs (pa_cons (pe_op op_sub (pv 3) (pe_fld (pv 1) rfl)) pa_nil)) (pe_fld (pv 1) rfl) (nomark _)) (pss_one (ps_ret pe_bl)) pss_nil) (pss_cons (ps_if (PW.pt (pw_or (pt_cmpR op_eq (pe_fld (pv 2) rfl) pe_int (nomark _)) (pw_or1 (pt_cmpR op_lt (pe_fld (pv 0) rfl) (pv 3) (nomark _))))) (pss_one (ps_ret pe_bl)) pss_nil) (pss_one (ps_ret (pe_cmpR op_lt (pe_op op_add (pe_callB call_len_seq (by rfl) T.n_len PySem.boot_len (pa_cons (pe_fld (pv 1) rfl) pa_nil)) (pe_callB call_len_seq (by rfl) T.n_len PySem.boot_len (pa_cons (pe_fld (pv 1) rfl) pa_nil))) (pe_gint rfl T.k_MOST_COINS_OF_KIND) (nomark _)))))), ?_⟩
    unfold canB at k
    refine ⟨_, rfl, _, rfl, rd_Kind_grains T KA.obj ⟨_, _, rfl, rfl, _, rfl, ?_⟩⟩
    dsimp only
    rw [abs_diff]
    have hw : Km408.within kd w = decide (Km408.absDiff w kd.grains ≤ kd.remedy) := rfl
    refine ⟨_, rfl, rd_Kind_remedy T KA.obj ⟨_, _, rfl, rfl, _, rfl, ite2 (fun h1 => bl_f k ?_) (fun h1 => ?_)⟩⟩
    · have h1 := of_decide_eq_true h1
      have : Km408.within kd w = false := by
        rw [hw, decide_eq_false (by omega)]
      exact fun z => z (.inl this)
    · have h1 := not_dec h1
      have h1 : ¬ Km408.within kd w = false := by
        rw [hw, decide_eq_true (by omega)]
        decide
      refine ⟨_, rfl, rd_Die_left T hd ⟨rfl, _, rfl, ite2 (fun h2 => iteT (bl_f k ?_)) (fun h2 => ⟨_, rfl, rd_Metal_grains T hq ⟨_, rfl, _, _, rfl, rfl, _, rfl, ite2 (fun h3 => bl_f k ?_) (fun h3 => ?_)⟩⟩)⟩⟩
      · have h2 := (int_lit (n := 0) rfl).mp (of_decide_eq_true h2)
        exact fun z => z (.inr (.inl h2))
      · have h3 := of_decide_eq_true h3
        exact fun z => z (.inr (.inr (.inl (by omega))))
      · have h2 : ¬ de.left = 0 := fun e => h2 (decide_eq_true ((int_lit (n := 0) rfl).mpr e))
        have h3 := not_dec h3
        refine ⟨_, rfl, rd_Kind_stock T KA.obj ⟨kp.st, _, rfl, .inl (SqL.of KA.st), _, rfl, rd_Kind_box T KA.obj ⟨kp.bx, _, rfl, .inl (SqL.of KA.bx), _, _, rfl, rfl, _, _, rfl, rfl, bl_iff k ?_⟩⟩⟩
        rw [nv_len, nv_len]
        constructor
        · rintro z (y | y | y | y)
          · exact h1 y
          · exact h2 y
          · omega
          · omega
        · intro z
          have : ¬ 60 ≤ kd.stock.length + kd.box.length := fun y => z (.inr (.inr (.inr y)))
          omega
/-- a coin, once more -/
def coin (kd : Km408.Kind) (w : Nat) : Km408.Kind := if (kd.struck + 1) % 10 = 0 then { kd with box := kd.box ++ [w], struck := kd.struck + 1 } else { kd with stock := kd.stock ++ [w], struck := kd.struck + 1 }
def struckM (s : Mint) (k d w : Nat) (kd : Km408.Kind) (de : Km408.Die) : Mint := { s with kinds := s.kinds.set k (coin kd w), dies := s.dies.set d { de with left := de.left - 1 }, pot := ⟨s.pot.grains - w, s.pot.carats - kd.fine * w⟩ }
theorem blank_can {s : Mint} {k d w : Nat} {kd : Km408.Kind} {de : Km408.Die} (h1 : s.kinds[k]? = some kd) (h2 : s.dies[d]? = some de) : s.blank k d w = if canB kd de s.pot.grains w = true then struckM s k d w kd de else s := by
  unfold Mint.blank canB
  rw [h1, h2]
  simp only
  by_cases h : Km408.within kd w = false ∨ de.left = 0 ∨ s.pot.grains < w ∨ 60 ≤ kd.stock.length + kd.box.length
  · rw [if_pos (by exact h), if_neg (by rw [decide_eq_true_eq]; exact fun z => z h)]
  · rw [if_neg (by exact h), if_pos (decide_eq_true h)]
    rfl
def sp_strike_blank (Z : Adr) : Sp := fun vs H Q _ => ∃ (ρ : Roles) (i : Nat) (f : Fp) (s : Mint) (k d w : Nat) (kp : KP) (e : Addr) (kd : Km408.Kind) (de : Km408.Die), vs = [.ref f.a, .ref kp.a, .ref e, .int w] ∧ MintAt Z ρ i H f s ∧ f.ks[k]? = some kp ∧ s.kinds[k]? = some kd ∧ f.es[d]? = some e ∧ s.dies[d]? = some de ∧
  kd.fine ≤ 24 ∧ w ≤ s.pot.grains ∧ s.pot.carats = kd.fine * s.pot.grains ∧ ¬ de.left = 0 ∧ kd.stock.length + kd.box.length ≤ 60 ∧ ∀ (H' : Hp) (f' : Fp), MintAt Z ρ i H' f' (struckM s k d w kd de) → Fr Z ρ i H H' → f'.a = f.a → f'.ks = f.ks → f'.es = f.es → Q .non H'
theorem ok_strike_blank (T : Txt K mg Z) : FnOk P w K mg base CX0 4 Z.f_strike_blank Z.d_strike_blank ["mint", "kind", "die", "weight"] (sp_strike_blank Z) := by
  refine T.F_strike_blank.ok sc_strike_blank (fun vs H Q E h => ?_) (fun cdv A outer s0 H vs Q E hr h => ?_)
  · obtain ⟨ρ, i, f, s, k, d, w, kp, e, kd, de, rfl, _⟩ := h
    rfl
  · obtain ⟨ρ, i, f, s, j, d, w, kp, e, kd, de, rfl, M, hk, hc, he, hd, f2, hw, hfit, hl, hn, k⟩ := h
    refine ⟨_, (pss_cons (ps_fld (pv 0) (pe_meth (pe_fld (pv 0) rfl) T.cl_Metal T.m_Metal_less (ok_Metal_less T) (hr.mono (by decide)) (b_Metal_less T) .nil pass0 ((pa_cons (pe_meth (pv 1) T.cl_Kind T.m_Kind_metal_of (ok_Kind_metal_of T) (hr.mono (by decide)) (b_Kind_metal_of T) .nil pass0 ((pa_cons (pv 3) pa_nil))) pa_nil))) rfl) (pss_cons (ps_fld (pv 2) (pe_op op_sub (pe_fld (pv 2) rfl) pe_int) rfl) (pss_cons (ps_fld (pv 1) (pe_op op_add (pe_fld (pv 1) rfl) pe_int) rfl) (pss_one (ps_if (pt_cmpR op_eq (pe_op op_mod (pe_fld (pv 1) rfl) (pe_gint rfl T.k_EACH_TENTH)) pe_int (nomark _)) (pss_one (ps_expr (pe_bm PySem.F.plainAttrs_list PySem.F.slot_list_append PySem.F.type_list_append mt_append (pe_fld (pv 1) rfl) (pa_cons (pv 3) pa_nil)))) (pss_one (ps_expr (pe_bm PySem.F.plainAttrs_list PySem.F.slot_list_append PySem.F.type_list_append mt_append (pe_fld (pv 1) rfl) (pa_cons (pv 3) pa_nil))))))))), ?_⟩
    have KA := M.kat j kp kd hk hc
    obtain ⟨dp, hP⟩ := M.pot
    have hjk : j < s.kinds.length := (List.getElem?_eq_some_iff.mp hc).1
    -- the pot
    refine ⟨_, rfl, rd_Mint_pot T M.obj (me_Metal_less hP ⟨_, rfl, me_Kind_metal_of KA.obj ⟨_, rfl, ρ, i, j, kp, kd, w, rfl, KA, f2, fun H0 x sn hX => ?_⟩⟩)⟩
    refine ⟨f.mp, x, s.pot, ⟨w, kd.fine * w⟩, rfl, ⟨dp, sn _ _ hP⟩, hX, hw, by rw [hfit]; exact Nat.mul_le_mul_left _ hw, fun H1 q s1 hq => ?_⟩
    have sm := sn.trans s1
    have M1 := M.same sm
    obtain ⟨M2, F2⟩ := M1.put (q := q) (s' := { s with pot := ⟨s.pot.grains - w, s.pot.carats - kd.fine * w⟩ }) hq rfl rfl rfl rfl
    refine ⟨_, rfl, wr_Mint_pot T M1.obj ?_⟩
    -- the die
    obtain ⟨dd, hD⟩ := (M2.eat d e de he hd).obj
    obtain ⟨M3, F3⟩ := M2.dieTo (d' := { de with left := de.left - 1 }) he hd hD
    have el : ((de.left : Nat) : Int) - 1 = ((de.left - 1 : Nat) : Int) := by omega
    refine ⟨_, rfl, rd_Die_left T hD ⟨_, _, rfl, rfl, _, rfl, wr_Die_left T hD ?_⟩⟩
    dsimp only
    rw [el]
    -- how many were struck
    have KA3 := M3.kat j kp kd hk hc
    obtain ⟨M4, F4⟩ := M3.kObj hk hc (kd.struck + 1)
    have hc4 : (s.kinds.set j { kd with struck := kd.struck + 1 })[j]? = some { kd with struck := kd.struck + 1 } := List.getElem?_set_self hjk
    have KA4 := M4.kat j kp _ hk hc4
    refine ⟨_, rfl, rd_Kind_struck T KA3.obj ⟨_, _, rfl, rfl, _, rfl, wr_Kind_struck T KA3.obj ?_⟩⟩
    have F04 : Fr Z ρ i H _ := (Fr.same sm).trans (Ext.refl _ _) (F2.trans (Ext.refl _ _) (F3.trans (Ext.refl _ _) F4))
    have em : (((kd.struck + 1 : Nat) : Int) % 10 = 0) ↔ (kd.struck + 1) % 10 = 0 := by omega
    refine ⟨_, rfl, rd_Kind_struck T KA4.obj ⟨_, _, rfl, rfl, (by show (0 : Int) < 10; decide), rfl, _, rfl, ite2 (fun h1 => ?_) (fun h1 => ?_)⟩⟩
    · have h1 := V.int.inj (of_decide_eq_true h1)
      obtain ⟨M5, F5⟩ := M4.kBox hk hc4 (kd.box ++ [w])
      refine ⟨_, rfl, rd_Kind_box T KA4.obj ⟨.inl ⟨rfl, _, SqL.of KA4.bx⟩, _, rfl, kp.bx, _, _, rfl, rfl, KA4.bx, (by rw [nv_len]; exact Nat.lt_of_le_of_lt (Nat.le_trans (Nat.le_add_left _ _) hn) (by decide)), ?_⟩⟩
      have en : nv kd.box ++ [V.int (w : Int)] = nv (kd.box ++ [w]) := by
        unfold nv
        rw [List.map_append]
        rfl
      rw [en]
      refine k _ { f with mp := q } ?_ (F04.trans (Ext.refl _ _) F5) rfl rfl rfl
      have eS : struckM s j d w kd de = { ({ s with pot := ⟨s.pot.grains - w, s.pot.carats - kd.fine * w⟩, dies := s.dies.set d { de with left := de.left - 1 }, kinds := s.kinds.set j { kd with struck := kd.struck + 1 } } : Mint) with kinds := (s.kinds.set j { kd with struck := kd.struck + 1 }).set j { ({ kd with struck := kd.struck + 1 } : Km408.Kind) with box := kd.box ++ [w] } } := by
        unfold struckM coin
        rw [if_pos (em.mp h1), List.set_set]
      rw [eS]
      exact M5
    · have h1 : ¬ (kd.struck + 1) % 10 = 0 := fun z => h1 (decide_eq_true (congrArg V.int (em.mpr z)))
      obtain ⟨M5, F5⟩ := M4.kStock hk hc4 (kd.stock ++ [w])
      refine ⟨_, rfl, rd_Kind_stock T KA4.obj ⟨.inl ⟨rfl, _, SqL.of KA4.st⟩, _, rfl, kp.st, _, _, rfl, rfl, KA4.st, (by rw [nv_len]; exact Nat.lt_of_le_of_lt (Nat.le_trans (Nat.le_add_right _ _) hn) (by decide)), ?_⟩⟩
      have en : nv kd.stock ++ [V.int (w : Int)] = nv (kd.stock ++ [w]) := by
        unfold nv
        rw [List.map_append]
        rfl
      rw [en]
      refine k _ { f with mp := q } ?_ (F04.trans (Ext.refl _ _) F5) rfl rfl rfl
      have eS : struckM s j d w kd de = { ({ s with pot := ⟨s.pot.grains - w, s.pot.carats - kd.fine * w⟩, dies := s.dies.set d { de with left := de.left - 1 }, kinds := s.kinds.set j { kd with struck := kd.struck + 1 } } : Mint) with kinds := (s.kinds.set j { kd with struck := kd.struck + 1 }).set j { ({ kd with struck := kd.struck + 1 } : Km408.Kind) with stock := kd.stock ++ [w] } } := by
        unfold struckM coin
        rw [if_neg h1, List.set_set]
      rw [eS]
      exact M5
/-! ### strike -/
def blanks (s : Mint) (k d : Nat) (l : List Nat) : Mint := l.foldl (fun m w => m.blank k d w) s
theorem blanks_snoc (s : Mint) {k d : Nat} {l : List Nat} {j w : Nat} (h : l[j]? = some w) : blanks s k d (l.take (j + 1)) = (blanks s k d (l.take j)).blank k d w := MP.fold_take h _
theorem coin_fine (kd : Km408.Kind) (w : Nat) : (coin kd w).fine = kd.fine ∧ (coin kd w).struck = kd.struck + 1 := by
  unfold coin
  split <;> exact ⟨rfl, rfl⟩
theorem coin_len (kd : Km408.Kind) (w : Nat) : (coin kd w).stock.length + (coin kd w).box.length = kd.stock.length + kd.box.length + 1 := by
  unfold coin
  split
  · show kd.stock.length + (kd.box ++ [w]).length = _
    rw [List.length_append]
    rfl
  · show (kd.stock ++ [w]).length + kd.box.length = _
    rw [List.length_append, List.length_singleton]
    omega
def sp_strike (K : PySem.W.Frag) (Z : Adr) : Sp := fun vs H Q _ => ∃ (ρ : Roles) (i : Nat) (f : Fp) (s : Mint) (k d n : Nat) (lw : Addr) (l : List Nat), vs = [.ref f.a, .int k, .int d, .int n, .ref lw] ∧ MintAt Z ρ i H f s ∧ MG.Good s ∧ SqL K H lw (nv l) ∧ CallPost Z ρ i H f (res (.strike k d l n) s) Q
theorem ok_strike (T : Txt K mg Z) : FnOk P w K mg base CX0 5 Z.f_strike Z.d_strike ["mint", "k", "number", "n", "weights"] (sp_strike K Z) := by
  refine T.F_strike.ok sc_strike (fun vs H Q E h => ?_) (fun cdv A outer s0 H vs Q E hr h => ?_)
  · obtain ⟨ρ, i, f, s, k, d, n, lw, l, rfl, _⟩ := h
    rfl
  · obtain ⟨ρ, i, f, s, kk, d, n, lw, l, rfl, M, G, hlw, k⟩ := h
    refine ⟨_, (pss_cons (ps_if (PW.pt (pw_or (pt_not (pt_val (pe_meth (pv 0) T.cl_Mint T.m_Mint_has_kind (ok_Mint_has_kind T) (hr.mono (by decide)) (b_Mint_has_kind T) .nil pass0 ((pa_cons (pv 1) pa_nil))))) (pw_or1 (pt_not (pt_val (pe_meth (pv 0) T.cl_Mint T.m_Mint_has_die (ok_Mint_has_die T) (hr.mono (by decide)) (b_Mint_has_die T) .nil pass0 ((pa_cons (pv 2) pa_nil)))))))) (pss_one (ps_ret (pe_lst (pa_cons (pe_gint rfl T.k_NOT_THERE) pa_nil)))) pss_nil) (pss_cons (ps_if (PW.pt (pw_or (pt_cmpR op_lt (pv 3) pe_int (nomark _)) (pw_or1 (pt_cmpR op_gt (pv 3) (pe_gint rfl T.k_MOST_BLANKS) (nomark _))))) (pss_one (ps_ret (pe_lst (pa_cons (pe_gint rfl T.k_NOT_AS_TOLD) pa_nil)))) pss_nil) (pss_cons (ps_set (i := 5) (sc_strike).nd rfl (Or.inl rfl) (pe_ix ix_list (pe_fld (pv 0) rfl) (pv 1) (fun _ _ => rfl))) (pss_cons (ps_set (i := 6) (sc_strike).nd rfl (Or.inl rfl) (pe_ix ix_list (pe_fld (pv 0) rfl) (pv 2) (fun _ _ => rfl))) (pss_cons (ps_if (pt_cmpR op_ne (pe_fld (pv 6) rfl) (pv 1) (nomark _)) (pss_one (ps_ret (pe_lst (pa_cons (pe_gint rfl T.k_OTHER_KIND) pa_nil)))) pss_nil) (pss_cons (ps_if (pt_not (pt_val (pe_meth (pe_fld (pv 0) rfl) T.cl_Metal T.m_Metal_is_as_fine_as (ok_Metal_is_as_fine_as T) (hr.mono (by decide)) (b_Metal_is_as_fine_as T) .nil pass0 ((pa_cons (pe_fld (pv 5) rfl) pa_nil))))) (pss_one (ps_ret (pe_lst (pa_cons (pe_gint rfl T.k_NOT_AS_FINE) pa_nil)))) pss_nil) (pss_cons (ps_set (i := 7) (sc_strike).nd rfl (Or.inl rfl) pe_int) (pss_cons (ps_for PassesOwn.never rfl (pi_list (pe_slice sl_list (pv 4) po_none (po_some (pv 3)))) (pg_name (i := 8) (sc_strike).nd rfl (Or.inl rfl)) (pss_one (ps_if (pt_val (pe_call (ok_can_be_struck T) (hr.mono (by decide)) rfl T.g_can_be_struck T.F_can_be_struck.kp (b_can_be_struck T) .nil pass0 ((pa_cons (pe_fld (pv 0) rfl) (pa_cons (pv 5) (pa_cons (pv 6) (pa_cons (pv 8) pa_nil))))))) (pss_cons (ps_expr (pe_call (ok_strike_blank T) (hr.mono (by decide)) rfl T.g_strike_blank T.F_strike_blank.kp (b_strike_blank T) .nil pass0 ((pa_cons (pv 0) (pa_cons (pv 5) (pa_cons (pv 6) (pa_cons (pv 8) pa_nil))))))) (pss_one (ps_set (i := 7) (sc_strike).nd rfl (Or.inl rfl) (pe_op op_add (pv 7) pe_int)))) pss_nil))) (pss_one (ps_ret (pe_lst (pa_cons (pv 7) pa_nil)))))))))))), ?_⟩
    refine ⟨_, rfl, me_Mint_has_kind M.obj ⟨_, rfl, ρ, i, f, s, kk, rfl, M, _, rfl, ite2 (fun h1 => iteT ?_) (fun h1 => ?_)⟩⟩
    · simp at h1
      refine tells M k (ans := [-2]) ?_ rfl (by decide)
      unfold res Km408.act
      simp only
      rw [List.getElem?_eq_none h1]
      rfl
    · have h1 : kk < s.kinds.length := by
        simp at h1
        omega
      refine ⟨_, rfl, me_Mint_has_die M.obj ⟨_, rfl, ρ, i, f, s, d, rfl, M, _, rfl, ite2 (fun h2 => ?_) (fun h2 => ?_)⟩⟩
      · simp at h2
        refine tells M k (ans := [-2]) ?_ rfl (by decide)
        unfold res Km408.act
        simp only
        rw [List.getElem?_eq_none h2]
        cases s.kinds[kk]? <;> rfl
      · have h2 : d < s.dies.length := by
          simp at h2
          omega
        obtain ⟨kp, c, hk, hc, KA⟩ := M.kind h1
        obtain ⟨e, t, he, ht, DA⟩ := M.die h2
        have GK := MG.kind_good G hc
        have r22 : (n = 0 ∨ 8 < n) → res (.strike kk d l n) s = (s, [-22]) := fun h => by
          unfold res Km408.act
          simp only
          rw [hc, ht]
          simp only
          rw [if_pos (by exact h)]
          rfl
        refine ⟨_, rfl, _, _, rfl, rfl, _, rfl, ite2 (fun h3 => iteT ?_) (fun h3 => ⟨_, rfl, _, _, rfl, rfl, _, rfl, ite2 (fun h4 => ?_) (fun h4 => ?_)⟩)⟩
        · exact tells M k (r22 (.inl (by have := of_decide_eq_true h3; omega))) rfl (by decide)
        · exact tells M k (r22 (.inr (by have := of_decide_eq_true h4; omega))) rfl (by decide)
        · have h3 := not_dec h3
          have h4 := not_dec h4
          have hn : ¬ (n = 0 ∨ 8 < n) := by omega
          refine ⟨_, rfl, rd_Mint_kinds T M.obj ⟨_, rfl, f.lk, _, _, .ref kp.a, rfl, rfl, SqL.of M.lk, atI_nat (kref_at hk), ?_⟩⟩
          refine ⟨_, rfl, rd_Mint_dies T M.obj ⟨_, rfl, f.ld, _, _, .ref e, rfl, rfl, SqL.of M.ld, atI_nat (ref_at he), ?_⟩⟩
          obtain ⟨dd, hD⟩ := DA.obj
          refine ⟨_, rfl, rd_Die_kind T hD ⟨_, rfl, rfl, _, rfl, ite2 (fun h5 => ?_) (fun h5 => ?_)⟩⟩
          · refine tells M k (ans := [-13]) ?_ rfl (by decide)
            have h5 : ¬ t.kind = kk := fun z => by
              rw [decide_eq_true (int_eq.mpr z)] at h5
              cases h5
            unfold res Km408.act
            simp only
            rw [hc, ht]
            simp only
            rw [if_neg (by exact hn), if_pos (by exact h5)]
            rfl
          · have h5 : t.kind = kk := by
              by_cases z : t.kind = kk
              · exact z
              · exact (h5 (by rw [decide_eq_false (fun y => z (int_eq.mp y))]; rfl)).elim
            obtain ⟨dp, hP⟩ := M.pot
            refine ⟨_, rfl, rd_Mint_pot T M.obj (me_Metal_is_as_fine_as hP ⟨_, rfl, rd_Kind_fine T KA.obj ⟨f.mp, s.pot, c.fine, rfl, GK.f2, ⟨dp, hP⟩, _, rfl, ite2 (fun h6 => ?_) (fun h6 => ?_)⟩⟩)⟩
            · refine tells M k (ans := [-71]) ?_ rfl (by decide)
              have h6 : Km408.fitsAs s.pot c.fine = false := by simpa using h6
              unfold res Km408.act
              simp only
              rw [hc, ht]
              simp only
              rw [if_neg (by exact hn), if_neg (by exact fun z => z h5), if_pos (by exact h6)]
              rfl
            · have h6 : Km408.fitsAs s.pot c.fine = true := by simpa using h6
              have hfit : s.pot.carats = c.fine * s.pot.grains := eq_of_beq h6
              -- the first n weights
              refine ⟨_, rfl, _, rfl, _, rfl, lw, _, rfl, hlw, fun p hp => ?_⟩
              rw [take_cut]
              have eT : (nv l).take n = nv (l.take n) := by
                unfold nv
                rw [List.map_take]
              rw [eT]
              have E1 : Ext H ρ (setR ρ p .free) := Ext.setR hp
              have sp : Same H (upd H p (.lst (nv (l.take n)))) := Same.new hp
              have M1 : MintAt Z (setR ρ p .free) i (upd H p (.lst (nv (l.take n)))) f s := (M.reRole E1).same sp
              refine ⟨p, rfl, ⟨_, SqL.of upd_same⟩, for_list (K := K) (a := p) (xs := nv (l.take n)) (fun j σ H' => ∃ (f1 : Fp) (ct : Nat) (kd : Km408.Kind) (de : Km408.Die) (v8 : Option V), σ = [some (.ref f.a), some (.int kk), some (.int d), some (.int n), some (.ref lw), some (.ref kp.a), some (.ref e), some (.int ct), v8] ∧
                  H' p = some (.lst (nv (l.take n))) ∧ MintAt Z (setR ρ p .free) i H' f1 (blanks s kk d ((l.take n).take j)) ∧ Fr Z (setR ρ p .free) i (upd H p (.lst (nv (l.take n)))) H' ∧ f1.a = f.a ∧ f1.ks = f.ks ∧ f1.es = f.es ∧
                  (blanks s kk d ((l.take n).take j)).kinds[kk]? = some kd ∧ (blanks s kk d ((l.take n).take j)).dies[d]? = some de ∧ kd.fine = c.fine ∧ kd.struck = c.struck + ct ∧ kd.stock.length + kd.box.length ≤ 60 ∧ (blanks s kk d ((l.take n).take j)).pot.carats = c.fine * (blanks s kk d ((l.take n).take j)).pot.grains)
                ⟨f, 0, c, t, none, rfl, upd_same, M1, Fr.refl _ _ _ _, rfl, rfl, rfl, hc, ht, rfl, rfl, GK.n, hfit⟩ (fun j σ H' _ ⟨_, _, _, _, _, _, h7, _⟩ => SqL.of h7) ?_ ?_⟩
              · rintro j y σ H' hy ⟨f1, ct, kd, de, v8, rfl, h7, MJ, FJ, ea, ek, ee, hkd, hde, hf, hs, hln, hpot⟩
                obtain ⟨w, hw, rfl⟩ := nv_inv hy
                rw [blanks_snoc s hw]
                obtain ⟨sJ, hsJ⟩ : ∃ sJ, blanks s kk d ((l.take n).take j) = sJ := ⟨_, rfl⟩
                rw [hsJ] at MJ hkd hde hpot ⊢
                have hk1 : f1.ks[kk]? = some kp := by rw [ek]; exact hk
                have he1 : f1.es[d]? = some e := by rw [ee]; exact he
                have KJ := MJ.kat kk kp kd hk1 hkd
                have DJ := MJ.eat d e de he1 hde
                have f2 := GK.f2
                rw [← ea]
                refine ⟨_, rfl, rd_Mint_pot T MJ.obj ⟨_, rfl, _, rfl, _, rfl, setR ρ p .free, i, kk, d, f1.mp, e, sJ.pot, kp, kd, de, w, rfl, MJ.pot, KJ, DJ, _, rfl, ite2 (fun h8 => ?_) (fun h8 => ?_)⟩⟩
                · have hcan := of_decide_eq_true h8
                  have c1 : ¬ sJ.pot.grains < w := fun z => hcan (.inr (.inr (.inl z)))
                  have c2 : ¬ de.left = 0 := fun z => hcan (.inr (.inl z))
                  have c3 : ¬ 60 ≤ kd.stock.length + kd.box.length := fun z => hcan (.inr (.inr (.inr z)))
                  refine ⟨_, rfl, _, rfl, _, rfl, _, rfl, setR ρ p .free, i, f1, sJ, kk, d, w, kp, e, kd, de, rfl, MJ, hk1, hkd, he1, hde, by rw [hf]; exact f2, by omega, by rw [hf]; exact hpot, c2, hln, fun H2 f2 M2 F2 ea2 ek2 ee2 => ?_⟩
                  refine ⟨_, rfl, _, _, rfl, rfl, ?_⟩
                  rw [blank_can hkd hde, if_pos h8]
                  have hkl : kk < sJ.kinds.length := (List.getElem?_eq_some_iff.mp hkd).1
                  have hdl : d < sJ.dies.length := (List.getElem?_eq_some_iff.mp hde).1
                  obtain ⟨q1, q2⟩ := coin_fine kd w
                  refine ⟨f2, ct + 1, coin kd w, { de with left := de.left - 1 }, _, rfl, F2.out _ _ h7 (by rw [setR_same]; intro z; cases z), M2, FJ.trans (Ext.refl _ _) F2, ea2, ek2.trans ek, ee2.trans ee, List.getElem?_set_self hkl, List.getElem?_set_self hdl, q1.trans hf, by rw [q2, hs]; omega, by rw [coin_len]; omega, ?_⟩
                  show sJ.pot.carats - kd.fine * w = c.fine * (sJ.pot.grains - w)
                  rw [hpot, hf, Nat.mul_sub]
                · rw [blank_can hkd hde, if_neg h8]
                  exact ⟨f1, ct, kd, de, _, rfl, h7, MJ, FJ, rfl, ek, ee, hkd, hde, hf, hs, hln, hpot⟩
              · rintro σ H' ⟨f1, ct, kd, de, v8, rfl, h7, MJ, FJ, ea, ek, ee, hkd, hde, hf, hs, hln, hpot⟩
                rw [nv_len, List.take_length] at MJ hkd
                refine ⟨_, rfl, ?_⟩
                refine tells2 MJ ((Fr.same sp).trans E1 FJ) E1 ea k (ans := [((ct : Nat) : Int)]) ?_ rfl (by show 1 ≤ 25; decide)
                unfold res Km408.act
                simp only
                rw [hc, ht]
                simp only
                rw [if_neg (by exact hn), if_neg (by exact fun z => z h5), if_neg (by rw [h6]; decide)]
                have e1 : ((blanks s kk d (l.take n)).kinds.getD kk c).struck - c.struck = ct := by
                  rw [List.getD_eq_getElem?_getD, hkd]
                  show kd.struck - c.struck = ct
                  omega
                show (blanks s kk d (l.take n), [((((blanks s kk d (l.take n)).kinds.getD kk c).struck - c.struck : Nat) : Int)]) = _
                rw [e1]
end
end Mi


set_option Elab.async false
set_option linter.all false
set_option maxRecDepth 100000
set_option maxHeartbeats 4000000
namespace Mi
open PySem PySem.Spec PyProof.Rows L2
open Km408 (Metal Mint ones)
open MP (picks avail mix lotAt)
theorem put_all (a0 a1 a2 a3 a4 a5 a6 a7 a8 a9 a10 : V) : putF "paid" a10 (putF "added" a9 (putF "brought" a8 (putF "lessened" a7 (putF "kept" a6 (putF "credit" a5 (putF "pot" a4 (putF "lots" a3 (putF "dies" a2 (putF "kinds" a1 (putF "keeps" a0 ([] : List (Str × V)))))))))))) = fs_Mint a0 a1 a2 a3 a4 a5 a6 a7 a8 a9 a10 := by
  have e0 : putF "keeps" a0 ([] : List (Str × V)) = ([("keeps", a0)] : List (Str × V)) := rfl
  have e1 : putF "kinds" a1 ([("keeps", a0)] : List (Str × V)) = ([("keeps", a0), ("kinds", a1)] : List (Str × V)) := (pf1 nq_keeps_kinds rfl)
  have e2 : putF "dies" a2 ([("keeps", a0), ("kinds", a1)] : List (Str × V)) = ([("keeps", a0), ("kinds", a1), ("dies", a2)] : List (Str × V)) := (pf1 nq_keeps_dies (pf1 nq_kinds_dies rfl))
  have e3 : putF "lots" a3 ([("keeps", a0), ("kinds", a1), ("dies", a2)] : List (Str × V)) = ([("keeps", a0), ("kinds", a1), ("dies", a2), ("lots", a3)] : List (Str × V)) := (pf1 nq_keeps_lots (pf1 nq_kinds_lots (pf1 nq_dies_lots rfl)))
  have e4 : putF "pot" a4 ([("keeps", a0), ("kinds", a1), ("dies", a2), ("lots", a3)] : List (Str × V)) = ([("keeps", a0), ("kinds", a1), ("dies", a2), ("lots", a3), ("pot", a4)] : List (Str × V)) := (pf1 nq_keeps_pot (pf1 nq_kinds_pot (pf1 nq_dies_pot (pf1 nq_lots_pot rfl))))
  have e5 : putF "credit" a5 ([("keeps", a0), ("kinds", a1), ("dies", a2), ("lots", a3), ("pot", a4)] : List (Str × V)) = ([("keeps", a0), ("kinds", a1), ("dies", a2), ("lots", a3), ("pot", a4), ("credit", a5)] : List (Str × V)) := (pf1 nq_keeps_credit (pf1 nq_kinds_credit (pf1 nq_dies_credit (pf1 nq_lots_credit (pf1 nq_pot_credit rfl)))))
  have e6 : putF "kept" a6 ([("keeps", a0), ("kinds", a1), ("dies", a2), ("lots", a3), ("pot", a4), ("credit", a5)] : List (Str × V)) = ([("keeps", a0), ("kinds", a1), ("dies", a2), ("lots", a3), ("pot", a4), ("credit", a5), ("kept", a6)] : List (Str × V)) := (pf1 nq_keeps_kept (pf1 nq_kinds_kept (pf1 nq_dies_kept (pf1 nq_lots_kept (pf1 nq_pot_kept (pf1 nq_credit_kept rfl))))))
  have e7 : putF "lessened" a7 ([("keeps", a0), ("kinds", a1), ("dies", a2), ("lots", a3), ("pot", a4), ("credit", a5), ("kept", a6)] : List (Str × V)) = ([("keeps", a0), ("kinds", a1), ("dies", a2), ("lots", a3), ("pot", a4), ("credit", a5), ("kept", a6), ("lessened", a7)] : List (Str × V)) := (pf1 nq_keeps_lessened (pf1 nq_kinds_lessened (pf1 nq_dies_lessened (pf1 nq_lots_lessened (pf1 nq_pot_lessened (pf1 nq_credit_lessened (pf1 nq_kept_lessened rfl)))))))
  have e8 : putF "brought" a8 ([("keeps", a0), ("kinds", a1), ("dies", a2), ("lots", a3), ("pot", a4), ("credit", a5), ("kept", a6), ("lessened", a7)] : List (Str × V)) = ([("keeps", a0), ("kinds", a1), ("dies", a2), ("lots", a3), ("pot", a4), ("credit", a5), ("kept", a6), ("lessened", a7), ("brought", a8)] : List (Str × V)) := (pf1 nq_keeps_brought (pf1 nq_kinds_brought (pf1 nq_dies_brought (pf1 nq_lots_brought (pf1 nq_pot_brought (pf1 nq_credit_brought (pf1 nq_kept_brought (pf1 nq_lessened_brought rfl))))))))
  have e9 : putF "added" a9 ([("keeps", a0), ("kinds", a1), ("dies", a2), ("lots", a3), ("pot", a4), ("credit", a5), ("kept", a6), ("lessened", a7), ("brought", a8)] : List (Str × V)) = ([("keeps", a0), ("kinds", a1), ("dies", a2), ("lots", a3), ("pot", a4), ("credit", a5), ("kept", a6), ("lessened", a7), ("brought", a8), ("added", a9)] : List (Str × V)) := (pf1 nq_keeps_added (pf1 nq_kinds_added (pf1 nq_dies_added (pf1 nq_lots_added (pf1 nq_pot_added (pf1 nq_credit_added (pf1 nq_kept_added (pf1 nq_lessened_added (pf1 nq_brought_added rfl)))))))))
  have e10 : putF "paid" a10 ([("keeps", a0), ("kinds", a1), ("dies", a2), ("lots", a3), ("pot", a4), ("credit", a5), ("kept", a6), ("lessened", a7), ("brought", a8), ("added", a9)] : List (Str × V)) = ([("keeps", a0), ("kinds", a1), ("dies", a2), ("lots", a3), ("pot", a4), ("credit", a5), ("kept", a6), ("lessened", a7), ("brought", a8), ("added", a9), ("paid", a10)] : List (Str × V)) := (pf1 nq_keeps_paid (pf1 nq_kinds_paid (pf1 nq_dies_paid (pf1 nq_lots_paid (pf1 nq_pot_paid (pf1 nq_credit_paid (pf1 nq_kept_paid (pf1 nq_lessened_paid (pf1 nq_brought_paid (pf1 nq_added_paid rfl))))))))))
  rw [e0, e1, e2, e3, e4, e5, e6, e7, e8, e9, e10]
  rfl
theorem put_len {f : Str} {x : V} : ∀ fs : List (Str × V), (putF f x fs).length ≤ fs.length + 1
  | [] => Nat.le_refl 1
  | (g, y) :: r => by
    unfold putF
    split
    · exact Nat.le_succ _
    · rw [List.length_cons, List.length_cons]
      have := put_len (f := f) (x := x) r
      omega
/-- but for p all is as it was -/
def But (p : Addr) (H H' : Hp) : Prop := ∀ b o, H b = some o → b ≠ p → H' b = some o
theorem But.trans {p : Addr} {H H1 H2 : Hp} (a : But p H H1) (b : But p H1 H2) : But p H H2 := fun x o h e => b x o (a x o h e) e
theorem But.same {p : Addr} {H H1 : Hp} (a : Same H H1) : But p H H1 := fun x o h _ => a x o h
theorem But.upd {p : Addr} {H : Hp} {o : HO} : But p H (upd H p o) := fun x u h e => by rw [upd_ne e]; exact h
section
variable {P : Program} {w : World} {K : PySem.W.Frag} {mg : Str → Option Value} {base : Heap} {Z : Adr}
def sp_Mint_init (Z : Adr) : Sp := fun vs H Q _ => ∃ (p dx : Addr) (n : Nat), vs = [.ref p, .int n] ∧ H p = some (.ins Z.c_Mint dx []) ∧
  ∀ (H' : Hp) (lk ld ll mp lc : Addr) (ms : List Addr), H' p = some (.ins Z.c_Mint dx (fs_Mint (.int n) (.ref lk) (.ref ld) (.ref ll) (.ref mp) (.ref lc) (.int 0) (.int 0) (.int 0) (.int 0) (.int 0))) →
    H' lk = some (.lst []) → H' ld = some (.lst []) → H' ll = some (.lst (ms.map V.ref)) → ms.length = 10 → (∀ a ∈ ms, MetalAt Z H' a ⟨0, 0⟩) → MetalAt Z H' mp ⟨0, 0⟩ → H' lc = some (.lst (nv (List.replicate 6 0))) →
    H lk = none → H ld = none → H ll = none → H lc = none → lk ≠ ld → lk ≠ ll → lk ≠ lc → ld ≠ ll → ld ≠ lc → ll ≠ lc → But p H H' → Q .non H'
theorem ok_Mint_init (T : Txt K mg Z) : FnOk P w K mg base CX0 3 Z.f_Mint_init Z.d_Mint_init ["self", "keeps"] (sp_Mint_init Z) := by
  refine T.F_Mint_init.ok sc_Mint_init (fun vs H Q E h => ?_) (fun cdv A outer s H vs Q E hr h => ?_)
  · obtain ⟨p, dx, n, rfl, _⟩ := h
    rfl
  · obtain ⟨p, dx, n, rfl, hp, k⟩ := h
    refine ⟨_, (pss_cons (ps_fld (pv 0) (pv 1) rfl) (pss_cons (ps_fld (pv 0) (pe_lst pa_nil) rfl) (pss_cons (ps_fld (pv 0) (pe_lst pa_nil) rfl) (pss_cons (ps_fld (pv 0) (pe_lc rfl (sc_Mint_init).nd (pi_range1 rfl T.n_range (pa_cons (pe_gint rfl T.k_PLACES) pa_nil)) (own := [("place", 2)]) (blkOk_by (by rfl)) (fun _ _ _ _ _ => pg_name (i := 2) (sc_Mint_init).nd rfl (Or.inl rfl)) (fun _ _ _ _ _ => pts_nil) (fun _ _ _ _ _ => (pe_make T.mk_Metal (ok_Metal_init T) (hr.mono (by decide)) rfl T.g_Metal (b_Metal_init T) .nil pass0 ((pa_cons pe_int (pa_cons pe_int pa_nil)))))) rfl) (pss_cons (ps_fld (pv 0) (pe_make T.mk_Metal (ok_Metal_init T) (hr.mono (by decide)) rfl T.g_Metal (b_Metal_init T) .nil pass0 ((pa_cons pe_int (pa_cons pe_int pa_nil)))) rfl) (pss_cons (ps_fld (pv 0) (pe_lc rfl (sc_Mint_init).nd (pi_range1 rfl T.n_range (pa_cons (pe_gint rfl T.k_PEOPLE) pa_nil)) (own := [("person", 3)]) (blkOk_by (by rfl)) (fun _ _ _ _ _ => pg_name (i := 3) (sc_Mint_init).nd rfl (Or.inl rfl)) (fun _ _ _ _ _ => pts_nil) (fun _ _ _ _ _ => pe_int)) rfl) (pss_cons (ps_fld (pv 0) pe_int rfl) (pss_cons (ps_fld (pv 0) pe_int rfl) (pss_cons (ps_fld (pv 0) pe_int rfl) (pss_cons (ps_fld (pv 0) pe_int rfl) (pss_one (ps_fld (pv 0) pe_int rfl)))))))))))), ?_⟩
    obtain ⟨fs, efs⟩ : ∃ fs : List (Str × V), fs = [] := ⟨_, rfl⟩
    rw [← efs] at hp
    have hl0 : fs.length = 0 := by rw [efs]; rfl
    have l1 := put_len (f := "keeps") (x := V.int n) fs
    refine ⟨_, rfl, _, rfl, wr_new hp T.cl_Mint T.n_Mint_keeps (by omega) rfl ?_⟩
    -- kinds
    obtain ⟨H1, e1⟩ : ∃ H1, H1 = upd H p (.ins Z.c_Mint dx (putF "keeps" (.int n) fs)) := ⟨_, rfl⟩
    have p1 : H1 p = some (.ins Z.c_Mint dx (putF "keeps" (.int n) fs)) := by rw [e1]; exact upd_same
    have B1 : But p H H1 := by rw [e1]; exact But.upd
    rw [← e1]
    refine ⟨Nat.zero_le _, fun lk nk => ⟨_, rfl, wr_new (Same.new nk _ _ p1) T.cl_Mint T.n_Mint_kinds (by omega) rfl ?_⟩⟩
    have l2 := put_len (f := "kinds") (x := V.ref lk) (putF "keeps" (.int n) fs)
    have nkp : lk ≠ p := fun e => by rw [e, p1] at nk; cases nk
    have nkH : H lk = none := by rw [e1, upd_ne nkp] at nk; exact nk
    obtain ⟨H2, e2⟩ : ∃ H2, H2 = upd (upd H1 lk (.lst [])) p (.ins Z.c_Mint dx (putF "kinds" (.ref lk) (putF "keeps" (.int n) fs))) := ⟨_, rfl⟩
    have p2 : H2 p = some (.ins Z.c_Mint dx (putF "kinds" (.ref lk) (putF "keeps" (.int n) fs))) := by rw [e2]; exact upd_same
    have B2 : But p H1 H2 := by rw [e2]; exact (But.same (Same.new nk)).trans But.upd
    have k2 : H2 lk = some (.lst []) := by rw [e2, upd_ne nkp, upd_same]
    rw [← e2]
    -- dies
    refine ⟨Nat.zero_le _, fun ld nd => ⟨_, rfl, wr_new (Same.new nd _ _ p2) T.cl_Mint T.n_Mint_dies (by omega) rfl ?_⟩⟩
    have l3 := put_len (f := "dies") (x := V.ref ld) (putF "kinds" (.ref lk) (putF "keeps" (.int n) fs))
    have ndp : ld ≠ p := fun e => by rw [e, p2] at nd; cases nd
    have nkd : lk ≠ ld := fun e => by rw [← e, k2] at nd; cases nd
    have ndH : H ld = none := by
      cases q : H ld with
      | none => rfl
      | some o =>
        rw [(B1.trans B2) ld o q ndp] at nd
        cases nd
    obtain ⟨H3, e3⟩ : ∃ H3, H3 = upd (upd H2 ld (.lst [])) p (.ins Z.c_Mint dx (putF "dies" (.ref ld) (putF "kinds" (.ref lk) (putF "keeps" (.int n) fs)))) := ⟨_, rfl⟩
    have p3 : H3 p = some (.ins Z.c_Mint dx (putF "dies" (.ref ld) (putF "kinds" (.ref lk) (putF "keeps" (.int n) fs)))) := by rw [e3]; exact upd_same
    have B3 : But p H2 H3 := by rw [e3]; exact (But.same (Same.new nd)).trans But.upd
    have k3 : H3 lk = some (.lst []) := B3 _ _ k2 nkp
    have d3 : H3 ld = some (.lst []) := by rw [e3, upd_ne ndp, upd_same]
    rw [← e3]
    -- lots
    refine ⟨_, rfl, by decide, by decide, fun ll nl => lc_range (n := 10) (fun j H' => ∃ ms : List Addr, Same H3 H' ∧ H' ll = some (.lst (ms.map V.ref)) ∧ ms.length = j ∧ ∀ a ∈ ms, a ≠ p ∧ MetalAt Z H' a ⟨0, 0⟩) ⟨[], Same.new nl, upd_same, rfl, fun a ha => by cases ha⟩ ?_ ?_⟩
    · rintro j H' hj ⟨ms, s4, h4, hm, hA⟩
      refine ⟨rfl, mk_Metal_of fun x dz nx nd => ⟨_, same_newI nx nd _ _ h4, (by rw [List.length_map, hm]; exact Nat.lt_trans hj (by decide)), ?_⟩⟩
      have sn := same_newI (C := Z.c_Metal) (fs := fs_Metal (.int 0) (.int 0)) nx nd
      have up : ∀ {a m}, MetalAt Z (newI H' x dz Z.c_Metal (fs_Metal (.int 0) (.int 0))) a m → MetalAt Z (upd (newI H' x dz Z.c_Metal (fs_Metal (.int 0) (.int 0))) ll (.lst (ms.map V.ref ++ [.ref x]))) a m := by
        rintro a m ⟨da, ha⟩
        exact ⟨da, by rw [upd_ne (ne_of ha (sn _ _ h4) (by intro z; cases z))]; exact ha⟩
      refine ⟨ms ++ [x], fun b o q => ?_, ?_, by rw [List.length_append, hm]; rfl, fun a ha => ?_⟩
      · rw [upd_ne (ne_of_none q nl)]
        exact sn _ _ (s4 _ _ q)
      · rw [upd_same, List.map_append]
        rfl
      · rcases List.mem_append.mp ha with z | z
        · exact ⟨(hA a z).1, up ((hA a z).2.same sn)⟩
        · rw [List.mem_singleton.mp z]
          exact ⟨(fun e => by rw [e, s4 _ _ p3] at nx; cases nx), up (m := ⟨0, 0⟩) ⟨dz, newI_at⟩⟩
    · rintro H4 ⟨ms, s4, h4, hm, hA⟩
      have p4 := s4 _ _ p3
      have k4 := s4 _ _ k3
      have d4 := s4 _ _ d3
      refine ⟨_, rfl, wr_new p4 T.cl_Mint T.n_Mint_lots (by omega) rfl ?_⟩
      have l4 := put_len (f := "lots") (x := V.ref ll) (putF "dies" (.ref ld) (putF "kinds" (.ref lk) (putF "keeps" (.int n) fs)))
      have nlp : ll ≠ p := fun e => by rw [e, p3] at nl; cases nl
      have nlk : lk ≠ ll := fun e => by rw [← e, k3] at nl; cases nl
      have nld : ld ≠ ll := fun e => by rw [← e, d3] at nl; cases nl
      have nlH : H ll = none := by
        cases q : H ll with
        | none => rfl
        | some o =>
          rw [((B1.trans B2).trans B3) ll o q nlp] at nl
          cases nl
      obtain ⟨H5, e5⟩ : ∃ H5, H5 = upd H4 p (.ins Z.c_Mint dx (putF "lots" (.ref ll) (putF "dies" (.ref ld) (putF "kinds" (.ref lk) (putF "keeps" (.int n) fs))))) := ⟨_, rfl⟩
      have p5 : H5 p = some (.ins Z.c_Mint dx (putF "lots" (.ref ll) (putF "dies" (.ref ld) (putF "kinds" (.ref lk) (putF "keeps" (.int n) fs))))) := by rw [e5]; exact upd_same
      have B5 : But p H4 H5 := by rw [e5]; exact But.upd
      rw [← e5]
      -- pot
      refine mk_Metal_of fun mp dm nm ndm => ?_
      have s6 := same_newI (C := Z.c_Metal) (fs := fs_Metal (.int 0) (.int 0)) nm ndm
      obtain ⟨H6, e6⟩ : ∃ H6, H6 = newI H5 mp dm Z.c_Metal (fs_Metal (.int 0) (.int 0)) := ⟨_, rfl⟩
      have m6 : H6 mp = some (.ins Z.c_Metal dm (fs_Metal (.int 0) (.int 0))) := by rw [e6]; exact newI_at
      rw [← e6] at s6 ⊢
      refine ⟨_, rfl, wr_new (s6 _ _ p5) T.cl_Mint T.n_Mint_pot (by omega) rfl ?_⟩
      have l5 := put_len (f := "pot") (x := V.ref mp) (putF "lots" (.ref ll) (putF "dies" (.ref ld) (putF "kinds" (.ref lk) (putF "keeps" (.int n) fs))))
      have nmp : mp ≠ p := fun e => by rw [e, p5] at nm; cases nm
      obtain ⟨H7, e7⟩ : ∃ H7, H7 = upd H6 p (.ins Z.c_Mint dx (putF "pot" (.ref mp) (putF "lots" (.ref ll) (putF "dies" (.ref ld) (putF "kinds" (.ref lk) (putF "keeps" (.int n) fs)))))) := ⟨_, rfl⟩
      have p7 : H7 p = some (.ins Z.c_Mint dx (putF "pot" (.ref mp) (putF "lots" (.ref ll) (putF "dies" (.ref ld) (putF "kinds" (.ref lk) (putF "keeps" (.int n) fs)))))) := by rw [e7]; exact upd_same
      have B7 : But p H6 H7 := by rw [e7]; exact But.upd
      rw [← e7]
      have B47 : But p H4 H7 := (B5.trans (But.same s6)).trans B7
      -- credit
      refine ⟨_, rfl, by decide, by decide, fun lc nc => lc_range (n := 6) (fun j H' => H' = upd H7 lc (.lst (nv (List.replicate j 0)))) rfl ?_ ?_⟩
      · rintro j H' hj rfl
        exact ⟨rfl, _, upd_same, (by rw [nv_len, List.length_replicate]; exact Nat.lt_trans hj (by decide)), (by
          rw [upd_upd, List.replicate_succ']
          unfold nv
          rw [List.map_append]
          rfl)⟩
      · rintro H8 rfl
        have s8 : Same H7 (upd H7 lc (.lst (nv (List.replicate 6 0)))) := Same.new nc
        refine ⟨_, rfl, wr_new (s8 _ _ p7) T.cl_Mint T.n_Mint_credit (by omega) rfl ?_⟩
        have l6 := put_len (f := "credit") (x := V.ref lc) (putF "pot" (.ref mp) (putF "lots" (.ref ll) (putF "dies" (.ref ld) (putF "kinds" (.ref lk) (putF "keeps" (.int n) fs)))))
        refine ⟨_, rfl, wr_new upd_same T.cl_Mint T.n_Mint_kept (by omega) rfl ?_⟩
        have m0 := put_len (f := "kept") (x := V.int 0) (putF "credit" (.ref lc) (putF "pot" (.ref mp) (putF "lots" (.ref ll) (putF "dies" (.ref ld) (putF "kinds" (.ref lk) (putF "keeps" (.int n) fs))))))
        refine ⟨_, rfl, wr_new upd_same T.cl_Mint T.n_Mint_lessened (by omega) rfl ?_⟩
        have m1 := put_len (f := "lessened") (x := V.int 0) (putF "kept" (.int 0) (putF "credit" (.ref lc) (putF "pot" (.ref mp) (putF "lots" (.ref ll) (putF "dies" (.ref ld) (putF "kinds" (.ref lk) (putF "keeps" (.int n) fs)))))))
        refine ⟨_, rfl, wr_new upd_same T.cl_Mint T.n_Mint_brought (by omega) rfl ?_⟩
        have m2 := put_len (f := "brought") (x := V.int 0) (putF "lessened" (.int 0) (putF "kept" (.int 0) (putF "credit" (.ref lc) (putF "pot" (.ref mp) (putF "lots" (.ref ll) (putF "dies" (.ref ld) (putF "kinds" (.ref lk) (putF "keeps" (.int n) fs))))))))
        refine ⟨_, rfl, wr_new upd_same T.cl_Mint T.n_Mint_added (by omega) rfl ?_⟩
        have m3 := put_len (f := "added") (x := V.int 0) (putF "brought" (.int 0) (putF "lessened" (.int 0) (putF "kept" (.int 0) (putF "credit" (.ref lc) (putF "pot" (.ref mp) (putF "lots" (.ref ll) (putF "dies" (.ref ld) (putF "kinds" (.ref lk) (putF "keeps" (.int n) fs)))))))))
        refine ⟨_, rfl, wr_new upd_same T.cl_Mint T.n_Mint_paid (by omega) rfl ?_⟩
        rw [efs, put_all, upd_upd, upd_upd, upd_upd, upd_upd, upd_upd]
        have k7 := B47 _ _ k4 nkp
        have d7 := B47 _ _ d4 ndp
        have h7 := B47 _ _ h4 nlp
        have ncp : lc ≠ p := fun e => by rw [e, p7] at nc; cases nc
        have nck : lk ≠ lc := fun e => by rw [← e, k7] at nc; cases nc
        have ncd : ld ≠ lc := fun e => by rw [← e, d7] at nc; cases nc
        have ncl : ll ≠ lc := fun e => by rw [← e, h7] at nc; cases nc
        have B04 : But p H H4 := ((B1.trans B2).trans B3).trans (But.same s4)
        have ncH : H lc = none := by
          cases q : H lc with
          | none => rfl
          | some o =>
            rw [(B04.trans B47) lc o q ncp] at nc
            cases nc
        have B8 : But p H7 (upd (upd H7 lc (.lst (nv (List.replicate 6 0)))) p (.ins Z.c_Mint dx (fs_Mint (.int n) (.ref lk) (.ref ld) (.ref ll) (.ref mp) (.ref lc) (.int 0) (.int 0) (.int 0) (.int 0) (.int 0)))) := (But.same s8).trans But.upd
        have mB : ∀ {G1 G2 : Hp} {a m}, But p G1 G2 → a ≠ p → MetalAt Z G1 a m → MetalAt Z G2 a m := by
          rintro G1 G2 a m B ne ⟨da, ha⟩
          exact ⟨da, B _ _ ha ne⟩
        refine k _ lk ld ll mp lc ms upd_same (B8 _ _ k7 nkp) (B8 _ _ d7 ndp) (B8 _ _ h7 nlp) hm (fun a ha => mB (B47.trans B8) (hA a ha).1 (hA a ha).2) (mB (B7.trans B8) nmp ⟨dm, m6⟩) ?_ nkH ndH nlH ncH nkd nlk nck nld ncd ncl ((B04.trans B47).trans B8)
        · rw [upd_ne ncp, upd_same]
end
end Mi


set_option Elab.async false
set_option linter.all false
set_option maxRecDepth 100000
set_option maxHeartbeats 4000000
namespace Mi
open PySem PySem.Spec PyProof.Rows L2
open Km408 (Metal Mint ones)
open MP (picks avail mix lotAt)
theorem drop_cut (xs : List V) (n : Nat) : cutV xs (some (n : Int)) none = xs.drop n := by
  unfold cutV
  rw [HT.sIx_none, HT.sIx_nat]
  by_cases h : n ≤ xs.length
  · rw [Nat.min_eq_left h, List.take_of_length_le (by rw [List.length_drop]; omega)]
  · rw [Nat.min_eq_right (by omega), Nat.sub_self, List.take_zero, List.drop_of_length_le (by omega)]
theorem nv_take (l : List Nat) (n : Nat) : (nv l).take n = nv (l.take n) := by
  unfold nv
  rw [List.map_take]
theorem nv_drop (l : List Nat) (n : Nat) : (nv l).drop n = nv (l.drop n) := by
  unfold nv
  rw [List.map_drop]
section
variable {P : Program} {w : World} {K : PySem.W.Frag} {mg : Str → Option Value} {base : Heap} {Z : Adr}
section
variable {ρ ρ' : Roles} {i : Nat} {H H1 : Hp} {f : Fp} {s : Mint}
/-- a kind's stock becomes a new one -/
theorem MintAt.kNewStock (h : MintAt Z ρ i H f s) {j : Nat} {k : KP} {kd : Km408.Kind} {l : Addr} (hk : f.ks[j]? = some k) (hd : s.kinds[j]? = some kd) (hl : H l = none) (ns : List Nat) :
    MintAt Z (setR ρ l (.stock i j)) i (upd (upd H l (.lst (nv ns))) k.a (.ins Z.c_Kind k.dx (fs_Kind (.int kd.grains) (.int kd.fine) (.int kd.remedy) (.int kd.struck) (.ref l) (.ref k.bx)))) { f with ks := f.ks.set j { k with st := l } } { s with kinds := s.kinds.set j { kd with stock := ns } } ∧
    Fr Z ρ i H (upd (upd H l (.lst (nv ns))) k.a (.ins Z.c_Kind k.dx (fs_Kind (.int kd.grains) (.int kd.fine) (.int kd.remedy) (.int kd.struck) (.ref l) (.ref k.bx)))) ∧ Ext H ρ (setR ρ l (.stock i j)) := by
  have KA := h.kat j k kd hk hd
  have sn : Same H (upd H l (.lst (nv ns))) := Same.new hl
  have F : Fr Z ρ i H (upd (upd H l (.lst (nv ns))) k.a (.ins Z.c_Kind k.dx (fs_Kind (.int kd.grains) (.int kd.fine) (.int kd.remedy) (.int kd.struck) (.ref l) (.ref k.bx)))) := (Fr.same sn).trans (Ext.refl _ _) (Fr.upd (sn _ _ KA.obj) kind_imm (by rw [KA.ra]; rfl))
  have nla : l ≠ k.a := fun e => by
    have := KA.obj
    rw [← e, hl] at this
    cases this
  have ro : ∀ {b o}, H b = some o → setR ρ l (.stock i j) b = ρ b := fun q => setR_ne (ne_of_none q hl)
  refine ⟨h.kindTo (k' := { k with st := l }) hk rfl ⟨upd_same, (ro KA.obj).trans KA.ra, ?_, setR_same, ?_, (ro KA.bx).trans KA.rb⟩ (fun b o q _ r1 _ _ => ⟨?_, ro q⟩) F.imm, F, fun b o q => ro q⟩
  · rw [upd_ne nla, upd_same]
  · rw [upd_ne (role_ne KA.rb KA.ra (by intro z; cases z))]
    exact sn _ _ KA.bx
  · rw [upd_ne (fun e => r1 (by rw [e]; exact KA.ra))]
    exact sn _ _ q
end
/-! ### mi_break -/
def sp_put_box_in_pot (Z : Adr) : Sp := fun vs H Q _ => ∃ (ρ : Roles) (i : Nat) (f : Fp) (s : Mint) (kd : Nat), vs = [.ref f.a, .int kd] ∧ MintAt Z ρ i H f s ∧ MG.Good s ∧ CallPost Z ρ i H f (res (.break_ kd) s) Q
theorem ok_put_box_in_pot (T : Txt K mg Z) : FnOk P w K mg base CX0 4 Z.f_put_box_in_pot Z.d_put_box_in_pot ["mint", "k"] (sp_put_box_in_pot Z) := by
  refine T.F_put_box_in_pot.ok sc_put_box_in_pot (fun vs H Q E h => ?_) (fun cdv A outer s0 H vs Q E hr h => ?_)
  · obtain ⟨ρ, i, f, s, kd, rfl, _⟩ := h
    rfl
  · obtain ⟨ρ, i, f, s, kd, rfl, M, G, k⟩ := h
    refine ⟨_, (pss_cons (ps_if (pt_not (pt_val (pe_meth (pv 0) T.cl_Mint T.m_Mint_has_kind (ok_Mint_has_kind T) (hr.mono (by decide)) (b_Mint_has_kind T) .nil pass0 ((pa_cons (pv 1) pa_nil))))) (pss_one (ps_ret (pe_lst (pa_cons (pe_gint rfl T.k_NOT_THERE) pa_nil)))) pss_nil) (pss_cons (ps_set (i := 2) (sc_put_box_in_pot).nd rfl (Or.inl rfl) (pe_ix ix_list (pe_fld (pv 0) rfl) (pv 1) (fun _ _ => rfl))) (pss_cons (ps_if (pt_cmpR op_eq (pe_callB call_len_seq (by rfl) T.n_len PySem.boot_len (pa_cons (pe_fld (pv 2) rfl) pa_nil)) pe_int (nomark _)) (pss_one (ps_ret (pe_lst (pa_cons (pe_gint rfl T.k_BOX_EMPTY) pa_nil)))) pss_nil) (pss_cons (ps_set (i := 3) (sc_put_box_in_pot).nd rfl (Or.inl rfl) (pe_meth (pe_fld (pv 0) rfl) T.cl_Metal T.m_Metal_together_with (ok_Metal_together_with T) (hr.mono (by decide)) (b_Metal_together_with T) .nil pass0 ((pa_cons (pe_meth (pv 2) T.cl_Kind T.m_Kind_metal_of (ok_Kind_metal_of T) (hr.mono (by decide)) (b_Kind_metal_of T) .nil pass0 ((pa_cons (pe_callB (cr_sum rfl) (by rfl) T.n_sum boot_sum (pa_cons (pe_fld (pv 2) rfl) pa_nil)) pa_nil))) pa_nil)))) (pss_cons (ps_if (pt_cmpR op_gt (pe_fld (pv 3) rfl) (pe_gint rfl T.k_MOST_IN_POT) (nomark _)) (pss_one (ps_ret (pe_lst (pa_cons (pe_gint rfl T.k_NO_ROOM) pa_nil)))) pss_nil) (pss_cons (ps_set (i := 4) (sc_put_box_in_pot).nd rfl (Or.inl rfl) (pe_callB call_len_seq (by rfl) T.n_len PySem.boot_len (pa_cons (pe_fld (pv 2) rfl) pa_nil))) (pss_cons (ps_fld (pv 0) (pv 3) rfl) (pss_cons (ps_fld (pv 2) (pe_lst pa_nil) rfl) (pss_one (ps_ret (pe_lst (pa_cons (pv 4) pa_nil)))))))))))), ?_⟩
    refine ⟨_, rfl, me_Mint_has_kind M.obj ⟨_, rfl, ρ, i, f, s, kd, rfl, M, _, rfl, ite2 (fun h1 => ?_) (fun h1 => ?_)⟩⟩
    · simp at h1
      exact tells M k (r_nokind h1 (.inr (.inr (.inr (.inr (.inr (.inr (.inl rfl)))))))) rfl (by decide)
    · have h1 : kd < s.kinds.length := by
        simp at h1
        omega
      obtain ⟨kp, c, hk, hc, KA⟩ := M.kind h1
      have GK := MG.kind_good G hc
      refine ⟨_, rfl, rd_Mint_kinds T M.obj ⟨_, rfl, f.lk, _, _, .ref kp.a, rfl, rfl, SqL.of M.lk, atI_nat (kref_at hk), ?_⟩⟩
      refine ⟨_, rfl, rd_Kind_box T KA.obj ⟨kp.bx, _, rfl, .inl (SqL.of KA.bx), rfl, _, rfl, ite2 (fun h2 => ?_) (fun h2 => ?_)⟩⟩
      · refine tells M k (ans := [-6]) ?_ rfl (by decide)
        have h2 := (int_lit (n := 0) rfl).mp (of_decide_eq_true h2)
        rw [nv_len, len_zero] at h2
        unfold res Km408.act
        simp only
        rw [hc]
        simp only
        rw [if_pos (by exact h2)]
        rfl
      · have h2 : ¬ c.box = [] := fun e => h2 (decide_eq_true ((int_lit (n := 0) rfl).mpr (by rw [nv_len, e]; rfl)))
        obtain ⟨dp, hP⟩ := M.pot
        refine ⟨_, rfl, rd_Mint_pot T M.obj (me_Metal_together_with hP ⟨_, rfl, me_Kind_metal_of KA.obj ⟨_, rfl, rd_Kind_box T KA.obj ⟨kp.bx, _, rfl, (by rw [← nv_ints]; exact SqL.of KA.bx), ?_⟩⟩⟩)⟩
        rw [sum_cast]
        refine ⟨ρ, i, kd, kp, c, Km408.sum c.box, rfl, KA, GK.f2, fun H0 q0 sn hX => ?_⟩
        refine ⟨f.mp, q0, s.pot, ⟨Km408.sum c.box, c.fine * Km408.sum c.box⟩, rfl, ⟨dp, sn _ _ hP⟩, hX, fun H1 q s1 hq => ?_⟩
        have sm := sn.trans s1
        have M1 := M.same sm
        have KA1 := M1.kat kd kp c hk hc
        obtain ⟨dq, hq⟩ := hq
        have eg : (s.pot.plus ⟨Km408.sum c.box, c.fine * Km408.sum c.box⟩).grains = s.pot.grains + Km408.sum c.box := rfl
        refine ⟨_, rfl, rd_Metal_grains T hq ⟨_, _, rfl, rfl, _, rfl, ite2 (fun h3 => ?_) (fun h3 => ?_)⟩⟩
        · refine tells M1 (k.same sm) (ans := [-28]) ?_ rfl (by decide)
          have h3 := of_decide_eq_true h3
          rw [eg] at h3
          unfold res Km408.act
          simp only
          rw [hc]
          simp only
          rw [if_neg (by exact h2), if_pos (by show 2000000 < s.pot.grains + Km408.sum c.box; omega)]
          rfl
        · have h3 := not_dec h3
          rw [eg] at h3
          refine ⟨_, rfl, rd_Kind_box T KA1.obj ⟨kp.bx, _, rfl, .inl (SqL.of KA1.bx), ?_⟩⟩
          obtain ⟨M2, F2⟩ := M1.put (q := q) (s' := { s with pot := s.pot.plus ⟨Km408.sum c.box, c.fine * Km408.sum c.box⟩ }) ⟨dq, hq⟩ rfl rfl rfl rfl
          refine ⟨_, rfl, _, rfl, wr_Mint_pot T M1.obj ?_⟩
          have KA2 := M2.kat kd kp c hk hc
          refine ⟨Nat.zero_le _, fun l hl => ⟨_, rfl, wr_Kind_box T (Same.new hl _ _ KA2.obj) ?_⟩⟩
          obtain ⟨M3, F3, E3⟩ := M2.kNewBox hk hc hl
          have F02 : Fr Z ρ i H _ := (Fr.same sm).trans (Ext.refl _ _) F2
          refine ⟨_, rfl, ?_⟩
          rw [nv_len]
          refine tells2 M3 (F02.trans (Ext.refl _ _) F3) (fun b o q => ?_) rfl k (ans := [((c.box.length : Nat) : Int)]) ?_ rfl (by show 1 ≤ 25; decide)
          · obtain ⟨o', q'⟩ := F02.some_ b o q
            exact E3 b o' q'
          · unfold res Km408.act
            simp only
            rw [hc]
            simp only
            rw [if_neg (by exact h2), if_neg (by show ¬ 2000000 < s.pot.grains + Km408.sum c.box; omega)]
            rfl
/-! ### mi_pay -/
theorem price_eq (n g f : Nat) : f * (n * g) = n * (g * f) := by rw [Nat.mul_comm f, Nat.mul_assoc]
def sp_pay (Z : Adr) : Sp := fun vs H Q _ => ∃ (ρ : Roles) (i : Nat) (f : Fp) (s : Mint) (p kd n : Nat), vs = [.ref f.a, .int p, .int kd, .int n] ∧ MintAt Z ρ i H f s ∧ MG.Good s ∧ CallPost Z ρ i H f (res (.pay p kd n) s) Q
theorem ok_pay (T : Txt K mg Z) : FnOk P w K mg base CX0 4 Z.f_pay Z.d_pay ["mint", "p", "k", "n"] (sp_pay Z) := by
  refine T.F_pay.ok sc_pay (fun vs H Q E h => ?_) (fun cdv A outer s0 H vs Q E hr h => ?_)
  · obtain ⟨ρ, i, f, s, p, kd, n, rfl, _⟩ := h
    rfl
  · obtain ⟨ρ, i, f, s, p, kd, n, rfl, M, G, k⟩ := h
    refine ⟨_, (pss_cons (ps_if (PW.pt (pw_or (pt_not (pt_val (pe_meth (pv 0) T.cl_Mint T.m_Mint_has_person (ok_Mint_has_person T) (hr.mono (by decide)) (b_Mint_has_person T) .nil pass0 ((pa_cons (pv 1) pa_nil))))) (pw_or1 (pt_not (pt_val (pe_meth (pv 0) T.cl_Mint T.m_Mint_has_kind (ok_Mint_has_kind T) (hr.mono (by decide)) (b_Mint_has_kind T) .nil pass0 ((pa_cons (pv 2) pa_nil)))))))) (pss_one (ps_ret (pe_lst (pa_cons (pe_gint rfl T.k_NOT_THERE) pa_nil)))) pss_nil) (pss_cons (ps_if (pt_cmpR op_eq (pv 3) pe_int (nomark _)) (pss_one (ps_ret (pe_lst (pa_cons (pe_gint rfl T.k_NOT_AS_TOLD) pa_nil)))) pss_nil) (pss_cons (ps_set (i := 4) (sc_pay).nd rfl (Or.inl rfl) (pe_ix ix_list (pe_fld (pv 0) rfl) (pv 2) (fun _ _ => rfl))) (pss_cons (ps_if (pt_cmpR op_gt (pv 3) (pe_callB call_len_seq (by rfl) T.n_len PySem.boot_len (pa_cons (pe_fld (pv 4) rfl) pa_nil)) (nomark _)) (pss_one (ps_ret (pe_lst (pa_cons (pe_gint rfl T.k_TOO_FEW_COINS) pa_nil)))) pss_nil) (pss_cons (ps_set (i := 5) (sc_pay).nd rfl (Or.inl rfl) (pe_fld (pe_meth (pv 4) T.cl_Kind T.m_Kind_metal_of (ok_Kind_metal_of T) (hr.mono (by decide)) (b_Kind_metal_of T) .nil pass0 ((pa_cons (pe_op op_mul (pv 3) (pe_fld (pv 4) rfl)) pa_nil))) rfl)) (pss_cons (ps_if (pt_cmpR op_gt (pv 5) (pe_ix ix_list (pe_fld (pv 0) rfl) (pv 1) (fun _ _ => rfl)) (nomark _)) (pss_one (ps_ret (pe_lst (pa_cons (pe_gint rfl T.k_TOO_LITTLE_CREDIT) pa_nil)))) pss_nil) (pss_cons (ps_set (i := 6) (sc_pay).nd rfl (Or.inl rfl) (pe_meth (pv 4) T.cl_Kind T.m_Kind_metal_of (ok_Kind_metal_of T) (hr.mono (by decide)) (b_Kind_metal_of T) .nil pass0 ((pa_cons (pe_callB (cr_sum rfl) (by rfl) T.n_sum boot_sum (pa_cons (pe_slice sl_list (pe_fld (pv 4) rfl) po_none (po_some (pv 3))) pa_nil)) pa_nil)))) (pss_cons (ps_fld (pv 4) (pe_slice sl_list (pe_fld (pv 4) rfl) (po_some (pv 3)) po_none) rfl) (pss_cons (ps_fld (pv 0) (pe_op op_add (pe_fld (pv 0) rfl) (pe_fld (pv 6) rfl)) rfl) (pss_cons (ps_asg (pe_op op_sub (pe_ix ix_list (pe_fld (pv 0) rfl) (pv 1) (fun _ _ => rfl)) (pv 5)) (pg_sub (pe_fld (pv 0) rfl) (pv 1) set_list)) (pss_cons (ps_fld (pv 0) (pe_op op_add (pe_fld (pv 0) rfl) (pv 5)) rfl) (pss_one (ps_ret (pe_lst (pa_cons (pe_ix ix_list (pe_fld (pv 0) rfl) (pv 1) (fun _ _ => rfl)) (pa_cons (pe_fld (pv 6) rfl) pa_nil)))))))))))))))), ?_⟩
    refine ⟨_, rfl, me_Mint_has_person M.obj ⟨_, rfl, _, p, rfl, _, rfl, ite2 (fun h1 => iteT ?_) (fun h1 => ?_)⟩⟩
    · refine tells M k (ans := [-2]) ?_ rfl (by decide)
      simp at h1
      unfold res Km408.act
      simp only
      cases e : s.kinds[kd]? with
      | none => rfl
      | some c =>
        simp only
        rw [if_pos (by exact h1)]
        rfl
    · have h1 : p < 6 := by
        simp at h1
        omega
      have hp6 : ¬ Km408.PEOPLE ≤ p := by
        show ¬ 6 ≤ p
        omega
      refine ⟨_, rfl, me_Mint_has_kind M.obj ⟨_, rfl, ρ, i, f, s, kd, rfl, M, _, rfl, ite2 (fun h2 => ?_) (fun h2 => ?_)⟩⟩
      · refine tells M k (ans := [-2]) ?_ rfl (by decide)
        simp at h2
        unfold res Km408.act
        simp only
        rw [List.getElem?_eq_none h2]
        rfl
      · have h2 : kd < s.kinds.length := by
          simp at h2
          omega
        obtain ⟨kp, c, hk, hc, KA⟩ := M.kind h2
        have GK := MG.kind_good G hc
        have g2 := GK.g2
        have gn := GK.n
        refine ⟨_, rfl, rfl, _, rfl, ite2 (fun h3 => ?_) (fun h3 => ?_)⟩
        · refine tells M k (ans := [-22]) ?_ rfl (by decide)
          have h3 := (int_lit (n := 0) rfl).mp (of_decide_eq_true h3)
          unfold res Km408.act
          simp only
          rw [hc]
          simp only
          rw [if_neg hp6, if_pos h3]
          rfl
        · have h3 : ¬ n = 0 := fun e => h3 (decide_eq_true ((int_lit (n := 0) rfl).mpr e))
          refine ⟨_, rfl, rd_Mint_kinds T M.obj ⟨_, rfl, f.lk, _, _, .ref kp.a, rfl, rfl, SqL.of M.lk, atI_nat (kref_at hk), ?_⟩⟩
          refine ⟨_, rfl, _, rfl, rd_Kind_stock T KA.obj ⟨kp.st, _, rfl, .inl (SqL.of KA.st), _, _, rfl, rfl, _, rfl, ite2 (fun h4 => ?_) (fun h4 => ?_)⟩⟩
          · refine tells M k (ans := [-12]) ?_ rfl (by decide)
            have h4 := of_decide_eq_true h4
            rw [nv_len] at h4
            unfold res Km408.act
            simp only
            rw [hc]
            simp only
            rw [if_neg hp6, if_neg h3, if_pos (by omega)]
            rfl
          · have h4 := not_dec h4
            rw [nv_len] at h4
            have h4 : ¬ c.stock.length < n := by omega
            obtain ⟨c0, hc0⟩ : ∃ c0, s.credits[p]? = some c0 := ⟨_, List.getElem?_eq_getElem (by rw [G.cl]; exact h1)⟩
            have hcd : s.credits.getD p 0 = c0 := by rw [List.getD_eq_getElem?_getD, hc0]; rfl
            have hci : (nv s.credits)[p]? = some (.int c0) := nv_at hc0
            refine ⟨_, rfl, me_Kind_metal_of KA.obj ⟨_, rfl, _, rfl, rd_Kind_grains T KA.obj ⟨_, _, rfl, rfl, mul_small rfl (by omega), ?_⟩⟩⟩
            dsimp only
            rw [← Int.natCast_mul]
            refine ⟨ρ, i, kd, kp, c, n * c.grains, rfl, KA, GK.f2, fun H1 q1 s1 hq1 => ?_⟩
            obtain ⟨dq1, hq1⟩ := hq1
            have M1 := M.same s1
            refine rd_Metal_carats T hq1 ?_
            refine ⟨_, rfl, _, rfl, rd_Mint_credit T M1.obj ⟨_, rfl, f.lc, _, _, .int c0, rfl, rfl, SqL.of M1.lc, atI_nat hci, _, _, rfl, rfl, _, rfl, ite2 (fun h5 => ?_) (fun h5 => ?_)⟩⟩
            · refine tells M1 (k.same s1) (ans := [-20]) ?_ rfl (by decide)
              have h5 : (c0 : Int) < ((c.fine * (n * c.grains) : Nat) : Int) := of_decide_eq_true h5
              rw [price_eq] at h5
              unfold res Km408.act
              simp only
              rw [hc]
              simp only
              rw [if_neg hp6, if_neg h3, if_neg h4, hcd, if_pos (by omega)]
              rfl
            · have h5 : ¬ (c0 : Int) < ((c.fine * (n * c.grains) : Nat) : Int) := not_dec h5
              rw [price_eq] at h5
              have KA1 := M1.kat kd kp c hk hc
              -- metal
              refine ⟨_, rfl, me_Kind_metal_of KA1.obj ⟨_, rfl, rd_Kind_stock T KA1.obj ⟨_, rfl, _, rfl, kp.st, _, rfl, SqL.of KA1.st, fun t ht => ?_⟩⟩⟩
              rw [take_cut, nv_take]
              have s2 : Same H1 (upd H1 t (.lst (nv (c.stock.take n)))) := Same.new ht
              have M2 := M1.same s2
              have KA2 := M2.kat kd kp c hk hc
              refine ⟨t, _, rfl, (by rw [← nv_ints]; exact SqL.of upd_same), ?_⟩
              rw [sum_cast]
              refine ⟨ρ, i, kd, kp, c, Km408.sum (c.stock.take n), rfl, KA2, GK.f2, fun H3 q3 s3 hq3 => ?_⟩
              obtain ⟨dq3, hq3⟩ := hq3
              have sm := s1.trans (s2.trans s3)
              have M3 := M.same sm
              have KA3 := M3.kat kd kp c hk hc
              -- stock
              refine ⟨_, rfl, rd_Kind_stock T KA3.obj ⟨_, rfl, _, rfl, kp.st, _, rfl, SqL.of KA3.st, fun l hl => ?_⟩⟩
              rw [drop_cut, nv_drop]
              refine ⟨_, rfl, wr_Kind_stock T (Same.new hl _ _ KA3.obj) ?_⟩
              obtain ⟨M4, F4, E4⟩ := M3.kNewStock hk hc hl (c.stock.drop n)
              have hq4 := F4.imm _ _ hq3 ⟨dq3, _, _, rfl⟩
              obtain ⟨s4, es4⟩ : ∃ s4 : Mint, s4 = { s with kinds := s.kinds.set kd { c with stock := c.stock.drop n } } := ⟨_, rfl⟩
              rw [← es4] at M4
              have cr4 : s4.credits = s.credits := by rw [es4]
              -- paid
              obtain ⟨M5, F5⟩ := M4.put (q := f.mp) (s' := { s4 with paid := s.paid.plus ⟨Km408.sum (c.stock.take n), c.fine * Km408.sum (c.stock.take n)⟩ }) M4.pot rfl rfl rfl rfl
              have hq5 := F5.imm _ _ hq4 ⟨dq3, _, _, rfl⟩
              have ep : (s4.paid.carats : Int) = (s.paid.carats : Int) := by rw [es4]
              refine ⟨_, rfl, rd_Mint_paid T M4.obj ⟨_, rfl, rd_Metal_carats T hq4 ⟨_, _, rfl, rfl, _, rfl, wr_Mint_paid T M4.obj ?_⟩⟩⟩
              dsimp only
              rw [ep]
              -- credit
              have hci5 : (nv s4.credits)[p]? = some (.int c0) := by rw [cr4]; exact hci
              obtain ⟨M6, F6⟩ := M5.cred p (c0 - n * (c.grains * c.fine))
              refine ⟨_, rfl, rd_Mint_credit T M5.obj ⟨_, rfl, f.lc, _, _, .int c0, rfl, rfl, SqL.of M5.lc, atI_nat hci5, _, rfl, _, _, rfl, rfl, ?_⟩⟩
              have ec : (c0 : Int) - ((c.fine * (n * c.grains) : Nat) : Int) = ((c0 - n * (c.grains * c.fine) : Nat) : Int) := by
                rw [price_eq]
                omega
              dsimp only
              rw [ec]
              refine ⟨_, rfl, rd_Mint_credit T M5.obj ⟨_, rfl, f.lc, _, _, p, rfl, rfl, M5.lc, ixN_nat (by rw [nv_len]; show p < s4.credits.length; rw [cr4, G.cl]; exact h1), ?_⟩⟩
              -- lessened
              obtain ⟨M7, F7⟩ := M6.put (q := f.mp) (s' := { s4 with paid := s.paid.plus ⟨Km408.sum (c.stock.take n), c.fine * Km408.sum (c.stock.take n)⟩, credits := s4.credits.set p (c0 - n * (c.grains * c.fine)), owed := s.owed + n * (c.grains * c.fine) }) M6.pot rfl rfl rfl rfl
              have eo : (s4.owed : Int) + ((c.fine * (n * c.grains) : Nat) : Int) = ((s.owed + n * (c.grains * c.fine) : Nat) : Int) := by
                rw [price_eq, es4, Int.natCast_add]
              refine ⟨_, rfl, rd_Mint_lessened T M6.obj ⟨_, rfl, _, _, rfl, rfl, _, rfl, wr_Mint_lessened T M6.obj ?_⟩⟩
              dsimp only
              rw [eo]
              have hq7 := F7.imm _ _ (F6.imm _ _ hq5 ⟨dq3, _, _, rfl⟩) ⟨dq3, _, _, rfl⟩
              have hci7 : (nv (s4.credits.set p (c0 - n * (c.grains * c.fine))))[p]? = some (.int ((c0 - n * (c.grains * c.fine) : Nat) : Int)) := nv_at (List.getElem?_set_self (by rw [cr4, G.cl]; exact h1))
              refine ⟨_, rfl, rd_Mint_credit T M7.obj ⟨_, rfl, f.lc, _, _, _, rfl, rfl, SqL.of M7.lc, atI_nat hci7, _, rfl, rd_Metal_grains T hq7 ?_⟩⟩
              have F03 : Fr Z ρ i H H3 := Fr.same sm
              have E47 : Ext H ρ (setR ρ l (.stock i kd)) := fun b o q => by
                obtain ⟨o', q'⟩ := F03.some_ b o q
                exact E4 b o' q'
              refine tells2 M7 (F03.trans (Ext.refl _ _) (F4.trans E4 (F5.trans (Ext.refl _ _) (F6.trans (Ext.refl _ _) F7)))) E47 rfl k (ans := [((c0 - n * (c.grains * c.fine) : Nat) : Int), ((Km408.sum (c.stock.take n) : Nat) : Int)]) ?_ rfl (by show 2 ≤ 25; decide)
              unfold res Km408.act
              simp only
              rw [hc]
              simp only
              rw [if_neg hp6, if_neg h3, if_neg h4, hcd, if_neg (by omega), es4]
              rfl
/-! ### mi_credit, mi_stock, mi_off, mi_pot -/
def sp_tell_credit (Z : Adr) : Sp := fun vs H Q _ => ∃ (ρ : Roles) (i : Nat) (f : Fp) (s : Mint) (p : Nat), vs = [.ref f.a, .int p] ∧ MintAt Z ρ i H f s ∧ MG.Good s ∧ CallPost Z ρ i H f (res (.credit p) s) Q
theorem ok_tell_credit (T : Txt K mg Z) : FnOk P w K mg base CX0 2 Z.f_tell_credit Z.d_tell_credit ["mint", "p"] (sp_tell_credit Z) := by
  refine T.F_tell_credit.ok sc_tell_credit (fun vs H Q E h => ?_) (fun cdv A outer s0 H vs Q E hr h => ?_)
  · obtain ⟨ρ, i, f, s, p, rfl, _⟩ := h
    rfl
  · obtain ⟨ρ, i, f, s, p, rfl, M, G, k⟩ := h
    refine ⟨_, (pss_cons (ps_if (pt_not (pt_val (pe_meth (pv 0) T.cl_Mint T.m_Mint_has_person (ok_Mint_has_person T) (hr.mono (by decide)) (b_Mint_has_person T) .nil pass0 ((pa_cons (pv 1) pa_nil))))) (pss_one (ps_ret (pe_lst (pa_cons (pe_gint rfl T.k_NOT_THERE) pa_nil)))) pss_nil) (pss_one (ps_ret (pe_lst (pa_cons (pe_ix ix_list (pe_fld (pv 0) rfl) (pv 1) (fun _ _ => rfl)) pa_nil))))), ?_⟩
    refine ⟨_, rfl, me_Mint_has_person M.obj ⟨_, rfl, _, p, rfl, _, rfl, ite2 (fun h1 => ?_) (fun h1 => ?_)⟩⟩
    · refine tells M k (ans := [-2]) ?_ rfl (by decide)
      simp at h1
      unfold res Km408.act
      simp only
      rw [if_pos (by exact h1)]
      rfl
    · have h1 : p < 6 := by
        simp at h1
        omega
      obtain ⟨c0, hc0⟩ : ∃ c0, s.credits[p]? = some c0 := ⟨_, List.getElem?_eq_getElem (by rw [G.cl]; exact h1)⟩
      have hcd : s.credits.getD p 0 = c0 := by rw [List.getD_eq_getElem?_getD, hc0]; rfl
      refine ⟨_, rfl, rd_Mint_credit T M.obj ⟨_, rfl, f.lc, _, _, .int c0, rfl, rfl, SqL.of M.lc, atI_nat (nv_at hc0), ?_⟩⟩
      refine tells M k (ans := [((c0 : Nat) : Int)]) ?_ rfl (by show 1 ≤ 25; decide)
      unfold res Km408.act
      simp only
      rw [if_neg (by show ¬ 6 ≤ p; omega), hcd]
      rfl
def sp_tell_stock (Z : Adr) : Sp := fun vs H Q _ => ∃ (ρ : Roles) (i : Nat) (f : Fp) (s : Mint) (kd : Nat), vs = [.ref f.a, .int kd] ∧ MintAt Z ρ i H f s ∧ MG.Good s ∧ CallPost Z ρ i H f (res (.stock kd) s) Q
theorem ok_tell_stock (T : Txt K mg Z) : FnOk P w K mg base CX0 2 Z.f_tell_stock Z.d_tell_stock ["mint", "k"] (sp_tell_stock Z) := by
  refine T.F_tell_stock.ok sc_tell_stock (fun vs H Q E h => ?_) (fun cdv A outer s0 H vs Q E hr h => ?_)
  · obtain ⟨ρ, i, f, s, kd, rfl, _⟩ := h
    rfl
  · obtain ⟨ρ, i, f, s, kd, rfl, M, G, k⟩ := h
    refine ⟨_, (pss_cons (ps_if (pt_not (pt_val (pe_meth (pv 0) T.cl_Mint T.m_Mint_has_kind (ok_Mint_has_kind T) (hr.mono (by decide)) (b_Mint_has_kind T) .nil pass0 ((pa_cons (pv 1) pa_nil))))) (pss_one (ps_ret (pe_lst (pa_cons (pe_gint rfl T.k_NOT_THERE) pa_nil)))) pss_nil) (pss_cons (ps_set (i := 2) (sc_tell_stock).nd rfl (Or.inl rfl) (pe_ix ix_list (pe_fld (pv 0) rfl) (pv 1) (fun _ _ => rfl))) (pss_one (ps_ret (pe_lst (pa_cons (pe_callB call_len_seq (by rfl) T.n_len PySem.boot_len (pa_cons (pe_fld (pv 2) rfl) pa_nil)) (pa_cons (pe_callB (cr_sum rfl) (by rfl) T.n_sum boot_sum (pa_cons (pe_fld (pv 2) rfl) pa_nil)) (pa_cons (pe_callB call_len_seq (by rfl) T.n_len PySem.boot_len (pa_cons (pe_fld (pv 2) rfl) pa_nil)) (pa_cons (pe_fld (pv 2) rfl) pa_nil))))))))), ?_⟩
    refine ⟨_, rfl, me_Mint_has_kind M.obj ⟨_, rfl, ρ, i, f, s, kd, rfl, M, _, rfl, ite2 (fun h1 => ?_) (fun h1 => ?_)⟩⟩
    · simp at h1
      exact tells M k (r_nokind h1 (.inr (.inr (.inr (.inr (.inr (.inr (.inr (.inl rfl))))))))) rfl (by decide)
    · have h1 : kd < s.kinds.length := by
        simp at h1
        omega
      obtain ⟨kp, c, hk, hc, KA⟩ := M.kind h1
      refine ⟨_, rfl, rd_Mint_kinds T M.obj ⟨_, rfl, f.lk, _, _, .ref kp.a, rfl, rfl, SqL.of M.lk, atI_nat (kref_at hk), ?_⟩⟩
      refine ⟨_, rfl, rd_Kind_stock T KA.obj ⟨kp.st, _, rfl, .inl (SqL.of KA.st), _, rfl, rd_Kind_stock T KA.obj ⟨kp.st, _, rfl, (by rw [← nv_ints]; exact SqL.of KA.st), _, rfl, rd_Kind_box T KA.obj ⟨kp.bx, _, rfl, .inl (SqL.of KA.bx), _, rfl, rd_Kind_struck T KA.obj ?_⟩⟩⟩⟩
      rw [sum_cast, nv_len, nv_len]
      refine tells M k (ans := [((c.stock.length : Nat) : Int), ((Km408.sum c.stock : Nat) : Int), ((c.box.length : Nat) : Int), ((c.struck : Nat) : Int)]) ?_ rfl (by show 4 ≤ 25; decide)
      unfold res Km408.act
      simp only
      rw [hc]
      rfl
def sp_tell_off (Z : Adr) : Sp := fun vs H Q _ => ∃ (ρ : Roles) (i : Nat) (f : Fp) (s : Mint) (kd : Nat), vs = [.ref f.a, .int kd] ∧ MintAt Z ρ i H f s ∧ MG.Good s ∧ CallPost Z ρ i H f (res (.off kd) s) Q
theorem ok_tell_off (T : Txt K mg Z) : FnOk P w K mg base CX0 2 Z.f_tell_off Z.d_tell_off ["mint", "k"] (sp_tell_off Z) := by
  refine T.F_tell_off.ok sc_tell_off (fun vs H Q E h => ?_) (fun cdv A outer s0 H vs Q E hr h => ?_)
  · obtain ⟨ρ, i, f, s, kd, rfl, _⟩ := h
    rfl
  · obtain ⟨ρ, i, f, s, kd, rfl, M, G, k⟩ := h
    refine ⟨_, (pss_cons (ps_if (pt_not (pt_val (pe_meth (pv 0) T.cl_Mint T.m_Mint_has_kind (ok_Mint_has_kind T) (hr.mono (by decide)) (b_Mint_has_kind T) .nil pass0 ((pa_cons (pv 1) pa_nil))))) (pss_one (ps_ret (pe_lst (pa_cons (pe_gint rfl T.k_NOT_THERE) pa_nil)))) pss_nil) (pss_cons (ps_set (i := 2) (sc_tell_off).nd rfl (Or.inl rfl) (pe_ix ix_list (pe_fld (pv 0) rfl) (pv 1) (fun _ _ => rfl))) (pss_cons (ps_set (i := 3) (sc_tell_off).nd rfl (Or.inl rfl) (pe_op op_add (pe_callB call_len_seq (by rfl) T.n_len PySem.boot_len (pa_cons (pe_fld (pv 2) rfl) pa_nil)) (pe_callB call_len_seq (by rfl) T.n_len PySem.boot_len (pa_cons (pe_fld (pv 2) rfl) pa_nil)))) (pss_cons (ps_set (i := 4) (sc_tell_off).nd rfl (Or.inl rfl) (pe_op op_sub (pe_op op_add (pe_callB (cr_sum rfl) (by rfl) T.n_sum boot_sum (pa_cons (pe_fld (pv 2) rfl) pa_nil)) (pe_callB (cr_sum rfl) (by rfl) T.n_sum boot_sum (pa_cons (pe_fld (pv 2) rfl) pa_nil))) (pe_op op_mul (pv 3) (pe_fld (pv 2) rfl)))) (pss_one (ps_ret (pe_lst (pa_cons (pe_callB call_abs (by rfl) T.n_abs boot_abs (pa_cons (pv 4) pa_nil)) (pa_cons (pe_ifExp (pt_cmpR op_gt (pv 4) pe_int (nomark _)) pe_int pe_int) pa_nil))))))))), ?_⟩
    refine ⟨_, rfl, me_Mint_has_kind M.obj ⟨_, rfl, ρ, i, f, s, kd, rfl, M, _, rfl, ite2 (fun h1 => ?_) (fun h1 => ?_)⟩⟩
    · simp at h1
      exact tells M k (r_nokind h1 (.inr (.inr (.inr (.inr (.inr (.inr (.inr (.inr rfl))))))))) rfl (by decide)
    · have h1 : kd < s.kinds.length := by
        simp at h1
        omega
      obtain ⟨kp, c, hk, hc, KA⟩ := M.kind h1
      have GK := MG.kind_good G hc
      have g2 := GK.g2
      refine ⟨_, rfl, rd_Mint_kinds T M.obj ⟨_, rfl, f.lk, _, _, .ref kp.a, rfl, rfl, SqL.of M.lk, atI_nat (kref_at hk), ?_⟩⟩
      refine ⟨_, rfl, rd_Kind_stock T KA.obj ⟨kp.st, _, rfl, .inl (SqL.of KA.st), _, rfl, rd_Kind_box T KA.obj ⟨kp.bx, _, rfl, .inl (SqL.of KA.bx), _, _, rfl, rfl, ?_⟩⟩⟩
      rw [nv_len, nv_len]
      refine ⟨_, rfl, rd_Kind_stock T KA.obj ⟨kp.st, _, rfl, (by rw [← nv_ints]; exact SqL.of KA.st), _, rfl, rd_Kind_box T KA.obj ⟨kp.bx, _, rfl, (by rw [← nv_ints]; exact SqL.of KA.bx), _, _, rfl, rfl, _, rfl, _, rfl, rd_Kind_grains T KA.obj ⟨_, _, rfl, rfl, mul_small rfl (by omega), _, _, rfl, rfl, ?_⟩⟩⟩⟩
      rw [sum_cast, sum_cast]
      have eA : ((Km408.sum c.stock : Nat) : Int) + ((Km408.sum c.box : Nat) : Int) - (((c.stock.length : Nat) : Int) + ((c.box.length : Nat) : Int)) * ((c.grains : Nat) : Int) = ((Km408.sum c.stock + Km408.sum c.box : Nat) : Int) - (((c.stock.length + c.box.length) * c.grains : Nat) : Int) := by
        rw [Int.natCast_add, Int.natCast_mul, Int.natCast_add]
      dsimp only
      rw [eA]
      refine ⟨_, rfl, _, rfl, ?_⟩
      dsimp only
      rw [abs_diff]
      have rr : ∀ b : Bool, decide ((c.stock.length + c.box.length) * c.grains < Km408.sum c.stock + Km408.sum c.box) = b → res (.off kd) s = (s, [((Km408.absDiff (Km408.sum c.stock + Km408.sum c.box) ((c.stock.length + c.box.length) * c.grains) : Nat) : Int), ((Km408.bit b : Nat) : Int)]) := fun b hb => by
        unfold res Km408.act
        simp only
        rw [hc]
        simp only
        rw [hb]
        rfl
      refine ⟨_, rfl, _, _, rfl, rfl, _, rfl, ite2 (fun h3 => ?_) (fun h3 => ?_)⟩
      · refine tells M k (rr true (decide_eq_true ?_)) rfl (by show 2 ≤ 25; decide)
        have h3 := of_decide_eq_true h3
        omega
      · refine tells M k (rr false (decide_eq_false ?_)) rfl (by show 2 ≤ 25; decide)
        have h3 := not_dec h3
        omega
def sp_tell_pot (Z : Adr) : Sp := fun vs H Q _ => ∃ (ρ : Roles) (i : Nat) (f : Fp) (s : Mint), vs = [.ref f.a] ∧ MintAt Z ρ i H f s ∧ MG.Good s ∧ CallPost Z ρ i H f (res .pot s) Q
theorem ok_tell_pot (T : Txt K mg Z) : FnOk P w K mg base CX0 1 Z.f_tell_pot Z.d_tell_pot ["mint"] (sp_tell_pot Z) := by
  refine T.F_tell_pot.ok sc_tell_pot (fun vs H Q E h => ?_) (fun cdv A outer s0 H vs Q E hr h => ?_)
  · obtain ⟨ρ, i, f, s, rfl, _⟩ := h
    rfl
  · obtain ⟨ρ, i, f, s, rfl, M, G, k⟩ := h
    refine ⟨_, (pss_one (ps_ret (pe_lst (pa_cons (pe_fld (pe_fld (pv 0) rfl) rfl) (pa_cons (pe_fld (pe_fld (pv 0) rfl) rfl) pa_nil))))), ?_⟩
    obtain ⟨dp, hP⟩ := M.pot
    refine ⟨_, rfl, rd_Mint_pot T M.obj (rd_Metal_grains T hP ⟨_, rfl, rd_Mint_pot T M.obj (rd_Metal_carats T hP ?_)⟩)⟩
    exact tells M k (ans := [((s.pot.grains : Nat) : Int), ((s.pot.carats : Nat) : Int)]) rfl rfl (by show 2 ≤ 25; decide)
end
end Mi


set_option Elab.async false
set_option linter.all false
set_option maxRecDepth 100000
set_option maxHeartbeats 4000000
namespace Mi
open PySem PySem.Spec PyProof.Rows L2
open Km408 (Metal Mint ones)
open MP (picks avail mix lotAt)
/-- nothing goes -/
def Grow (H H' : Hp) : Prop := ∀ b o, H b = some o → ∃ o', H' b = some o'
theorem Grow.same {H H' : Hp} (s : Same H H') : Grow H H' := fun b o h => ⟨o, s b o h⟩
theorem Grow.upd {H : Hp} {x : Addr} {o : HO} : Grow H (upd H x o) := fun b u h => by
  by_cases e : b = x
  · rw [e]
    exact ⟨o, upd_same⟩
  · rw [upd_ne e]
    exact ⟨u, h⟩
theorem Grow.trans {H H1 H2 : Hp} (a : Grow H H1) (b : Grow H1 H2) : Grow H H2 := fun x o h => by
  obtain ⟨o1, h1⟩ := a x o h
  exact b x o1 h1
theorem Ext.thru {H H1 : Hp} {ρ ρ1 ρ2 : Roles} (a : Ext H ρ ρ1) (g : Grow H H1) (b : Ext H1 ρ1 ρ2) : Ext H ρ ρ2 := fun x o h => by
  obtain ⟨o1, h1⟩ := g x o h
  rw [b x o1 h1, a x o h]
theorem But.grow {p : Addr} {H H' : Hp} (a : But p H H') {o : HO} (h : H' p = some o) : Grow H H' := fun b u e => by
  by_cases q : b = p
  · rw [q]
    exact ⟨o, h⟩
  · exact ⟨u, a b u e q⟩
theorem kref_inv {ks : List KP} {j : Nat} {y : V} (h : (ks.map fun k => V.ref k.a)[j]? = some y) : ∃ kp, ks[j]? = some kp ∧ y = .ref kp.a := by
  rw [List.getElem?_map] at h
  cases e : ks[j]? with
  | none =>
    rw [e] at h
    cases h
  | some kp =>
    rw [e] at h
    exact ⟨kp, rfl, (Option.some.inj h).symm⟩
section
variable {P : Program} {w : World} {K : PySem.W.Frag} {mg : Str → Option Value} {base : Heap} {Z : Adr}
/-! ### a kind, a die once more -/
def sp_Kind_another_alike (Z : Adr) : Sp := fun vs H Q _ => ∃ (ρ : Roles) (i j : Nat) (k : KP) (kd : Km408.Kind), vs = [.ref k.a] ∧ KindAt Z ρ i j H k kd ∧
  ∀ (H' : Hp) (k' : KP), Same H H' → H k'.a = none → H k'.st = none → H k'.bx = none → k'.a ≠ k'.st → k'.a ≠ k'.bx → k'.st ≠ k'.bx →
    H' k'.a = some (.ins Z.c_Kind k'.dx (fs_Kind (.int kd.grains) (.int kd.fine) (.int kd.remedy) (.int kd.struck) (.ref k'.st) (.ref k'.bx))) → H' k'.st = some (.lst (nv kd.stock)) → H' k'.bx = some (.lst (nv kd.box)) → Q (.ref k'.a) H'
theorem ok_Kind_another_alike (T : Txt K mg Z) : FnOk P w K mg base CX0 3 Z.f_Kind_another_alike Z.d_Kind_another_alike ["self"] (sp_Kind_another_alike Z) := by
  refine T.F_Kind_another_alike.ok sc_Kind_another_alike (fun vs H Q E h => ?_) (fun cdv A outer s0 H vs Q E hr h => ?_)
  · obtain ⟨ρ, i, j, kp, kd, rfl, _⟩ := h
    rfl
  · obtain ⟨ρ, i, j, kp, kd, rfl, KA, k⟩ := h
    refine ⟨_, (pss_cons (ps_set (i := 1) (sc_Kind_another_alike).nd rfl (Or.inl rfl) (pe_make T.mk_Kind (ok_Kind_init T) (hr.mono (by decide)) rfl T.g_Kind (b_Kind_init T) .nil pass0 ((pa_cons (pe_fld (pv 0) rfl) (pa_cons (pe_fld (pv 0) rfl) (pa_cons (pe_fld (pv 0) rfl) pa_nil)))))) (pss_cons (ps_fld (pv 1) (pe_fld (pv 0) rfl) rfl) (pss_cons (ps_fld (pv 1) (pe_callTy call_list_of (by rfl) T.n_list boot_list (pa_cons (pe_fld (pv 0) rfl) pa_nil)) rfl) (pss_cons (ps_fld (pv 1) (pe_callTy call_list_of (by rfl) T.n_list boot_list (pa_cons (pe_fld (pv 0) rfl) pa_nil)) rfl) (pss_one (ps_ret (pv 1))))))), ?_⟩
    refine ⟨_, rfl, rd_Kind_grains T KA.obj ⟨_, rfl, rd_Kind_fine T KA.obj ⟨_, rfl, rd_Kind_remedy T KA.obj (fun x dx nx nd _ => ⟨x, dx, _, _, _, rfl, upd_same, fun H1 st bx o1 o2 o3 n2 n3 d23 kp1 => ⟨rfl, ?_⟩⟩)⟩⟩⟩
    have s1 : Same H H1 := Same.made nx nd kp1
    have hold : ∀ {Hc : Hp} {o : HO}, Same H Hc → Same H (upd Hc x o) := fun s b o e => by
      rw [upd_ne (ne_of_none e nx)]
      exact s b o e
    refine ⟨_, rfl, rd_Kind_struck T (s1 _ _ KA.obj) ⟨_, rfl, wr_Kind_struck T o1 ?_⟩⟩
    have s2 : Same H (upd H1 x (.ins Z.c_Kind dx (fs_Kind (.int kd.grains) (.int kd.fine) (.int kd.remedy) (.int kd.struck) (.ref st) (.ref bx)))) := hold s1
    refine ⟨_, rfl, rd_Kind_stock T (s2 _ _ KA.obj) ⟨kp.st, _, rfl, .inl (SqL.of (s2 _ _ KA.st)), fun l1 m1 => ⟨_, rfl, wr_Kind_stock T (Same.new m1 _ _ upd_same) ?_⟩⟩⟩
    have x1 : x ≠ l1 := ne_of_none upd_same m1
    obtain ⟨H3, e3⟩ : ∃ H3, H3 = upd (upd (upd H1 x (.ins Z.c_Kind dx (fs_Kind (.int kd.grains) (.int kd.fine) (.int kd.remedy) (.int kd.struck) (.ref st) (.ref bx)))) l1 (.lst (nv kd.stock))) x (.ins Z.c_Kind dx (fs_Kind (.int kd.grains) (.int kd.fine) (.int kd.remedy) (.int kd.struck) (.ref l1) (.ref bx))) := ⟨_, rfl⟩
    have s3 : Same H H3 := by
      rw [e3]
      exact hold (s2.trans (Same.new m1))
    have p3 : H3 x = some (.ins Z.c_Kind dx (fs_Kind (.int kd.grains) (.int kd.fine) (.int kd.remedy) (.int kd.struck) (.ref l1) (.ref bx))) := by
      rw [e3]
      exact upd_same
    have q3 : H3 l1 = some (.lst (nv kd.stock)) := by rw [e3, upd_ne (Ne.symm x1), upd_same]
    have n1 : H l1 = none := s2.free m1
    rw [← e3]
    refine ⟨_, rfl, rd_Kind_box T (s3 _ _ KA.obj) ⟨kp.bx, _, rfl, .inl (SqL.of (s3 _ _ KA.bx)), fun l2 m2 => ⟨_, rfl, wr_Kind_box T (Same.new m2 _ _ p3) ?_⟩⟩⟩
    have x2 : x ≠ l2 := ne_of_none p3 m2
    have d12 : l1 ≠ l2 := ne_of_none q3 m2
    refine ⟨_, rfl, k _ ⟨x, dx, l1, l2⟩ (hold (s3.trans (Same.new m2))) nx n1 (s3.free m2) x1 x2 d12 upd_same ?_ ?_⟩
    · show upd _ x _ l1 = _
      rw [upd_ne (Ne.symm x1), upd_ne d12]
      exact q3
    · show upd _ x _ l2 = _
      rw [upd_ne (Ne.symm x2), upd_same]
def sp_Die_another_alike (Z : Adr) : Sp := fun vs H Q _ => ∃ (ρ : Roles) (i j : Nat) (e : Addr) (d : Km408.Die), vs = [.ref e] ∧ DieAt Z ρ i j H e d ∧
  ∀ (H' : Hp) (e' dx : Addr), Same H H' → H e' = none → H' e' = some (.ins Z.c_Die dx (fs_Die (.int d.kind) (.int d.left))) → Q (.ref e') H'
theorem ok_Die_another_alike (T : Txt K mg Z) : FnOk P w K mg base CX0 3 Z.f_Die_another_alike Z.d_Die_another_alike ["self"] (sp_Die_another_alike Z) := by
  refine T.F_Die_another_alike.ok sc_Die_another_alike (fun vs H Q E h => ?_) (fun cdv A outer s0 H vs Q E hr h => ?_)
  · obtain ⟨ρ, i, j, e, d, rfl, _⟩ := h
    rfl
  · obtain ⟨ρ, i, j, e, d, rfl, DA, k⟩ := h
    refine ⟨_, (pss_one (ps_ret (pe_make T.mk_Die (ok_Die_init T) (hr.mono (by decide)) rfl T.g_Die (b_Die_init T) .nil pass0 ((pa_cons (pe_fld (pv 0) rfl) (pa_cons (pe_fld (pv 0) rfl) pa_nil)))))), ?_⟩
    obtain ⟨dd, hD⟩ := DA.obj
    refine ⟨_, rfl, rd_Die_kind T hD ⟨_, rfl, rd_Die_left T hD (mk_Die_of fun x dx nx nd => ?_)⟩⟩
    exact k _ x dx (same_newI nx nd) nx newI_at
/-! ### a mint once more -/
def sp_Mint_another_alike (Z : Adr) : Sp := fun vs H Q _ => ∃ (ρ : Roles) (i : Nat) (f : Fp) (s : Mint) (n : Nat), vs = [.ref f.a] ∧ MintAt Z ρ i H f s ∧ MG.Good s ∧
  ∀ (H' : Hp) (ρ' : Roles) (f' : Fp), Same H H' → Ext H ρ ρ' → MintAt Z ρ' n H' f' s → Q (.ref f'.a) H'
theorem ok_Mint_another_alike (T : Txt K mg Z) : FnOk P w K mg base CX0 5 Z.f_Mint_another_alike Z.d_Mint_another_alike ["self"] (sp_Mint_another_alike Z) := by
  refine T.F_Mint_another_alike.ok sc_Mint_another_alike (fun vs H Q E h => ?_) (fun cdv A outer s0 H vs Q E hr h => ?_)
  · obtain ⟨ρ, i, f, s, n, rfl, _⟩ := h
    rfl
  · obtain ⟨ρ, i, f, s, n, rfl, M, G, k⟩ := h
    refine ⟨_, (pss_cons (ps_set (i := 1) (sc_Mint_another_alike).nd rfl (Or.inl rfl) (pe_make T.mk_Mint (ok_Mint_init T) (hr.mono (by decide)) rfl T.g_Mint (b_Mint_init T) .nil pass0 ((pa_cons (pe_fld (pv 0) rfl) pa_nil)))) (pss_cons (ps_fld (pv 1) (pe_lc rfl (sc_Mint_another_alike).nd (pi_list (pe_fld (pv 0) rfl)) (own := [("kind", 2)]) (blkOk_by (by rfl)) (fun _ _ _ _ _ => pg_name (i := 2) (sc_Mint_another_alike).nd rfl (Or.inl rfl)) (fun _ _ _ _ _ => pts_nil) (fun _ _ _ _ _ => (pe_meth0 (pv 2) T.cl_Kind T.m_Kind_another_alike (ok_Kind_another_alike T) (hr.mono (by decide)) (b_Kind_another_alike T) .nil pass0 ))) rfl) (pss_cons (ps_fld (pv 1) (pe_lc rfl (sc_Mint_another_alike).nd (pi_list (pe_fld (pv 0) rfl)) (own := [("die", 3)]) (blkOk_by (by rfl)) (fun _ _ _ _ _ => pg_name (i := 3) (sc_Mint_another_alike).nd rfl (Or.inl rfl)) (fun _ _ _ _ _ => pts_nil) (fun _ _ _ _ _ => (pe_meth0 (pv 3) T.cl_Die T.m_Die_another_alike (ok_Die_another_alike T) (hr.mono (by decide)) (b_Die_another_alike T) .nil pass0 ))) rfl) (pss_cons (ps_fld (pv 1) (pe_callTy call_list_of (by rfl) T.n_list boot_list (pa_cons (pe_fld (pv 0) rfl) pa_nil)) rfl) (pss_cons (ps_fld (pv 1) (pe_fld (pv 0) rfl) rfl) (pss_cons (ps_fld (pv 1) (pe_callTy call_list_of (by rfl) T.n_list boot_list (pa_cons (pe_fld (pv 0) rfl) pa_nil)) rfl) (pss_cons (ps_fld (pv 1) (pe_fld (pv 0) rfl) rfl) (pss_cons (ps_fld (pv 1) (pe_fld (pv 0) rfl) rfl) (pss_cons (ps_fld (pv 1) (pe_fld (pv 0) rfl) rfl) (pss_cons (ps_fld (pv 1) (pe_fld (pv 0) rfl) rfl) (pss_cons (ps_fld (pv 1) (pe_fld (pv 0) rfl) rfl) (pss_one (ps_ret (pv 1)))))))))))))), ?_⟩
    refine ⟨_, rfl, rd_Mint_keeps T M.obj (fun x dx nx nd _ => ⟨x, dx, s.keeps, rfl, upd_same, fun H1 lk0 ld0 ll0 mp0 lc0 ms0 o1 _ _ _ _ _ _ _ _ _ _ _ _ _ _ _ _ _ B1 => ⟨rfl, ?_⟩⟩)⟩
    have s1 : Same H H1 := Same.made nx nd B1
    have hold : ∀ {Hc : Hp} {o : HO}, Same H Hc → Same H (upd Hc x o) := fun s b o e => by
      rw [upd_ne (ne_of_none e nx)]
      exact s b o e
    have E0 : Ext H ρ (setR ρ x (.mint n)) := Ext.setR nx
    have r0 : setR ρ x (.mint n) x = .mint n := setR_same
    obtain ⟨ρ0, eρ⟩ : ∃ ρ0, ρ0 = setR ρ x (.mint n) := ⟨_, rfl⟩
    rw [← eρ] at E0 r0
    -- kinds
    refine ⟨_, rfl, rd_Mint_kinds T (s1 _ _ M.obj) ⟨f.lk, rfl, ⟨_, SqL.of (s1 _ _ M.lk)⟩, fun D hD => lc_list (K := K) (a := f.lk) (xs := f.ks.map fun k => V.ref k.a) (fun j H' => ∃ (ρ' : Roles) (ks : List KP), Same H1 H' ∧ Ext H1 ρ0 ρ' ∧ ρ' D = .kinds n ∧ H' D = some (.lst (ks.map fun k => V.ref k.a)) ∧ ks.length = j ∧ ∀ m kp kd, ks[m]? = some kp → s.kinds[m]? = some kd → KindAt Z ρ' n m H' kp kd)
      ⟨setR ρ0 D (.kinds n), [], Same.new hD, Ext.setR hD, setR_same, upd_same, rfl, fun m kp kd q => by simp at q⟩ (fun j H' _ ⟨_, _, sJ, _⟩ => SqL.of (sJ _ _ (s1 _ _ M.lk))) ?_ ?_⟩⟩
    · rintro j y H' hy ⟨ρ', ks, sJ, EJ, rD, hD', lks, hks⟩
      obtain ⟨kp, hkp, rfl⟩ := kref_inv hy
      obtain ⟨kd, hkd⟩ : ∃ kd, s.kinds[j]? = some kd := ⟨_, List.getElem?_eq_getElem (by rw [← M.kl]; exact (List.getElem?_eq_some_iff.mp hkp).1)⟩
      have jl : j < s.kinds.length := (List.getElem?_eq_some_iff.mp hkd).1
      have g4 := G.kl
      have KA : KindAt Z ρ i j H' kp kd := (M.kat j kp kd hkp hkd).keep fun b o q _ => ⟨sJ _ _ (s1 _ _ q), rfl⟩
      refine ⟨rfl, _, rfl, me_Kind_another_alike KA.obj ⟨ρ, i, j, kp, kd, rfl, KA, fun H3 k' s3 n1 n2 n3 d12 d13 d23 q1 q2 q3 => ⟨_, s3 _ _ hD', ?_, ?_⟩⟩⟩
      · rw [List.length_map, lks]
        exact Nat.lt_of_lt_of_le jl (Nat.le_trans g4 (by decide))
      · have ro : ∀ {b o}, H' b = some o → setR (setR (setR ρ' k'.a (.kind n j)) k'.st (.stock n j)) k'.bx (.box n j) b = ρ' b := fun hb => by
          rw [setR_ne (ne_of_none hb n3), setR_ne (ne_of_none hb n2), setR_ne (ne_of_none hb n1)]
        have nD1 : k'.a ≠ D := fun e => by rw [e, hD'] at n1; cases n1
        have nD2 : k'.st ≠ D := fun e => by rw [e, hD'] at n2; cases n2
        have nD3 : k'.bx ≠ D := fun e => by rw [e, hD'] at n3; cases n3
        refine ⟨setR (setR (setR ρ' k'.a (.kind n j)) k'.st (.stock n j)) k'.bx (.box n j), ks ++ [k'], fun b o q => ?_, fun b o q => ?_, (ro hD').trans rD, ?_, ?_, fun m kp2 kd2 e1 e2 => ?_⟩
        · rw [upd_ne (ne_of_none q hD)]
          exact s3 _ _ (sJ _ _ q)
        · rw [ro (sJ _ _ q), EJ b o q]
        · rw [upd_same, List.map_append]
          rfl
        · rw [List.length_append, lks]
          rfl
        · by_cases hm : m < ks.length
          · rw [List.getElem?_append_left hm] at e1
            refine (hks m kp2 kd2 e1 e2).keep fun b o q r => ⟨?_, ro q⟩
            rw [upd_ne (fun e => by
              rw [e, rD] at r
              rcases r with r | r | r <;> cases r)]
            exact s3 _ _ q
          · rw [List.getElem?_append_right (by omega)] at e1
            obtain ⟨z, hz⟩ : ∃ z, m - ks.length = z := ⟨_, rfl⟩
            rw [hz] at e1
            cases z with
            | succ z => simp at e1
            | zero =>
              have em : m = j := by omega
              cases e1
              subst em
              have ed : kd = kd2 := Option.some.inj (hkd.symm.trans e2)
              subst ed
              refine ⟨?_, ?_, ?_, ?_, ?_, setR_same⟩
              · rw [upd_ne nD1]
                exact q1
              · rw [setR_ne d13, setR_ne d12, setR_same]
              · rw [upd_ne nD2]
                exact q2
              · rw [setR_ne d23, setR_same]
              · rw [upd_ne nD3]
                exact q3
    · rintro H2 ⟨ρ2, ks, s2, E2, rD, hD2, lks, hks⟩
      rw [List.length_map] at lks
      have S2 : Same H H2 := s1.trans s2
      refine ⟨_, rfl, wr_Mint_kinds T (s2 _ _ o1) ?_⟩
      obtain ⟨G2, eG2⟩ : ∃ G2, G2 = upd H2 x (.ins Z.c_Mint dx (fs_Mint (.int s.keeps) (.ref D) (.ref ld0) (.ref ll0) (.ref mp0) (.ref lc0) (.int 0) (.int 0) (.int 0) (.int 0) (.int 0))) := ⟨_, rfl⟩
      have x2 : G2 x = some (.ins Z.c_Mint dx (fs_Mint (.int s.keeps) (.ref D) (.ref ld0) (.ref ll0) (.ref mp0) (.ref lc0) (.int 0) (.int 0) (.int 0) (.int 0) (.int 0))) := by rw [eG2]; exact upd_same
      have C2 : But x H2 G2 := by rw [eG2]; exact But.upd
      have SG2 : Same H G2 := by rw [eG2]; exact hold S2
      have W2 : Grow H1 G2 := by rw [eG2]; exact (Grow.same s2).trans Grow.upd
      rw [← eG2]
      -- dies
      refine ⟨_, rfl, rd_Mint_dies T (SG2 _ _ M.obj) ⟨f.ld, rfl, ⟨_, SqL.of (SG2 _ _ M.ld)⟩, fun D2 hD2n => lc_list (K := K) (a := f.ld) (xs := f.es.map V.ref) (fun j H' => ∃ (ρ' : Roles) (es : List Addr), Same G2 H' ∧ Ext G2 ρ2 ρ' ∧ ρ' D2 = .dies n ∧ H' D2 = some (.lst (es.map V.ref)) ∧ es.length = j ∧ ∀ m e d, es[m]? = some e → s.dies[m]? = some d → DieAt Z ρ' n m H' e d)
        ⟨setR ρ2 D2 (.dies n), [], Same.new hD2n, Ext.setR hD2n, setR_same, upd_same, rfl, fun m kp kd q => by simp at q⟩ (fun j H' _ ⟨_, _, sJ, _⟩ => SqL.of (sJ _ _ (SG2 _ _ M.ld))) ?_ ?_⟩⟩
      · rintro j y H' hy ⟨ρ', es, sJ, EJ, rD2, hD', les, hes⟩
        obtain ⟨e, he, rfl⟩ := refs_at hy
        obtain ⟨d, hd⟩ : ∃ d, s.dies[j]? = some d := ⟨_, List.getElem?_eq_getElem (by rw [← M.el]; exact (List.getElem?_eq_some_iff.mp he).1)⟩
        have jl : j < s.dies.length := (List.getElem?_eq_some_iff.mp hd).1
        have g6 := G.dl
        have DA : DieAt Z ρ i j H' e d := (M.eat j e d he hd).keep fun b o q _ => ⟨sJ _ _ (SG2 _ _ q), rfl⟩
        obtain ⟨dd, hDo⟩ := DA.obj
        refine ⟨rfl, _, rfl, me_Die_another_alike hDo ⟨ρ, i, j, e, d, rfl, DA, fun H3 e' de s3 n1 q1 => ⟨_, s3 _ _ hD', ?_, ?_⟩⟩⟩
        · rw [List.length_map, les]
          exact Nat.lt_of_lt_of_le jl (Nat.le_trans g6 (by decide))
        · have ro : ∀ {b o}, H' b = some o → setR ρ' e' (.die n j) b = ρ' b := fun hb => setR_ne (ne_of_none hb n1)
          have nD1 : e' ≠ D2 := fun e => by rw [e, hD'] at n1; cases n1
          refine ⟨setR ρ' e' (.die n j), es ++ [e'], fun b o q => ?_, fun b o q => ?_, (ro hD').trans rD2, ?_, ?_, fun m e2 d2 z1 z2 => ?_⟩
          · rw [upd_ne (ne_of_none q hD2n)]
            exact s3 _ _ (sJ _ _ q)
          · rw [ro (sJ _ _ q), EJ b o q]
          · rw [upd_same, List.map_append]
            rfl
          · rw [List.length_append, les]
            rfl
          · by_cases hm : m < es.length
            · rw [List.getElem?_append_left hm] at z1
              refine (hes m e2 d2 z1 z2).keep fun b o q r => ⟨?_, ro q⟩
              rw [upd_ne (fun e => by
                rw [e, rD2] at r
                cases r)]
              exact s3 _ _ q
            · rw [List.getElem?_append_right (by omega)] at z1
              obtain ⟨z, hz⟩ : ∃ z, m - es.length = z := ⟨_, rfl⟩
              rw [hz] at z1
              cases z with
              | succ z => simp at z1
              | zero =>
                have em : m = j := by omega
                cases z1
                subst em
                have ed : d = d2 := Option.some.inj (hd.symm.trans z2)
                subst ed
                exact ⟨⟨de, by rw [upd_ne nD1]; exact q1⟩, setR_same⟩
      · rintro H3 ⟨ρ3, es, s3, E3, rD2, hD3, les, hes⟩
        rw [List.length_map] at les
        have S3 : Same H H3 := SG2.trans s3
        refine ⟨_, rfl, wr_Mint_dies T (s3 _ _ x2) ?_⟩
        obtain ⟨G3, eG3⟩ : ∃ G3, G3 = upd H3 x (.ins Z.c_Mint dx (fs_Mint (.int s.keeps) (.ref D) (.ref D2) (.ref ll0) (.ref mp0) (.ref lc0) (.int 0) (.int 0) (.int 0) (.int 0) (.int 0))) := ⟨_, rfl⟩
        have x3 : G3 x = some (.ins Z.c_Mint dx (fs_Mint (.int s.keeps) (.ref D) (.ref D2) (.ref ll0) (.ref mp0) (.ref lc0) (.int 0) (.int 0) (.int 0) (.int 0) (.int 0))) := by rw [eG3]; exact upd_same
        have C3 : But x H3 G3 := by rw [eG3]; exact But.upd
        have SG3 : Same H G3 := by rw [eG3]; exact hold S3
        rw [← eG3]
        -- lots
        refine ⟨_, rfl, rd_Mint_lots T (SG3 _ _ M.obj) ⟨f.ll, _, rfl, .inl (SqL.of (SG3 _ _ M.lots.lst)), fun ll nl => ⟨_, rfl, wr_Mint_lots T (Same.new nl _ _ x3) ?_⟩⟩⟩
        obtain ⟨G4, eG4⟩ : ∃ G4, G4 = upd (upd G3 ll (.lst (f.ms.map V.ref))) x (.ins Z.c_Mint dx (fs_Mint (.int s.keeps) (.ref D) (.ref D2) (.ref ll) (.ref mp0) (.ref lc0) (.int 0) (.int 0) (.int 0) (.int 0) (.int 0))) := ⟨_, rfl⟩
        have xl : x ≠ ll := ne_of_none x3 nl
        have x4 : G4 x = some (.ins Z.c_Mint dx (fs_Mint (.int s.keeps) (.ref D) (.ref D2) (.ref ll) (.ref mp0) (.ref lc0) (.int 0) (.int 0) (.int 0) (.int 0) (.int 0))) := by rw [eG4]; exact upd_same
        have C4 : But x G3 G4 := by rw [eG4]; exact (But.same (Same.new nl)).trans But.upd
        have l4 : G4 ll = some (.lst (f.ms.map V.ref)) := by rw [eG4, upd_ne (Ne.symm xl), upd_same]
        have SG4 : Same H G4 := by rw [eG4]; exact hold (SG3.trans (Same.new nl))
        rw [← eG4]
        -- pot
        refine ⟨_, rfl, rd_Mint_pot T (SG4 _ _ M.obj) ⟨_, rfl, wr_Mint_pot T x4 ?_⟩⟩
        obtain ⟨G5, eG5⟩ : ∃ G5, G5 = upd G4 x (.ins Z.c_Mint dx (fs_Mint (.int s.keeps) (.ref D) (.ref D2) (.ref ll) (.ref f.mp) (.ref lc0) (.int 0) (.int 0) (.int 0) (.int 0) (.int 0))) := ⟨_, rfl⟩
        have x5 : G5 x = some (.ins Z.c_Mint dx (fs_Mint (.int s.keeps) (.ref D) (.ref D2) (.ref ll) (.ref f.mp) (.ref lc0) (.int 0) (.int 0) (.int 0) (.int 0) (.int 0))) := by rw [eG5]; exact upd_same
        have C5 : But x G4 G5 := by rw [eG5]; exact But.upd
        have SG5 : Same H G5 := by rw [eG5]; exact hold SG4
        rw [← eG5]
        -- credit
        refine ⟨_, rfl, rd_Mint_credit T (SG5 _ _ M.obj) ⟨f.lc, _, rfl, .inl (SqL.of (SG5 _ _ M.lc)), fun lc nc => ⟨_, rfl, wr_Mint_credit T (Same.new nc _ _ x5) ?_⟩⟩⟩
        obtain ⟨G6, eG6⟩ : ∃ G6, G6 = upd (upd G5 lc (.lst (nv s.credits))) x (.ins Z.c_Mint dx (fs_Mint (.int s.keeps) (.ref D) (.ref D2) (.ref ll) (.ref f.mp) (.ref lc) (.int 0) (.int 0) (.int 0) (.int 0) (.int 0))) := ⟨_, rfl⟩
        have xc : x ≠ lc := ne_of_none x5 nc
        have x6 : G6 x = some (.ins Z.c_Mint dx (fs_Mint (.int s.keeps) (.ref D) (.ref D2) (.ref ll) (.ref f.mp) (.ref lc) (.int 0) (.int 0) (.int 0) (.int 0) (.int 0))) := by rw [eG6]; exact upd_same
        have C6 : But x G5 G6 := by rw [eG6]; exact (But.same (Same.new nc)).trans But.upd
        have l6 : G6 lc = some (.lst (nv s.credits)) := by rw [eG6, upd_ne (Ne.symm xc), upd_same]
        have SG6 : Same H G6 := by rw [eG6]; exact hold (SG5.trans (Same.new nc))
        rw [← eG6]
        -- the numbers
        refine ⟨_, rfl, rd_Mint_kept T (SG6 _ _ M.obj) ⟨_, rfl, wr_Mint_kept T x6 ?_⟩⟩
        refine ⟨_, rfl, rd_Mint_lessened T (hold SG6 _ _ M.obj) ⟨_, rfl, wr_Mint_lessened T upd_same ?_⟩⟩
        refine ⟨_, rfl, rd_Mint_brought T (hold (hold SG6) _ _ M.obj) ⟨_, rfl, wr_Mint_brought T upd_same ?_⟩⟩
        refine ⟨_, rfl, rd_Mint_added T (hold (hold (hold SG6)) _ _ M.obj) ⟨_, rfl, wr_Mint_added T upd_same ?_⟩⟩
        refine ⟨_, rfl, rd_Mint_paid T (hold (hold (hold (hold SG6))) _ _ M.obj) ⟨_, rfl, wr_Mint_paid T upd_same ?_⟩⟩
        rw [upd_upd, upd_upd, upd_upd, upd_upd]
        refine ⟨_, rfl, ?_⟩
        obtain ⟨f', ef⟩ : ∃ f' : Fp, f' = ⟨x, dx, D, D2, ll, f.mp, lc, f.ms, ks, es⟩ := ⟨_, rfl⟩
        obtain ⟨G7, eG7⟩ : ∃ G7, G7 = upd G6 x (.ins Z.c_Mint dx (mintFs f' s)) := ⟨_, rfl⟩
        have x7 : G7 x = some (.ins Z.c_Mint dx (mintFs f' s)) := by rw [eG7]; exact upd_same
        have C7 : But x G6 G7 := by rw [eG7]; exact But.upd
        have SG7 : Same H G7 := by rw [eG7]; exact hold SG6
        have eG : upd G6 x (.ins Z.c_Mint dx (fs_Mint (.int s.keeps) (.ref D) (.ref D2) (.ref ll) (.ref f.mp) (.ref lc) (.int s.kept) (.int s.owed) (.int s.taken.carats) (.int s.added.carats) (.int s.paid.carats))) = G7 := by
          rw [eG7, ef]
          rfl
        rw [eG]
        -- roles
        have C37 : But x H3 G7 := C3.trans (C4.trans (C5.trans (C6.trans C7)))
        have C27 : But x H2 G7 := C2.trans ((But.same s3).trans C37)
        have gr4 : Grow G3 G7 := (C4.trans (C5.trans (C6.trans C7))).grow x7
        have nl3 : ∀ {b o}, H3 b = some o → b ≠ ll := fun {b o} q e => by
          obtain ⟨o', q'⟩ := C3.grow x3 b o q
          rw [e, nl] at q'
          cases q'
        have nc3 : ∀ {b o}, H3 b = some o → b ≠ lc := fun {b o} q e => by
          obtain ⟨o', q'⟩ := (C3.trans (C4.trans C5)).grow x5 b o q
          rw [e, nc] at q'
          cases q'
        have lcl : ll ≠ lc := fun e => by
          have q := C5 _ _ l4 (Ne.symm xl)
          rw [e, nc] at q
          cases q
        obtain ⟨ρ5, e5⟩ : ∃ ρ5, ρ5 = setR (setR ρ3 ll (.lots n)) lc (.credit n) := ⟨_, rfl⟩
        have E35 : Ext H3 ρ3 ρ5 := fun b o q => by rw [e5, setR_ne (nc3 q), setR_ne (nl3 q)]
        have rl : ρ5 ll = .lots n := by rw [e5, setR_ne lcl, setR_same]
        have rc : ρ5 lc = .credit n := by rw [e5, setR_same]
        have E25 : Ext G2 ρ2 ρ5 := E3.thru (Grow.same s3) E35
        have E25' : Ext H2 ρ2 ρ5 := fun b o q => by
          obtain ⟨o', q'⟩ := C2.grow x2 b o q
          exact E25 b o' q'
        have E15 : Ext H1 ρ0 ρ5 := E2.thru (Grow.same s2) E25'
        have E05 : Ext H ρ ρ5 := E0.thru (Grow.same s1) E15
        have rx : ρ5 x = .mint n := (E15 _ _ o1).trans r0
        have rk : ρ5 D = .kinds n := (E25' _ _ hD2).trans rD
        have rd : ρ5 D2 = .dies n := (E35 _ _ hD3).trans rD2
        have nx5 : ∀ {b}, ρ5 b ≠ .mint n → b ≠ x := fun q e => q (by rw [e]; exact rx)
        have ea : Q (.ref f'.a) G7 := by
          refine k G7 ρ5 f' SG7 E05 ?_
          rw [ef] at x7 ⊢
          refine ⟨x7, rx, C27 _ _ hD2 (nx5 (by rw [rk]; intro z; cases z)), rk, lks.trans M.kl, fun m kp kd q1 q2 => (hks m kp kd q1 q2).keep fun b o q r => ⟨C27 _ _ q (nx5 ?_), E25' b o q⟩, C37 _ _ hD3 (nx5 (by rw [rd]; intro z; cases z)), rd, les.trans M.el, fun m e d q1 q2 => (hes m e d q1 q2).keep fun b o q r => ⟨C37 _ _ q (nx5 ?_), E35 b o q⟩,
            ⟨(C5.trans (C6.trans C7)) _ _ l4 (Ne.symm xl), M.lots.len, fun j a q => (M.lots.at_ j a q).same SG7⟩, rl, M.pot.same SG7, C7 _ _ l6 (Ne.symm xc), rc⟩
          · rw [E25' b o q]
            rcases r with r | r | r <;> (rw [r]; intro z; cases z)
          · rw [E35 b o q, r]
            intro z
            cases z
        rw [ef] at ea
        exact ea
end
end Mi


set_option Elab.async false
set_option linter.all false
set_option maxRecDepth 100000
set_option maxHeartbeats 4000000
namespace Mi
open PySem PySem.Spec PyProof.Rows L2
open Km408 (Metal Mint ones)
open MP (picks avail mix lotAt)
section
variable {P : Program} {w : World} {K : PySem.W.Frag} {mg : Str → Option Value} {base : Heap} {Z : Adr}
/-! ### how many lots -/
def sp_Mint_count_lots (Z : Adr) : Sp := fun vs H Q _ => ∃ (ρ : Roles) (i : Nat) (f : Fp) (s : Mint), vs = [.ref f.a] ∧ MintAt Z ρ i H f s ∧ MG.Good s ∧ ∀ (H' : Hp), Same H H' → Q (.int ((MT.count s : Nat) : Int)) H'
theorem ok_Mint_count_lots (T : Txt K mg Z) : FnOk P w K mg base CX0 2 Z.f_Mint_count_lots Z.d_Mint_count_lots ["self"] (sp_Mint_count_lots Z) := by
  refine T.F_Mint_count_lots.ok sc_Mint_count_lots (fun vs H Q E h => ?_) (fun cdv A outer s0 H vs Q E hr h => ?_)
  · obtain ⟨ρ, i, f, s, rfl, _⟩ := h
    rfl
  · obtain ⟨ρ, i, f, s, rfl, M, G, k⟩ := h
    refine ⟨_, (pss_one (ps_ret (pe_callB call_len_seq (by rfl) T.n_len PySem.boot_len (pa_cons (pe_lc rfl (sc_Mint_count_lots).nd (pi_list (pe_fld (pv 0) rfl)) (own := [("lot", 1)]) (blkOk_by (by rfl)) (fun _ _ _ _ _ => pg_name (i := 1) (sc_Mint_count_lots).nd rfl (Or.inl rfl)) (fun _ _ _ _ _ => pts_one (pt_not (pt_val (pe_meth0 (pv 1) T.cl_Metal T.m_Metal_is_none (ok_Metal_is_none T) (hr.mono (by decide)) (b_Metal_is_none T) .nil pass0 )))) (fun _ _ _ _ _ => (pv 1))) pa_nil)))), ?_⟩
    refine ⟨_, rfl, rd_Mint_lots T M.obj ⟨f.ll, rfl, ⟨_, SqL.of M.lots.lst⟩, fun D hD => lc_list (K := K) (a := f.ll) (xs := f.ms.map V.ref) (fun j H' => ∃ as : List Addr, H' = upd H D (.lst (as.map V.ref)) ∧ as.length = ((List.range j).filter fun i => (s.lots.getD i none).isSome).length)
      ⟨[], rfl, rfl⟩ (fun j H' _ ⟨_, e, _⟩ => SqL.of (by rw [e]; exact Same.new hD _ _ M.lots.lst)) ?_ ?_⟩⟩
    · rintro j y H' hy ⟨as, rfl, hl⟩
      obtain ⟨a, ha, rfl⟩ := refs_at hy
      have jl : j < 10 := by
        have := (List.getElem?_eq_some_iff.mp ha).1
        rw [M.lots.len] at this
        exact this
      obtain ⟨da, hA⟩ := (M.lots.at_ j a ha).same (Same.new (o := .lst (as.map V.ref)) hD)
      have hlen : (as.map V.ref).length ≤ 10 := by
        rw [List.length_map, hl]
        have := List.length_filter_le (fun i => (s.lots.getD i none).isSome) (List.range j)
        rw [List.length_range] at this
        omega
      refine ⟨rfl, _, rfl, me_Metal_is_none hA ⟨a, _, rfl, ⟨da, hA⟩, _, rfl, ite2 (fun h0 => ⟨_, rfl, _, upd_same, Nat.lt_of_le_of_lt hlen (by decide), ?_⟩) (fun h0 => ?_)⟩⟩
      · have hg : ¬ (lotAt s j).grains = 0 := by
          simp at h0
          exact h0
        have hs : (s.lots.getD j none).isSome = true := by
          rw [lot_none G j] at hg
          cases q : s.lots.getD j none with
          | none => exact (hg q).elim
          | some _ => rfl
        refine ⟨as ++ [a], ?_, ?_⟩
        · rw [upd_upd, List.map_append]
          rfl
        · rw [List.range_succ, List.filter_append, List.length_append, List.length_append, hl, List.filter_cons, if_pos hs]
          rfl
      · have hg : (lotAt s j).grains = 0 := by
          simp at h0
          exact h0
        have hs : ¬ (s.lots.getD j none).isSome = true := by
          rw [lot_none G j] at hg
          rw [hg]
          intro z
          cases z
        refine ⟨as, rfl, ?_⟩
        rw [List.range_succ, List.filter_append, List.length_append, hl, List.filter_cons, if_neg hs]
        rfl
    · rintro H' ⟨as, rfl, hl⟩
      rw [List.length_map, M.lots.len] at hl
      refine ⟨D, _, rfl, .inl (SqL.of upd_same), ?_⟩
      rw [List.length_map, hl]
      exact k _ (Same.new hD)
/-! ### mi_lots -/
theorem res_lots (s : Mint) : (res .lots s).1 = s ∧ (res .lots s).2.map V.int = V.int ((MT.count s : Nat) : Int) :: nv (MT.told2 s 10) := by
  refine ⟨rfl, ?_⟩
  rw [MT.told2_eq]
  unfold res Km408.act Km408Neutral.told Km408Neutral.nums
  simp only
  rw [List.map_cons, List.map_map]
  rfl
def sp_tell_lots (Z : Adr) : Sp := fun vs H Q _ => ∃ (ρ : Roles) (i : Nat) (f : Fp) (s : Mint), vs = [.ref f.a] ∧ MintAt Z ρ i H f s ∧ MG.Good s ∧ CallPost Z ρ i H f (res .lots s) Q
theorem ok_tell_lots (T : Txt K mg Z) : FnOk P w K mg base CX0 3 Z.f_tell_lots Z.d_tell_lots ["mint"] (sp_tell_lots Z) := by
  refine T.F_tell_lots.ok sc_tell_lots (fun vs H Q E h => ?_) (fun cdv A outer s0 H vs Q E hr h => ?_)
  · obtain ⟨ρ, i, f, s, rfl, _⟩ := h
    rfl
  · obtain ⟨ρ, i, f, s, rfl, M, G, k⟩ := h
    refine ⟨_, (pss_cons (ps_set (i := 1) (sc_tell_lots).nd rfl (Or.inl rfl) (pe_lst (pa_cons (pe_meth0 (pv 0) T.cl_Mint T.m_Mint_count_lots (ok_Mint_count_lots T) (hr.mono (by decide)) (b_Mint_count_lots T) .nil pass0 ) pa_nil))) (pss_cons (ps_for PassesOwn.never rfl (pi_list (pe_fld (pv 0) rfl)) (pg_name (i := 2) (sc_tell_lots).nd rfl (Or.inl rfl)) (pss_one (ps_expr (pe_bm PySem.F.plainAttrs_list PySem.F.slot_list_extend PySem.F.type_list_extend mt_extend (pv 1) (pa_cons (pe_lst (pa_cons (pe_fld (pv 2) rfl) (pa_cons (pe_fld (pv 2) rfl) pa_nil))) pa_nil))))) (pss_one (ps_ret (pv 1))))), ?_⟩
    refine ⟨_, rfl, me_Mint_count_lots M.obj ⟨ρ, i, f, s, rfl, M, G, fun H1 s1 => ⟨(by show 1 ≤ 2 ^ 24; decide), fun l hl => ?_⟩⟩⟩
    have hlH : H l = none := s1.free hl
    have s2 : Same H (upd H1 l (.lst [V.int ((MT.count s : Nat) : Int)])) := s1.trans (Same.new hl)
    refine ⟨_, rfl, rd_Mint_lots T (s2 _ _ M.obj) ⟨f.ll, rfl, ⟨_, SqL.of (s2 _ _ M.lots.lst)⟩, for_list (K := K) (a := f.ll) (xs := f.ms.map V.ref) (fun j σ H' => ∃ v2 : Option V, σ = [some (.ref f.a), some (.ref l), v2] ∧ Same H H' ∧ H' l = some (.lst (V.int ((MT.count s : Nat) : Int) :: nv (MT.told2 s j))))
      ⟨none, rfl, s2, upd_same⟩ (fun j σ H' _ ⟨_, _, sJ, _⟩ => SqL.of (sJ _ _ M.lots.lst)) ?_ ?_⟩⟩
    · rintro j y σ H' hy ⟨v2, rfl, sJ, hJ⟩
      obtain ⟨a, ha, rfl⟩ := refs_at hy
      have jl : j < 10 := by
        have := (List.getElem?_eq_some_iff.mp ha).1
        rw [M.lots.len] at this
        exact this
      obtain ⟨da, hA⟩ := (M.lots.at_ j a ha).same sJ
      refine ⟨_, rfl, .inl ⟨rfl, _, SqL.of hJ⟩, _, rfl, rd_Metal_grains T hA ⟨_, rfl, rd_Metal_carats T hA ⟨(by show 2 ≤ 2 ^ 24; decide), fun t ht => ⟨l, t, _, _, rfl, rfl, Same.new ht _ _ hJ, upd_same, ?_, ?_⟩⟩⟩⟩
      · rw [List.length_cons, nv_len, MT.told2_len]
        show 2 * j + 1 + 2 ≤ 2 ^ 24
        omega
      · refine ⟨_, rfl, fun b o q => ?_, ?_⟩
        · rw [upd_ne (ne_of_none q hlH)]
          exact Same.new ht _ _ (sJ _ _ q)
        · rw [upd_same, MT.told2_succ]
          unfold nv
          rw [List.map_append]
          rfl
    · rintro σ H' ⟨v2, rfl, sJ, hJ⟩
      rw [List.length_map, M.lots.len] at hJ
      obtain ⟨e1, e2⟩ := res_lots s
      refine ⟨_, rfl, k H' ρ f l (by rw [e1]; exact M.same sJ) (Fr.same sJ) (Ext.refl _ _) rfl hlH (by rw [e2]; exact hJ)⟩
/-! ### mi_worn -/
theorem shl_one (j : Nat) : (1 * 2 ^ (j : Int).toNat : Int) = ((2 ^ j : Nat) : Int) := by
  rw [Int.toNat_natCast, Int.one_mul, Int.natCast_pow]
  rfl
def sp_tell_worn (Z : Adr) : Sp := fun vs H Q _ => ∃ (ρ : Roles) (i : Nat) (f : Fp) (s : Mint), vs = [.ref f.a] ∧ MintAt Z ρ i H f s ∧ MG.Good s ∧ CallPost Z ρ i H f (res .worn s) Q
theorem ok_tell_worn (T : Txt K mg Z) : FnOk P w K mg base CX0 1 Z.f_tell_worn Z.d_tell_worn ["mint"] (sp_tell_worn Z) := by
  refine T.F_tell_worn.ok sc_tell_worn (fun vs H Q E h => ?_) (fun cdv A outer s0 H vs Q E hr h => ?_)
  · obtain ⟨ρ, i, f, s, rfl, _⟩ := h
    rfl
  · obtain ⟨ρ, i, f, s, rfl, M, G, k⟩ := h
    refine ⟨_, (pss_cons (ps_set (i := 1) (sc_tell_worn).nd rfl (Or.inl rfl) pe_int) (pss_cons (ps_set (i := 2) (sc_tell_worn).nd rfl (Or.inl rfl) pe_int) (pss_cons (ps_for PassesOwn.never rfl (pi_range1 rfl T.n_range (pa_cons (pe_callB call_len_seq (by rfl) T.n_len PySem.boot_len (pa_cons (pe_fld (pv 0) rfl) pa_nil)) pa_nil)) (pg_name (i := 3) (sc_tell_worn).nd rfl (Or.inl rfl)) (pss_one (ps_if (pt_cmpR op_eq (pe_fld (pe_ix ix_list (pe_fld (pv 0) rfl) (pv 3) (fun _ _ => rfl)) rfl) pe_int (nomark _)) (pss_cons (ps_set (i := 1) (sc_tell_worn).nd rfl (Or.inl rfl) (pe_op op_add (pv 1) pe_int)) (pss_one (ps_set (i := 2) (sc_tell_worn).nd rfl (Or.inl rfl) (pe_op op_add (pv 2) (pe_op op_shl pe_int (pv 3)))))) pss_nil))) (pss_one (ps_ret (pe_lst (pa_cons (pv 1) (pa_cons (pv 2) pa_nil)))))))), ?_⟩
    have g6 := G.dl
    have el := M.el
    refine ⟨_, rfl, rd_Mint_dies T M.obj ⟨f.ld, _, rfl, .inl (SqL.of M.ld), _, rfl, (by rw [List.length_map, el]; omega), (by rw [List.length_map, el]; omega), ?_⟩⟩
    rw [List.length_map, el]
    refine for_range (fun j σ H' => ∃ v3 : Option V, σ = [some (.ref f.a), some (.int (((MT.wornL s j).length : Nat) : Int)), some (.int ((Km408.bits (MT.wornL s j) : Nat) : Int)), v3] ∧ H' = H) ⟨none, rfl, rfl⟩ ?_ ?_
    · rintro j σ H' hj ⟨v3, rfl, rfl⟩
      rw [Int.zero_add]
      have hj : j < s.dies.length := by
        rw [Int.toNat_natCast] at hj
        exact hj
      obtain ⟨e, d, he, hd, DA⟩ := M.die hj
      obtain ⟨dd, hD⟩ := DA.obj
      refine ⟨_, rfl, rd_Mint_dies T M.obj ⟨_, rfl, f.ld, _, _, .ref e, rfl, rfl, SqL.of M.ld, atI_nat (ref_at he), rd_Die_left T hD ⟨rfl, _, rfl, ite2 (fun h1 => ?_) (fun h1 => ?_)⟩⟩⟩
      · have h1 := (int_lit (n := 0) rfl).mp (of_decide_eq_true h1)
        refine ⟨_, rfl, _, _, rfl, rfl, _, rfl, _, rfl, _, _, rfl, rfl, ⟨by omega, by omega, by decide⟩, _, _, rfl, rfl, ?_⟩
        dsimp only
        rw [shl_one, MT.worn_yes hd h1, MT.bits_snoc, List.length_append]
        exact ⟨_, rfl, rfl⟩
      · have h1 : ¬ d.left = 0 := fun e => h1 (decide_eq_true ((int_lit (n := 0) rfl).mpr e))
        rw [MT.worn_no hd h1]
        exact ⟨_, rfl, rfl⟩
    · rintro σ H' ⟨v3, rfl, rfl⟩
      rw [Int.toNat_natCast]
      refine ⟨_, rfl, _, rfl, ?_⟩
      exact tells M k (ans := [(((MT.wornL s s.dies.length).length : Nat) : Int), ((Km408.bits (MT.wornL s s.dies.length) : Nat) : Int)]) rfl rfl (by show 2 ≤ 25; decide)
/-! ### mi_ledger, mi_claims -/
def sp_find_held (Z : Adr) : Sp := fun vs H Q _ => ∃ (ρ : Roles) (i : Nat) (f : Fp) (s : Mint), vs = [.ref f.a] ∧ MintAt Z ρ i H f s ∧ MG.Good s ∧ ∀ (H' : Hp) (r : Addr), Same H H' → MetalAt Z H' r (MT.heldK s s.kinds.length) → Q (.ref r) H'
theorem ok_find_held (T : Txt K mg Z) : FnOk P w K mg base CX0 4 Z.f_find_held Z.d_find_held ["mint"] (sp_find_held Z) := by
  refine T.F_find_held.ok sc_find_held (fun vs H Q E h => ?_) (fun cdv A outer s0 H vs Q E hr h => ?_)
  · obtain ⟨ρ, i, f, s, rfl, _⟩ := h
    rfl
  · obtain ⟨ρ, i, f, s, rfl, M, G, k⟩ := h
    refine ⟨_, (pss_cons (ps_set (i := 1) (sc_find_held).nd rfl (Or.inl rfl) (pe_fld (pv 0) rfl)) (pss_cons (ps_for PassesOwn.never rfl (pi_list (pe_fld (pv 0) rfl)) (pg_name (i := 2) (sc_find_held).nd rfl (Or.inl rfl)) (pss_one (ps_set (i := 1) (sc_find_held).nd rfl (Or.inl rfl) (pe_meth (pv 1) T.cl_Metal T.m_Metal_together_with (ok_Metal_together_with T) (hr.mono (by decide)) (b_Metal_together_with T) .nil pass0 ((pa_cons (pv 2) pa_nil)))))) (pss_cons (ps_for PassesOwn.never rfl (pi_list (pe_fld (pv 0) rfl)) (pg_name (i := 3) (sc_find_held).nd rfl (Or.inl rfl)) (pss_one (ps_set (i := 1) (sc_find_held).nd rfl (Or.inl rfl) (pe_meth (pv 1) T.cl_Metal T.m_Metal_together_with (ok_Metal_together_with T) (hr.mono (by decide)) (b_Metal_together_with T) .nil pass0 ((pa_cons (pe_meth (pv 3) T.cl_Kind T.m_Kind_metal_of (ok_Kind_metal_of T) (hr.mono (by decide)) (b_Kind_metal_of T) .nil pass0 ((pa_cons (pe_op op_add (pe_callB (cr_sum rfl) (by rfl) T.n_sum boot_sum (pa_cons (pe_fld (pv 3) rfl) pa_nil)) (pe_callB (cr_sum rfl) (by rfl) T.n_sum boot_sum (pa_cons (pe_fld (pv 3) rfl) pa_nil))) pa_nil))) pa_nil)))))) (pss_one (ps_ret (pv 1)))))), ?_⟩
    refine ⟨_, rfl, rd_Mint_pot T M.obj ?_⟩
    refine ⟨_, rfl, rd_Mint_lots T M.obj ⟨f.ll, rfl, ⟨_, SqL.of M.lots.lst⟩, for_list (K := K) (a := f.ll) (xs := f.ms.map V.ref) (fun j σ H' => ∃ (q : Addr) (v2 : Option V), σ = [some (.ref f.a), some (.ref q), v2, none] ∧ Same H H' ∧ MetalAt Z H' q (MT.heldL s j))
      ⟨f.mp, none, rfl, Same.refl _, M.pot⟩ (fun j σ H' _ ⟨_, _, _, sJ, _⟩ => SqL.of (sJ _ _ M.lots.lst)) ?_ ?_⟩⟩
    · rintro j y σ H' hy ⟨q, v2, rfl, sJ, ⟨dq, hq⟩⟩
      obtain ⟨a, ha, rfl⟩ := refs_at hy
      have hA := (M.lots.at_ j a ha).same sJ
      refine ⟨_, rfl, me_Metal_together_with hq ⟨_, rfl, q, a, _, _, rfl, ⟨dq, hq⟩, hA, fun H1 r s1 hr1 => ?_⟩⟩
      refine ⟨r, _, rfl, sJ.trans s1, ?_⟩
      rw [MT.heldL_succ]
      exact hr1
    · rintro σ H1 ⟨q, v2, rfl, s1, hq⟩
      rw [List.length_map, M.lots.len] at hq
      have M1 := M.same s1
      refine ⟨_, rfl, rd_Mint_kinds T M1.obj ⟨f.lk, rfl, ⟨_, SqL.of M1.lk⟩, for_list (K := K) (a := f.lk) (xs := f.ks.map fun k => V.ref k.a) (fun j σ H' => ∃ (q : Addr) (v2 v3 : Option V), σ = [some (.ref f.a), some (.ref q), v2, v3] ∧ Same H H' ∧ MetalAt Z H' q (MT.heldK s j))
        ⟨q, v2, none, rfl, s1, hq⟩ (fun j σ H' _ ⟨_, _, _, _, sJ, _⟩ => SqL.of (sJ _ _ M.lk)) ?_ ?_⟩⟩
      · rintro j y σ H' hy ⟨q, v2, v3, rfl, sJ, ⟨dq, hq⟩⟩
        rw [List.getElem?_map] at hy
        cases hkp : f.ks[j]? with
        | none =>
          rw [hkp] at hy
          cases hy
        | some kp =>
          rw [hkp] at hy
          have hy := Option.some.inj hy
          subst hy
          obtain ⟨c, hc⟩ : ∃ c, s.kinds[j]? = some c := ⟨_, List.getElem?_eq_getElem (by rw [← M.kl]; exact (List.getElem?_eq_some_iff.mp hkp).1)⟩
          have GK := MG.kind_good G hc
          have KA := (M.same sJ).kat j kp c hkp hc
          refine ⟨_, rfl, me_Metal_together_with hq ⟨_, rfl, me_Kind_metal_of KA.obj ⟨_, rfl, rd_Kind_stock T KA.obj ⟨kp.st, _, rfl, (by rw [← nv_ints]; exact SqL.of KA.st), _, rfl, rd_Kind_box T KA.obj ⟨kp.bx, _, rfl, (by rw [← nv_ints]; exact SqL.of KA.bx), _, _, rfl, rfl, ?_⟩⟩⟩⟩⟩
          dsimp only
          rw [sum_cast, sum_cast, ← Int.natCast_add]
          refine ⟨ρ, i, j, kp, c, Km408.sum c.stock + Km408.sum c.box, rfl, KA, GK.f2, fun H2 q2 s2 hq2 => ?_⟩
          refine ⟨q, q2, _, _, rfl, ⟨dq, s2 _ _ hq⟩, hq2, fun H3 r s3 hr3 => ?_⟩
          refine ⟨r, _, _, rfl, sJ.trans (s2.trans s3), ?_⟩
          rw [MT.heldK_succ hc]
          exact hr3
      · rintro σ H' ⟨q, v2, v3, rfl, sJ, hq⟩
        rw [List.length_map, M.kl] at hq
        exact ⟨_, rfl, k H' q sJ hq⟩
def sp_tell_ledger (Z : Adr) : Sp := fun vs H Q _ => ∃ (ρ : Roles) (i : Nat) (f : Fp) (s : Mint), vs = [.ref f.a] ∧ MintAt Z ρ i H f s ∧ MG.Good s ∧ CallPost Z ρ i H f (res .ledger s) Q
theorem ok_tell_ledger (T : Txt K mg Z) : FnOk P w K mg base CX0 5 Z.f_tell_ledger Z.d_tell_ledger ["mint"] (sp_tell_ledger Z) := by
  refine T.F_tell_ledger.ok sc_tell_ledger (fun vs H Q E h => ?_) (fun cdv A outer s0 H vs Q E hr h => ?_)
  · obtain ⟨ρ, i, f, s, rfl, _⟩ := h
    rfl
  · obtain ⟨ρ, i, f, s, rfl, M, G, k⟩ := h
    refine ⟨_, (pss_cons (ps_set (i := 1) (sc_tell_ledger).nd rfl (Or.inl rfl) (pe_call (ok_find_held T) (hr.mono (by decide)) rfl T.g_find_held T.F_find_held.kp (b_find_held T) .nil pass0 ((pa_cons (pv 0) pa_nil)))) (pss_one (ps_ret (pe_lst (pa_cons (pe_fld (pv 1) rfl) (pa_cons (pe_fld (pv 1) rfl) (pa_cons (pe_fld (pv 0) rfl) (pa_cons (pe_fld (pv 0) rfl) (pa_cons (pe_fld (pv 0) rfl) pa_nil))))))))), ?_⟩
    refine ⟨_, rfl, ρ, i, f, s, rfl, M, G, fun H1 r s1 hr1 => ?_⟩
    obtain ⟨dr, hr1⟩ := hr1
    have M1 := M.same s1
    refine ⟨_, rfl, rd_Metal_grains T hr1 ⟨_, rfl, rd_Metal_carats T hr1 ⟨_, rfl, rd_Mint_brought T M1.obj ⟨_, rfl, rd_Mint_added T M1.obj ⟨_, rfl, rd_Mint_paid T M1.obj ?_⟩⟩⟩⟩⟩
    refine tells M1 (k.same s1) (ans := [(((MT.heldK s s.kinds.length).grains : Nat) : Int), (((MT.heldK s s.kinds.length).carats : Nat) : Int), ((s.taken.carats : Nat) : Int), ((s.added.carats : Nat) : Int), ((s.paid.carats : Nat) : Int)]) ?_ rfl (by show 5 ≤ 25; decide)
    rw [MT.held_eq G.ll]
    rfl
def sp_tell_claims (Z : Adr) : Sp := fun vs H Q _ => ∃ (ρ : Roles) (i : Nat) (f : Fp) (s : Mint), vs = [.ref f.a] ∧ MintAt Z ρ i H f s ∧ MG.Good s ∧ CallPost Z ρ i H f (res .claims s) Q
theorem ok_tell_claims (T : Txt K mg Z) : FnOk P w K mg base CX0 1 Z.f_tell_claims Z.d_tell_claims ["mint"] (sp_tell_claims Z) := by
  refine T.F_tell_claims.ok sc_tell_claims (fun vs H Q E h => ?_) (fun cdv A outer s0 H vs Q E hr h => ?_)
  · obtain ⟨ρ, i, f, s, rfl, _⟩ := h
    rfl
  · obtain ⟨ρ, i, f, s, rfl, M, G, k⟩ := h
    refine ⟨_, (pss_one (ps_ret (pe_lst (pa_cons (pe_callB (cr_sum rfl) (by rfl) T.n_sum boot_sum (pa_cons (pe_fld (pv 0) rfl) pa_nil)) (pa_cons (pe_fld (pv 0) rfl) (pa_cons (pe_fld (pv 0) rfl) pa_nil)))))), ?_⟩
    refine ⟨_, rfl, rd_Mint_credit T M.obj ⟨f.lc, _, rfl, (by rw [← nv_ints]; exact SqL.of M.lc), _, rfl, rd_Mint_kept T M.obj ⟨_, rfl, rd_Mint_lessened T M.obj ?_⟩⟩⟩
    rw [sum_cast]
    exact tells M k (ans := [((Km408.sum s.credits : Nat) : Int), ((s.kept : Nat) : Int), ((s.owed : Nat) : Int)]) rfl rfl (by show 3 ≤ 25; decide)
end
end Mi


set_option Elab.async false
set_option linter.all false
set_option maxRecDepth 100000
set_option maxHeartbeats 4000000
namespace Mi
open PySem PySem.Spec PyProof.Rows L2
open Km408 (Metal Mint Desk ones)
open MP (picks avail mix lotAt)
/-! ### lists side by side, once more -/
theorem P2.cons {α β : Type} {R : α → β → Prop} {x : α} {y : β} {xs : List α} {ys : List β} (r : R x y) (h : P2 R xs ys) : P2 R (x :: xs) (y :: ys) := by
  refine ⟨by rw [List.length_cons, List.length_cons, h.1], fun i a b e f => ?_⟩
  cases i with
  | zero =>
    cases e
    cases f
    exact r
  | succ i => exact h.2 i a b e f
theorem P2.take {α β : Type} {R : α → β → Prop} {xs : List α} {ys : List β} (h : P2 R xs ys) (n : Nat) : P2 R (xs.take n) (ys.take n) := by
  refine ⟨by rw [List.length_take, List.length_take, h.1], fun i a b e f => ?_⟩
  by_cases q : i < n
  · rw [List.getElem?_take_of_lt q] at e f
    exact h.2 i a b e f
  · rw [List.getElem?_eq_none (by rw [List.length_take]; omega)] at e
    cases e
theorem P2.uncons {α β : Type} {R : α → β → Prop} {xs : List α} {y : β} {ys : List β} (h : P2 R xs (y :: ys)) : ∃ x r, xs = x :: r ∧ R x y ∧ P2 R r ys := by
  match xs, h with
  | [], h => exact absurd h.1 (by simp)
  | x :: r, h => exact ⟨x, r, rfl, h.2 0 x y rfl rfl, by have := h.1; rw [List.length_cons, List.length_cons] at this; omega, fun i a b e f => h.2 (i + 1) a b e f⟩
theorem fresh_id : ∀ l : List Nat, ∃ n, ∀ x ∈ l, x < n
  | [] => ⟨0, fun x h => by cases h⟩
  | a :: l => by
    obtain ⟨n, hn⟩ := fresh_id l
    refine ⟨max n (a + 1), fun x hx => ?_⟩
    cases hx with
    | head => omega
    | tail _ q =>
      have := hn x q
      omega
/-! ### the book in the heap -/
structure Bk where
  dx : Addr
  lb : Addr
  lf : Addr
  i : Nat
  f : Fp
  ps : List (Nat × Fp)
  fs : List (Nat × Fp)
def ids (k : Bk) : List Nat := k.i :: (k.ps.map (·.1) ++ k.fs.map (·.1))
def rv (l : List (Nat × Fp)) : List V := (l.map fun x => V.ref x.2.a).reverse
structure BookAt (Z : Adr) (ρ : Roles) (H : Hp) (b : Addr) (k : Bk) (d : Desk) : Prop where
  obj : H b = some (.ins Z.c_Book k.dx (fs_Book (.ref k.f.a) (.ref k.lb) (.ref k.lf)))
  rb : ρ b = .book
  lb : H k.lb = some (.lst (rv k.ps))
  rlb : ρ k.lb = .before
  lf : H k.lf = some (.lst (rv k.fs))
  rlf : ρ k.lf = .behind
  now : MintAt Z ρ k.i H k.f d.now
  ps : P2 (fun x m => MintAt Z ρ x.1 H x.2 m) k.ps d.past
  fs : P2 (fun x m => MintAt Z ρ x.1 H x.2 m) k.fs d.future
  nd : (ids k).Nodup
theorem rv_len (l : List (Nat × Fp)) : (rv l).length = l.length := by
  unfold rv
  rw [List.length_reverse, List.length_map]
theorem rv_cons (x : Nat × Fp) (l : List (Nat × Fp)) : rv (x :: l) = rv l ++ [.ref x.2.a] := by
  unfold rv
  rw [List.map_cons, List.reverse_cons]
theorem cut30 (l : List (Nat × Fp)) : cutV (rv l) (some (-30)) none = rv (l.take 30) := by
  unfold cutV
  rw [HT.sIx_none]
  have e : HT.sIx (rv l).length 0 (some (-30)) = l.length - 30 := by
    show (if (-30 : Int) < 0 then ((-30 : Int) + ((rv l).length : Int)).toNat else min (-30 : Int).toNat (rv l).length) = _
    rw [if_pos (by decide), rv_len]
    omega
  rw [e, List.take_of_length_le (by rw [List.length_drop]; omega)]
  unfold rv
  have h := MT.last30 (l.map fun x => V.ref x.2.a)
  rw [List.length_map] at h
  rw [h, List.map_take]
theorem pop_at (x : Nat × Fp) (l : List (Nat × Fp)) : (rv (x :: l))[(rv (x :: l)).length - 1]? = some (.ref x.2.a) ∧ (rv (x :: l)).dropLast = rv l := by
  rw [rv_cons]
  refine ⟨?_, List.dropLast_concat⟩
  rw [List.length_append, List.length_singleton, Nat.add_sub_cancel, List.getElem?_append_right (Nat.le_refl _), Nat.sub_self]
  rfl
section
variable {Z : Adr} {ρ ρ' : Roles} {H H' : Hp} {b : Addr} {k : Bk} {d : Desk}
theorem book_imm {dx : Addr} {a b c : V} : ¬ Imm Z (.ins Z.c_Book dx (fs_Book a b c)) := fun ⟨_, _, _, q⟩ => by
  injection q with _ _ q
  unfold fs_Book fs_Metal at q
  injection q with q1 q2
  injection q2 with q3 q4
  injection q4
/-- a store at what is no mint's -/
theorem MintAt.but {i : Nat} {f : Fp} {s : Mint} {u : HO} (h : MintAt Z ρ i H f s) (hb : owner (ρ b) = none) (hu : H b = some u) (hi : ¬ Imm Z u) (e : But b H H') (x : Ext H ρ ρ') : MintAt Z ρ' i H' f s :=
  h.keep (fun a o q r => ⟨e a o q (fun z => by rw [z, hb] at r; cases r), x a o q⟩) fun a o q r => e a o q (fun z => hi (by
    rw [z, hu] at q
    cases q
    exact r))
theorem P2.but {u : HO} {ps : List (Nat × Fp)} {ms : List Mint} (h : P2 (fun x m => MintAt Z ρ x.1 H x.2 m) ps ms) (hb : owner (ρ b) = none) (hu : H b = some u) (hi : ¬ Imm Z u) (e : But b H H') (x : Ext H ρ ρ') : P2 (fun x m => MintAt Z ρ' x.1 H' x.2 m) ps ms :=
  h.mono fun _ _ q => q.but hb hu hi e x
/-- new things, new roles for new things -/
theorem BookAt.grow (B : BookAt Z ρ H b k d) (s : Same H H') (E : Ext H ρ ρ') : BookAt Z ρ' H' b k d := by
  have up : ∀ {i f m}, MintAt Z ρ i H f m → MintAt Z ρ' i H' f m := fun M => M.keep (fun a o q _ => ⟨s a o q, E a o q⟩) fun a o q _ => s a o q
  exact ⟨s _ _ B.obj, (E _ _ B.obj).trans B.rb, s _ _ B.lb, (E _ _ B.lb).trans B.rlb, s _ _ B.lf, (E _ _ B.lf).trans B.rlf, up B.now, B.ps.mono fun _ _ q => up q, B.fs.mono fun _ _ q => up q, B.nd⟩
/-- stores of another mint -/
theorem BookAt.other {n : Nat} (B : BookAt Z ρ H b k d) (F : Fr Z ρ n H H') (E : Ext H ρ ρ') (hn : ¬ n ∈ ids k) : BookAt Z ρ' H' b k d := by
  have ne : ∀ {x : Nat}, x ∈ ids k → x ≠ n := fun h e => hn (by rw [← e]; exact h)
  refine ⟨F.out _ _ B.obj (by rw [B.rb]; intro z; cases z), (E _ _ B.obj).trans B.rb, F.out _ _ B.lb (by rw [B.rlb]; intro z; cases z), (E _ _ B.lb).trans B.rlb, F.out _ _ B.lf (by rw [B.rlf]; intro z; cases z), (E _ _ B.lf).trans B.rlf, B.now.other F E (ne (List.Mem.head _)),
    ⟨B.ps.1, fun j x m e f => (B.ps.2 j x m e f).other F E (ne (List.Mem.tail _ (List.mem_append.mpr (.inl (List.mem_map.mpr ⟨x, List.mem_of_getElem? e, rfl⟩)))))⟩,
    ⟨B.fs.1, fun j x m e f => (B.fs.2 j x m e f).other F E (ne (List.Mem.tail _ (List.mem_append.mpr (.inr (List.mem_map.mpr ⟨x, List.mem_of_getElem? e, rfl⟩)))))⟩, B.nd⟩
/-- stores of the mint that is -/
theorem BookAt.tell {f' : Fp} (B : BookAt Z ρ H b k d) (F : Fr Z ρ k.i H H') (E : Ext H ρ ρ') (M : MintAt Z ρ' k.i H' f' d.now) (ea : f'.a = k.f.a) : BookAt Z ρ' H' b { k with f := f' } d := by
  have nd : ¬ k.i ∈ k.ps.map (·.1) ++ k.fs.map (·.1) := (List.nodup_cons.mp B.nd).1
  have ne : ∀ {x : Nat}, x ∈ k.ps.map (·.1) ++ k.fs.map (·.1) → x ≠ k.i := fun h e => nd (by rw [← e]; exact h)
  refine ⟨?_, (E _ _ B.obj).trans B.rb, F.out _ _ B.lb (by rw [B.rlb]; intro z; cases z), (E _ _ B.lb).trans B.rlb, F.out _ _ B.lf (by rw [B.rlf]; intro z; cases z), (E _ _ B.lf).trans B.rlf, M,
    ⟨B.ps.1, fun j x m e f => (B.ps.2 j x m e f).other F E (ne (List.mem_append.mpr (.inl (List.mem_map.mpr ⟨x, List.mem_of_getElem? e, rfl⟩))))⟩,
    ⟨B.fs.1, fun j x m e f => (B.fs.2 j x m e f).other F E (ne (List.mem_append.mpr (.inr (List.mem_map.mpr ⟨x, List.mem_of_getElem? e, rfl⟩))))⟩, B.nd⟩
  show H' b = some (.ins Z.c_Book k.dx (fs_Book (.ref f'.a) (.ref k.lb) (.ref k.lf)))
  rw [ea]
  exact F.out _ _ B.obj (by rw [B.rb]; intro z; cases z)
end
section
variable {P : Program} {w : World} {K : PySem.W.Frag} {mg : Str → Option Value} {base : Heap} {Z : Adr}
/-! ### turn_to -/
def sp_Book_turn_to (Z : Adr) : Sp := fun vs H Q _ => ∃ (ρ : Roles) (b : Addr) (k : Bk) (d : Desk) (n : Nat) (g : Fp) (m : Mint), vs = [.ref b, .ref g.a] ∧ BookAt Z ρ H b k d ∧ MG.GoodD d ∧ MintAt Z ρ n H g m ∧ ¬ n ∈ ids k ∧
  ∀ (H' : Hp) (ρ' : Roles) (k' : Bk), BookAt Z ρ' H' b k' (d.become m) → But b H H' → Ext H ρ ρ' → Q .non H'
theorem ok_Book_turn_to (T : Txt K mg Z) : FnOk P w K mg base CX0 1 Z.f_Book_turn_to Z.d_Book_turn_to ["self", "mint"] (sp_Book_turn_to Z) := by
  refine T.F_Book_turn_to.ok sc_Book_turn_to (fun vs H Q E h => ?_) (fun cdv A outer s0 H vs Q E hr h => ?_)
  · obtain ⟨ρ, b, k, d, n, g, m, rfl, _⟩ := h
    rfl
  · obtain ⟨ρ, b, kk, d, n, g, m, rfl, B, D, M, hn, k⟩ := h
    refine ⟨_, (pss_cons (ps_fld (pv 0) (pe_slice sl_list (pe_op op_cat (pe_fld (pv 0) rfl) (pe_lst (pa_cons (pe_fld (pv 0) rfl) pa_nil))) (po_some (pe_un un_neg (pe_gint rfl T.k_MOST_CHANGES))) po_none) rfl) (pss_cons (ps_fld (pv 0) (pe_lst pa_nil) rfl) (pss_one (ps_fld (pv 0) (pv 1) rfl)))), ?_⟩
    have hl30 := D.len
    have lp : (rv kk.ps).length ≤ 30 := by
      rw [rv_len, B.ps.1]
      omega
    refine ⟨_, rfl, rd_Book_before T B.obj ⟨_, rfl, rd_Book_mint T B.obj ⟨(by show 1 ≤ 2 ^ 24; decide), fun t ht => ⟨kk.lb, t, _, _, rfl, rfl, Same.new ht _ _ B.lb, upd_same, (by
      show (rv kk.ps).length + 1 ≤ 2 ^ 24
      omega), fun p hp => ⟨_, rfl, _, rfl, p, _, rfl, SqL.of upd_same, fun q hq => ?_⟩⟩⟩⟩⟩
    have ec : cutV (rv kk.ps ++ [V.ref kk.f.a]) (some (-30)) none = rv (((kk.i, kk.f) :: kk.ps).take 30) := by
      rw [← rv_cons (kk.i, kk.f), cut30]
    rw [ec]
    have st : Same H (upd H t (.lst [V.ref kk.f.a])) := Same.new ht
    have sp : Same (upd H t (.lst [V.ref kk.f.a])) (upd (upd H t (.lst [V.ref kk.f.a])) p (.lst (rv kk.ps ++ [V.ref kk.f.a]))) := Same.new hp
    obtain ⟨H2, e2⟩ : ∃ H2, H2 = upd (upd H t (.lst [V.ref kk.f.a])) p (.lst (rv kk.ps ++ [V.ref kk.f.a])) := ⟨_, rfl⟩
    have s2 : Same H H2 := by rw [e2]; exact st.trans sp
    rw [← e2] at hq ⊢
    refine ⟨_, rfl, wr_Book_before T (Same.new hq _ _ (s2 _ _ B.obj)) ?_⟩
    have nqb : q ≠ b := fun e => by
      have := s2 _ _ B.obj
      rw [← e, hq] at this
      cases this
    obtain ⟨H3, e3⟩ : ∃ H3, H3 = upd (upd H2 q (.lst (rv (((kk.i, kk.f) :: kk.ps).take 30)))) b (.ins Z.c_Book kk.dx (fs_Book (.ref kk.f.a) (.ref q) (.ref kk.lf))) := ⟨_, rfl⟩
    have b3 : H3 b = some (.ins Z.c_Book kk.dx (fs_Book (.ref kk.f.a) (.ref q) (.ref kk.lf))) := by rw [e3]; exact upd_same
    have q3 : H3 q = some (.lst (rv (((kk.i, kk.f) :: kk.ps).take 30))) := by rw [e3, upd_ne nqb, upd_same]
    have B3 : But b H H3 := by rw [e3]; exact (But.same (s2.trans (Same.new hq))).trans But.upd
    rw [← e3]
    refine ⟨Nat.zero_le _, fun e he => ⟨_, rfl, wr_Book_behind T (Same.new he _ _ b3) ?_⟩⟩
    refine ⟨_, rfl, _, rfl, wr_Book_mint T upd_same ?_⟩
    rw [upd_upd]
    have neb : e ≠ b := fun z => by
      rw [z, b3] at he
      cases he
    have neq : q ≠ e := fun z => by
      rw [← z, q3] at he
      cases he
    have B4 : But b H3 (upd (upd H3 e (.lst [])) b (.ins Z.c_Book kk.dx (fs_Book (.ref g.a) (.ref q) (.ref e)))) := (But.same (Same.new he)).trans But.upd
    have B04 := B3.trans B4
    have qH : H q = none := s2.free hq
    have eH : H e = none := by
      cases z : H e with
      | none => rfl
      | some o =>
        rw [B3 e o z neb] at he
        cases he
    have E4 : Ext H ρ (setR (setR ρ q .before) e .behind) := fun a o z => by rw [setR_ne (ne_of_none z eH), setR_ne (ne_of_none z qH)]
    have ob : owner (ρ b) = none := by rw [B.rb]; rfl
    refine k _ (setR (setR ρ q .before) e .behind) ⟨kk.dx, q, e, n, g, ((kk.i, kk.f) :: kk.ps).take 30, []⟩ ⟨upd_same, (E4 _ _ B.obj).trans B.rb, B4 _ _ q3 nqb, ?_, ?_, setR_same, M.but ob B.obj book_imm B04 E4, ?_, P2.nil, ?_⟩ B04 E4
    · show setR (setR ρ q .before) e .behind q = .before
      rw [setR_ne neq, setR_same]
    · show upd _ b _ e = some (.lst (rv []))
      rw [upd_ne neb, upd_same]
      rfl
    · exact ((B.ps.cons (x := (kk.i, kk.f)) B.now).take 30).but ob B.obj book_imm B04 E4
    · show (n :: ((((kk.i, kk.f) :: kk.ps).take 30).map (·.1) ++ [])).Nodup
      rw [List.append_nil]
      have sub : ((((kk.i, kk.f) :: kk.ps).take 30).map (·.1)).Sublist (ids kk) := by
        rw [List.map_take]
        refine (List.take_sublist _ _).trans ?_
        show (kk.i :: kk.ps.map (·.1)).Sublist (kk.i :: (kk.ps.map (·.1) ++ kk.fs.map (·.1)))
        exact (List.sublist_append_left _ _).cons₂ _
      exact List.nodup_cons.mpr ⟨fun z => hn (sub.subset z), List.Pairwise.sublist sub B.nd⟩
end
end Mi


set_option Elab.async false
set_option linter.all false
set_option maxRecDepth 100000
set_option maxHeartbeats 4000000
namespace Mi
open PySem PySem.Spec PyProof.Rows L2
open Km408 (Metal Mint Desk ones)
open MP (picks avail mix lotAt)
/-- what a call makes of the desk, and what it answers -/
def dres (x : Km408.Call) (d : Desk) : Desk × List Int := ((Km408.act d x).1, Km408Neutral.told (Km408.act d x).2)
/-- what is no mint's and not the book's is as it was -/
def Free (ρ : Roles) (H H' : Hp) : Prop := ∀ a o, H a = some o → ρ a = .free → H' a = some o
def BookPost (Z : Adr) (ρ : Roles) (H : Hp) (b : Addr) (r : Desk × List Int) (Q : VK) : Prop := ∀ (H' : Hp) (ρ' : Roles) (k' : Bk) (l : Addr), BookAt Z ρ' H' b k' r.1 → Free ρ H H' → Ext H ρ ρ' → H l = none → H' l = some (.lst (r.2.map V.int)) → Q (.ref l) H'
theorem Free.but {ρ : Roles} {H H' : Hp} {b : Addr} (e : But b H H') (h : ρ b ≠ .free) : Free ρ H H' := fun a o q r => e a o q (fun z => h (by rw [← z]; exact r))
theorem Free.trans {ρ ρ1 : Roles} {H H1 H2 : Hp} (a : Free ρ H H1) (x : Ext H ρ ρ1) (b : Free ρ1 H1 H2) : Free ρ H H2 := fun c o q r => b c o (a c o q r) (by rw [x c o q]; exact r)
theorem Free.same {ρ : Roles} {H H' : Hp} (s : Same H H') : Free ρ H H' := fun a o q _ => s a o q
/-- attributes of a book: none yet, or all -/
def BookFs (fs : List (Str × V)) : Prop := fs = [] ∨ ∃ a b c, fs = fs_Book a b c
theorem put_book {fs : List (Str × V)} (h : BookFs fs) (a b c : V) : putF "behind" c (putF "before" b (putF "mint" a fs)) = fs_Book a b c := by
  rcases h with rfl | ⟨a1, b1, c1, rfl⟩
  · have e1 : putF "mint" a ([] : List (Str × V)) = ([("mint", a)] : List (Str × V)) := rfl
    have e2 : putF "before" b ([("mint", a)] : List (Str × V)) = ([("mint", a), ("before", b)] : List (Str × V)) := pf1 nq_mint_before rfl
    have e3 : putF "behind" c ([("mint", a), ("before", b)] : List (Str × V)) = ([("mint", a), ("before", b), ("behind", c)] : List (Str × V)) := pf1 nq_mint_behind (pf1 nq_before_behind rfl)
    rw [e1, e2, e3]
    rfl
  · rw [pu_Book_mint, pu_Book_before, pu_Book_behind]
section
variable {P : Program} {w : World} {K : PySem.W.Frag} {mg : Str → Option Value} {base : Heap} {Z : Adr}
/-- a new mint, all as at first -/
theorem opened_at {ρ : Roles} {H H1 : Hp} {x dx lk ld ll mp lc : Addr} {ms : List Addr} {n : Nat} (nx : H x = none) (nd : H dx = none)
    (o1 : H1 x = some (.ins Z.c_Mint dx (fs_Mint (.int n) (.ref lk) (.ref ld) (.ref ll) (.ref mp) (.ref lc) (.int 0) (.int 0) (.int 0) (.int 0) (.int 0))))
    (h1 : H1 lk = some (.lst [])) (h2 : H1 ld = some (.lst [])) (h3 : H1 ll = some (.lst (ms.map V.ref))) (hm : ms.length = 10) (hA : ∀ a ∈ ms, MetalAt Z H1 a ⟨0, 0⟩) (hP : MetalAt Z H1 mp ⟨0, 0⟩) (h4 : H1 lc = some (.lst (nv (List.replicate 6 0))))
    (n1 : (upd (upd H dx (.own x)) x (.ins Z.c_Mint dx [])) lk = none) (n2 : (upd (upd H dx (.own x)) x (.ins Z.c_Mint dx [])) ld = none) (n3 : (upd (upd H dx (.own x)) x (.ins Z.c_Mint dx [])) ll = none) (n4 : (upd (upd H dx (.own x)) x (.ins Z.c_Mint dx [])) lc = none)
    (d1 : lk ≠ ld) (d2 : lk ≠ ll) (d3 : lk ≠ lc) (d4 : ld ≠ ll) (d5 : ld ≠ lc) (d6 : ll ≠ lc) (B : But x (upd (upd H dx (.own x)) x (.ins Z.c_Mint dx [])) H1) :
    ∃ ρ1 f, f.a = x ∧ Ext H ρ ρ1 ∧ Same H H1 ∧ MintAt Z ρ1 0 H1 f (Km408.opened n) := by
  have s1 : Same H H1 := Same.made nx nd B
  have s0 : Same H (upd (upd H dx (.own x)) x (.ins Z.c_Mint dx [])) := same_newI nx nd
  have x1 : ∀ {l}, (upd (upd H dx (.own x)) x (.ins Z.c_Mint dx [])) l = none → l ≠ x := fun {l} h e => by
    rw [e, upd_same] at h
    cases h
  obtain ⟨ρ1, e1⟩ : ∃ ρ1, ρ1 = setR (setR (setR (setR (setR ρ x (.mint 0)) lk (.kinds 0)) ld (.dies 0)) ll (.lots 0)) lc (.credit 0) := ⟨_, rfl⟩
  have r1 : ρ1 x = .mint 0 := by rw [e1, setR_ne (Ne.symm (x1 n4)), setR_ne (Ne.symm (x1 n3)), setR_ne (Ne.symm (x1 n2)), setR_ne (Ne.symm (x1 n1)), setR_same]
  have r2 : ρ1 lk = .kinds 0 := by rw [e1, setR_ne d3, setR_ne d2, setR_ne d1, setR_same]
  have r3 : ρ1 ld = .dies 0 := by rw [e1, setR_ne d5, setR_ne d4, setR_same]
  have r4 : ρ1 ll = .lots 0 := by rw [e1, setR_ne d6, setR_same]
  have r5 : ρ1 lc = .credit 0 := by rw [e1, setR_same]
  have E1 : Ext H ρ ρ1 := fun b o q => by
    rw [e1, setR_ne (ne_of_none q (s0.free n4)), setR_ne (ne_of_none q (s0.free n3)), setR_ne (ne_of_none q (s0.free n2)), setR_ne (ne_of_none q (s0.free n1)), setR_ne (ne_of_none q nx)]
  refine ⟨ρ1, ⟨x, dx, lk, ld, ll, mp, lc, ms, [], []⟩, rfl, E1, s1, ⟨o1, r1, h1, r2, rfl, (fun j k kd q => by simp at q), h2, r3, rfl, (fun j k kd q => by simp at q), ⟨h3, hm, fun j a q => ?_⟩, r4, hP, h4, r5⟩⟩
  have e : lotAt (Km408.opened n) j = ⟨0, 0⟩ := by
    have e2 : (Km408.opened n).lots.getD j none = none := by
      show (List.replicate 10 none).getD j none = none
      rw [List.getD_eq_getElem?_getD, List.getElem?_replicate]
      split <;> rfl
    unfold lotAt
    rw [e2]
    rfl
  rw [e]
  exact hA a (List.mem_of_getElem? q)
/-! ### begin -/
def sp_Book_begin_anew (Z : Adr) : Sp := fun vs H Q _ => ∃ (ρ : Roles) (b dx : Addr) (fs : List (Str × V)) (n : Nat), vs = [.ref b, .int n] ∧ H b = some (.ins Z.c_Book dx fs) ∧ BookFs fs ∧ ρ b = .book ∧
  ∀ (H' : Hp) (ρ' : Roles) (k' : Bk), BookAt Z ρ' H' b k' ⟨Km408.opened n, [], []⟩ → But b H H' → Ext H ρ ρ' → Q .non H'
theorem ok_Book_begin_anew (T : Txt K mg Z) : FnOk P w K mg base CX0 5 Z.f_Book_begin_anew Z.d_Book_begin_anew ["self", "keeps"] (sp_Book_begin_anew Z) := by
  refine T.F_Book_begin_anew.ok sc_Book_begin_anew (fun vs H Q E h => ?_) (fun cdv A outer s0 H vs Q E hr h => ?_)
  · obtain ⟨ρ, b, dx, fs, n, rfl, _⟩ := h
    rfl
  · obtain ⟨ρ, b, db, fs, n, rfl, hb, hfs, rb, k⟩ := h
    refine ⟨_, (pss_cons (ps_fld (pv 0) (pe_make T.mk_Mint (ok_Mint_init T) (hr.mono (by decide)) rfl T.g_Mint (b_Mint_init T) .nil pass0 ((pa_cons (pv 1) pa_nil))) rfl) (pss_cons (ps_fld (pv 0) (pe_lst pa_nil) rfl) (pss_one (ps_fld (pv 0) (pe_lst pa_nil) rfl)))), ?_⟩
    have hl0 : fs.length ≤ 3 := by
      rcases hfs with rfl | ⟨_, _, _, rfl⟩
      · exact Nat.zero_le _
      · exact Nat.le_refl 3
    refine ⟨_, rfl, (fun x dx nx nd _ => ⟨x, dx, n, rfl, upd_same, fun H1 lk ld ll mp lc ms o1 h1 h2 h3 hm hA hP h4 n1 n2 n3 n4 d1 d2 d3 d4 d5 d6 B1 => ⟨rfl, ?_⟩⟩)⟩
    obtain ⟨ρ1, f, ef, E1, s1, M1⟩ := opened_at (ρ := ρ) nx nd o1 h1 h2 h3 hm hA hP h4 n1 n2 n3 n4 d1 d2 d3 d4 d5 d6 B1
    subst ef
    refine ⟨_, rfl, wr_new (s1 _ _ hb) T.cl_Book T.n_Book_mint (by omega) rfl ?_⟩
    have l1 := put_len (f := "mint") (x := V.ref f.a) fs
    obtain ⟨H2, e2⟩ : ∃ H2, H2 = upd H1 b (.ins Z.c_Book db (putF "mint" (.ref f.a) fs)) := ⟨_, rfl⟩
    have p2 : H2 b = some (.ins Z.c_Book db (putF "mint" (.ref f.a) fs)) := by rw [e2]; exact upd_same
    have C2 : But b H1 H2 := by rw [e2]; exact But.upd
    rw [← e2]
    refine ⟨Nat.zero_le _, fun lb nb => ⟨_, rfl, wr_new (Same.new nb _ _ p2) T.cl_Book T.n_Book_before (by omega) rfl ?_⟩⟩
    have l2 := put_len (f := "before") (x := V.ref lb) (putF "mint" (.ref f.a) fs)
    obtain ⟨H3, e3⟩ : ∃ H3, H3 = upd (upd H2 lb (.lst [])) b (.ins Z.c_Book db (putF "before" (.ref lb) (putF "mint" (.ref f.a) fs))) := ⟨_, rfl⟩
    have nbb : lb ≠ b := fun e => by rw [e, p2] at nb; cases nb
    have p3 : H3 b = some (.ins Z.c_Book db (putF "before" (.ref lb) (putF "mint" (.ref f.a) fs))) := by rw [e3]; exact upd_same
    have q3 : H3 lb = some (.lst []) := by rw [e3, upd_ne nbb, upd_same]
    have C3 : But b H2 H3 := by rw [e3]; exact (But.same (Same.new nb)).trans But.upd
    rw [← e3]
    refine ⟨Nat.zero_le _, fun lf nf => ⟨_, rfl, wr_new (Same.new nf _ _ p3) T.cl_Book T.n_Book_behind (by omega) rfl ?_⟩⟩
    rw [put_book hfs]
    have nfb : lf ≠ b := fun e => by rw [e, p3] at nf; cases nf
    have nlf : lb ≠ lf := fun e => by rw [← e, q3] at nf; cases nf
    have C4 : But b H3 (upd (upd H3 lf (.lst [])) b (.ins Z.c_Book db (fs_Book (.ref f.a) (.ref lb) (.ref lf)))) := (But.same (Same.new nf)).trans But.upd
    have C14 := C2.trans (C3.trans C4)
    have fr : ∀ {l Hc}, Hc l = none → l ≠ b → But b H1 Hc → H1 l = none := fun {l Hc} h1 h2 h3 => by
      cases z : H1 l with
      | none => rfl
      | some o =>
        rw [h3 l o z h2] at h1
        cases h1
    have b1 : H1 lb = none := fr nb nbb C2
    have f1 : H1 lf = none := fr nf nfb (C2.trans C3)
    have E4 : Ext H1 ρ1 (setR (setR ρ1 lb .before) lf .behind) := fun a o z => by rw [setR_ne (ne_of_none z f1), setR_ne (ne_of_none z b1)]
    have rb1 : ρ1 b = .book := (E1 _ _ hb).trans rb
    have hi : ¬ Imm Z (.ins Z.c_Book db fs) := by
      rcases hfs with rfl | ⟨_, _, _, rfl⟩
      · rintro ⟨_, _, _, q⟩
        injection q with _ _ q
        cases q
      · exact book_imm
    refine k _ (setR (setR ρ1 lb .before) lf .behind) ⟨db, lb, lf, 0, f, [], []⟩ ⟨upd_same, (E4 _ _ (s1 _ _ hb)).trans rb1, ?_, ?_, ?_, setR_same, M1.but (by rw [rb1]; rfl) (s1 _ _ hb) hi C14 E4, P2.nil, P2.nil, ?_⟩ ((But.same s1).trans C14) (E1.thru (Grow.same s1) E4)
    · exact C4 _ _ q3 nbb
    · show setR (setR ρ1 lb .before) lf .behind lb = .before
      rw [setR_ne nlf, setR_same]
    · show upd _ b _ lf = some (.lst (rv []))
      rw [upd_ne nfb, upd_same]
      rfl
    · exact List.nodup_cons.mpr ⟨(fun z => by cases z), List.nodup_nil⟩
def sp_Book_init (Z : Adr) : Sp := fun vs H Q _ => ∃ (ρ : Roles) (b dx : Addr), vs = [.ref b] ∧ H b = some (.ins Z.c_Book dx []) ∧ ρ b = .book ∧
  ∀ (H' : Hp) (ρ' : Roles) (k' : Bk), BookAt Z ρ' H' b k' (Km408.fresh 0) → But b H H' → Ext H ρ ρ' → Q .non H'
theorem ok_Book_init (T : Txt K mg Z) : FnOk P w K mg base CX0 6 Z.f_Book_init Z.d_Book_init ["self"] (sp_Book_init Z) := by
  refine T.F_Book_init.ok sc_Book_init (fun vs H Q E h => ?_) (fun cdv A outer s0 H vs Q E hr h => ?_)
  · obtain ⟨ρ, b, dx, rfl, _⟩ := h
    rfl
  · obtain ⟨ρ, b, dx, rfl, hb, rb, k⟩ := h
    refine ⟨_, (pss_one (ps_expr (pe_meth (pv 0) T.cl_Book T.m_Book_begin_anew (ok_Book_begin_anew T) (hr.mono (by decide)) (b_Book_begin_anew T) .nil pass0 ((pa_cons pe_int pa_nil))))), ?_⟩
    exact ⟨_, rfl, b, dx, [], rfl, hb, rfl, ρ, b, dx, [], 0, rfl, hb, .inl rfl, rb, fun H' ρ' k' B C E => k H' ρ' k' B C E⟩
def sp_begin (Z : Adr) : Sp := fun vs H Q _ => ∃ (ρ : Roles) (b : Addr) (k : Bk) (d : Desk) (n : Nat), vs = [.ref b, .int n] ∧ BookAt Z ρ H b k d ∧ BookPost Z ρ H b (dres (.start n) d) Q
/-- nothing is changed, and a list of numbers is answered -/
theorem btells {ρ : Roles} {H H1 : Hp} {b : Addr} {k : Bk} {d : Desk} {r : Desk × List Int} {Q : VK} {ans : List Int} (B : BookAt Z ρ H b k d) (s1 : Same H H1) (p : BookPost Z ρ H b r Q) (e : r = (d, ans)) {vs : List V} (ev : vs = ans.map V.int) (n : vs.length ≤ 25) :
    vs.length ≤ sizeLine ∧ ∀ p, H1 p = none → Q (.ref p) (upd H1 p (.lst vs)) := by
  refine ⟨Nat.le_trans n (by decide), fun l hl => ?_⟩
  subst e
  have s2 := s1.trans (Same.new (o := .lst vs) hl)
  exact p _ ρ k l (B.grow s2 (Ext.refl _ _)) (Free.same s2) (Ext.refl _ _) (s1.free hl) (by rw [upd_same, ev])
/-- a changed book -/
theorem btells2 {ρ ρ1 : Roles} {H H1 : Hp} {b : Addr} {k1 : Bk} {d1 : Desk} {r : Desk × List Int} {Q : VK} {ans : List Int} (B : BookAt Z ρ1 H1 b k1 d1) (F : Free ρ H H1) (E : Ext H ρ ρ1) (g : Grow H H1) (p : BookPost Z ρ H b r Q) (e : r = (d1, ans)) {vs : List V} (ev : vs = ans.map V.int) (n : vs.length ≤ 25) :
    vs.length ≤ sizeLine ∧ ∀ p, H1 p = none → Q (.ref p) (upd H1 p (.lst vs)) := by
  refine ⟨Nat.le_trans n (by decide), fun l hl => ?_⟩
  subst e
  have s2 : Same H1 (upd H1 l (.lst vs)) := Same.new hl
  refine p _ ρ1 k1 l (B.grow s2 (Ext.refl _ _)) (F.trans E (Free.same s2)) E ?_ (by rw [upd_same, ev])
  cases z : H l with
  | none => rfl
  | some o =>
    obtain ⟨o', z'⟩ := g l o z
    rw [hl] at z'
    cases z'
theorem ok_begin (T : Txt K mg Z) : FnOk P w K mg base CX0 6 Z.f_begin Z.d_begin ["book", "keeps"] (sp_begin Z) := by
  refine T.F_begin.ok sc_begin (fun vs H Q E h => ?_) (fun cdv A outer s0 H vs Q E hr h => ?_)
  · obtain ⟨ρ, b, k, d, n, rfl, _⟩ := h
    rfl
  · obtain ⟨ρ, b, kk, d, n, rfl, B, k⟩ := h
    refine ⟨_, (pss_cons (ps_if (pt_cmpR op_gt (pv 1) (pe_gint rfl T.k_MOST_KEPT) (nomark _)) (pss_one (ps_ret (pe_lst (pa_cons (pe_gint rfl T.k_NOT_AS_TOLD) pa_nil)))) pss_nil) (pss_cons (ps_expr (pe_meth (pv 0) T.cl_Book T.m_Book_begin_anew (ok_Book_begin_anew T) (hr.mono (by decide)) (b_Book_begin_anew T) .nil pass0 ((pa_cons (pv 1) pa_nil)))) (pss_one (ps_ret (pe_lst (pa_cons pe_int pa_nil)))))), ?_⟩
    refine ⟨_, rfl, _, _, rfl, rfl, _, rfl, ite2 (fun h1 => ?_) (fun h1 => ?_)⟩
    · refine btells B (Same.refl _) k (ans := [-22]) ?_ rfl (by decide)
      have h1 := of_decide_eq_true h1
      unfold dres Km408.act
      simp only
      rw [if_pos (by omega)]
      rfl
    · have h1 := not_dec h1
      refine ⟨_, rfl, me_Book_begin_anew B.obj ⟨_, rfl, ρ, b, kk.dx, _, n, rfl, B.obj, .inr ⟨_, _, _, rfl⟩, B.rb, fun H1 ρ1 k1 B1 C1 E1 => ?_⟩⟩
      refine btells2 B1 (Free.but C1 (by rw [B.rb]; intro z; cases z)) E1 (C1.grow B1.obj) k (ans := [0]) ?_ rfl (by decide)
      unfold dres Km408.act
      simp only
      rw [if_neg (by omega)]
      rfl
/-! ### take_back, do_again -/
section
variable {ρ : Roles} {H : Hp} {b : Addr} {k : Bk} {d : Desk}
/-- the last of past becomes the mint that is -/
theorem BookAt.back {x : Nat × Fp} {r : List (Nat × Fp)} {m : Mint} {ms : List Mint} (B : BookAt Z ρ H b k d) (ek : k.ps = x :: r) (ed : d.past = m :: ms) :
    BookAt Z ρ (upd (upd (upd H k.lf (.lst (rv k.fs ++ [.ref k.f.a]))) k.lb (.lst (rv r))) b (.ins Z.c_Book k.dx (fs_Book (.ref x.2.a) (.ref k.lb) (.ref k.lf)))) b ⟨k.dx, k.lb, k.lf, x.1, x.2, r, (k.i, k.f) :: k.fs⟩ ⟨m, ms, d.now :: d.future⟩ ∧
    Free ρ H (upd (upd (upd H k.lf (.lst (rv k.fs ++ [.ref k.f.a]))) k.lb (.lst (rv r))) b (.ins Z.c_Book k.dx (fs_Book (.ref x.2.a) (.ref k.lb) (.ref k.lf)))) := by
  have nb1 : b ≠ k.lf := role_ne B.rb B.rlf (by intro z; cases z)
  have nb2 : b ≠ k.lb := role_ne B.rb B.rlb (by intro z; cases z)
  have nbf : k.lb ≠ k.lf := role_ne B.rlb B.rlf (by intro z; cases z)
  have h1b : upd H k.lf (.lst (rv k.fs ++ [.ref k.f.a])) k.lb = some (.lst (rv k.ps)) := by rw [upd_ne nbf]; exact B.lb
  have h2b : upd (upd H k.lf (.lst (rv k.fs ++ [.ref k.f.a]))) k.lb (.lst (rv r)) b = some (.ins Z.c_Book k.dx (fs_Book (.ref k.f.a) (.ref k.lb) (.ref k.lf))) := by
    rw [upd_ne nb2, upd_ne nb1]
    exact B.obj
  have up : ∀ {i f s}, MintAt Z ρ i H f s → MintAt Z ρ i (upd (upd (upd H k.lf (.lst (rv k.fs ++ [.ref k.f.a]))) k.lb (.lst (rv r))) b (.ins Z.c_Book k.dx (fs_Book (.ref x.2.a) (.ref k.lb) (.ref k.lf)))) f s := fun M =>
    ((M.but (by rw [B.rlf]; rfl) B.lf lst_imm But.upd (Ext.refl _ _)).but (by rw [B.rlb]; rfl) h1b lst_imm But.upd (Ext.refl _ _)).but (by rw [B.rb]; rfl) h2b book_imm But.upd (Ext.refl _ _)
  have hps := B.ps
  rw [ek, ed] at hps
  obtain ⟨x', r', e1, M', ps'⟩ := hps.uncons
  obtain ⟨rfl, rfl⟩ := List.cons.inj e1
  have nd := B.nd
  refine ⟨⟨upd_same, B.rb, ?_, B.rlb, ?_, B.rlf, up M', ps'.mono fun _ _ q => up q, (B.fs.cons (x := (k.i, k.f)) B.now).mono fun _ _ q => up q, ?_⟩, fun a o q z => ?_⟩
  · show upd _ b _ k.lb = _
    rw [upd_ne (Ne.symm nb2), upd_same]
  · show upd _ b _ k.lf = some (.lst (rv ((k.i, k.f) :: k.fs)))
    rw [upd_ne (Ne.symm nb1), upd_ne (Ne.symm nbf), upd_same, rv_cons]
  · unfold ids at nd ⊢
    rw [ek] at nd
    refine (List.Perm.nodup_iff ?_).mp nd
    show (k.i :: (x.1 :: (r.map (·.1)) ++ k.fs.map (·.1))).Perm (x.1 :: (r.map (·.1) ++ k.i :: k.fs.map (·.1)))
    exact (List.Perm.swap _ _ _).trans (List.Perm.cons _ List.perm_middle.symm)
  · rw [upd_ne (role_ne z B.rb (by intro y; cases y)), upd_ne (role_ne z B.rlb (by intro y; cases y)), upd_ne (role_ne z B.rlf (by intro y; cases y))]
    exact q
theorem BookAt.again {x : Nat × Fp} {r : List (Nat × Fp)} {m : Mint} {ms : List Mint} (B : BookAt Z ρ H b k d) (ek : k.fs = x :: r) (ed : d.future = m :: ms) :
    BookAt Z ρ (upd (upd (upd H k.lb (.lst (rv k.ps ++ [.ref k.f.a]))) k.lf (.lst (rv r))) b (.ins Z.c_Book k.dx (fs_Book (.ref x.2.a) (.ref k.lb) (.ref k.lf)))) b ⟨k.dx, k.lb, k.lf, x.1, x.2, (k.i, k.f) :: k.ps, r⟩ ⟨m, d.now :: d.past, ms⟩ ∧
    Free ρ H (upd (upd (upd H k.lb (.lst (rv k.ps ++ [.ref k.f.a]))) k.lf (.lst (rv r))) b (.ins Z.c_Book k.dx (fs_Book (.ref x.2.a) (.ref k.lb) (.ref k.lf)))) := by
  have nb1 : b ≠ k.lf := role_ne B.rb B.rlf (by intro z; cases z)
  have nb2 : b ≠ k.lb := role_ne B.rb B.rlb (by intro z; cases z)
  have nbf : k.lf ≠ k.lb := role_ne B.rlf B.rlb (by intro z; cases z)
  have h1b : upd H k.lb (.lst (rv k.ps ++ [.ref k.f.a])) k.lf = some (.lst (rv k.fs)) := by rw [upd_ne nbf]; exact B.lf
  have h2b : upd (upd H k.lb (.lst (rv k.ps ++ [.ref k.f.a]))) k.lf (.lst (rv r)) b = some (.ins Z.c_Book k.dx (fs_Book (.ref k.f.a) (.ref k.lb) (.ref k.lf))) := by
    rw [upd_ne nb1, upd_ne nb2]
    exact B.obj
  have up : ∀ {i f s}, MintAt Z ρ i H f s → MintAt Z ρ i (upd (upd (upd H k.lb (.lst (rv k.ps ++ [.ref k.f.a]))) k.lf (.lst (rv r))) b (.ins Z.c_Book k.dx (fs_Book (.ref x.2.a) (.ref k.lb) (.ref k.lf)))) f s := fun M =>
    ((M.but (by rw [B.rlb]; rfl) B.lb lst_imm But.upd (Ext.refl _ _)).but (by rw [B.rlf]; rfl) h1b lst_imm But.upd (Ext.refl _ _)).but (by rw [B.rb]; rfl) h2b book_imm But.upd (Ext.refl _ _)
  have hfs := B.fs
  rw [ek, ed] at hfs
  obtain ⟨x', r', e1, M', fs'⟩ := hfs.uncons
  obtain ⟨rfl, rfl⟩ := List.cons.inj e1
  have nd := B.nd
  refine ⟨⟨upd_same, B.rb, ?_, B.rlb, ?_, B.rlf, up M', (B.ps.cons (x := (k.i, k.f)) B.now).mono fun _ _ q => up q, fs'.mono fun _ _ q => up q, ?_⟩, fun a o q z => ?_⟩
  · show upd _ b _ k.lb = some (.lst (rv ((k.i, k.f) :: k.ps)))
    rw [upd_ne (Ne.symm nb2), upd_ne (Ne.symm nbf), upd_same, rv_cons]
  · show upd _ b _ k.lf = _
    rw [upd_ne (Ne.symm nb1), upd_same]
  · unfold ids at nd ⊢
    rw [ek] at nd
    refine (List.Perm.nodup_iff ?_).mp nd
    show (k.i :: (k.ps.map (·.1) ++ x.1 :: r.map (·.1))).Perm (x.1 :: (k.i :: k.ps.map (·.1) ++ r.map (·.1)))
    exact (List.Perm.cons _ List.perm_middle).trans (List.Perm.swap _ _ _)
  · rw [upd_ne (role_ne z B.rb (by intro y; cases y)), upd_ne (role_ne z B.rlf (by intro y; cases y)), upd_ne (role_ne z B.rlb (by intro y; cases y))]
    exact q
end
def sp_take_back (Z : Adr) : Sp := fun vs H Q _ => ∃ (ρ : Roles) (b : Addr) (k : Bk) (d : Desk), vs = [.ref b] ∧ BookAt Z ρ H b k d ∧ MG.GoodD d ∧ BookPost Z ρ H b (dres .back d) Q
theorem ok_take_back (T : Txt K mg Z) : FnOk P w K mg base CX0 1 Z.f_take_back Z.d_take_back ["book"] (sp_take_back Z) := by
  refine T.F_take_back.ok sc_take_back (fun vs H Q E h => ?_) (fun cdv A outer s0 H vs Q E hr h => ?_)
  · obtain ⟨ρ, b, k, d, rfl, _⟩ := h
    rfl
  · obtain ⟨ρ, b, kk, d, rfl, B, D, k⟩ := h
    refine ⟨_, (pss_cons (ps_if (pt_cmpR op_eq (pe_callB call_len_seq (by rfl) T.n_len PySem.boot_len (pa_cons (pe_fld (pv 0) rfl) pa_nil)) pe_int (nomark _)) (pss_one (ps_ret (pe_lst (pa_cons (pe_gint rfl T.k_NOT_THERE) pa_nil)))) pss_nil) (pss_cons (ps_expr (pe_bm PySem.F.plainAttrs_list PySem.F.slot_list_append PySem.F.type_list_append mt_append (pe_fld (pv 0) rfl) (pa_cons (pe_fld (pv 0) rfl) pa_nil))) (pss_cons (ps_fld (pv 0) (pe_bm0 PySem.F.plainAttrs_list PySem.F.slot_list_pop PySem.F.type_list_pop mt_pop (pe_fld (pv 0) rfl) ) rfl) (pss_one (ps_ret (pe_lst (pa_cons (pe_callB call_len_seq (by rfl) T.n_len PySem.boot_len (pa_cons (pe_fld (pv 0) rfl) pa_nil)) pa_nil))))))), ?_⟩
    have hl := D.len
    have lps := B.ps.1
    have lfs := B.fs.1
    refine ⟨_, rfl, rd_Book_before T B.obj ⟨kk.lb, _, rfl, .inl (SqL.of B.lb), rfl, _, rfl, ite2 (fun h1 => ?_) (fun h1 => ?_)⟩⟩
    · refine btells B (Same.refl _) k (ans := [-2]) ?_ rfl (by decide)
      have h1 := (int_lit (n := 0) rfl).mp (of_decide_eq_true h1)
      rw [rv_len, lps, len_zero] at h1
      unfold dres Km408.act
      simp only
      rw [h1]
      rfl
    · have h1 : ¬ d.past.length = 0 := fun e => h1 (decide_eq_true ((int_lit (n := 0) rfl).mpr (by rw [rv_len, lps]; exact e)))
      obtain ⟨m, ms, ed⟩ : ∃ m ms, d.past = m :: ms := by
        cases e : d.past with
        | nil => exact (h1 (by rw [e]; rfl)).elim
        | cons m ms => exact ⟨m, ms, rfl⟩
      obtain ⟨x, r, ek⟩ : ∃ x r, kk.ps = x :: r := by
        cases e : kk.ps with
        | nil =>
          rw [e, ed] at lps
          cases lps
        | cons x r => exact ⟨x, r, rfl⟩
      obtain ⟨B3, F3⟩ := B.back ek ed
      have nb1 : b ≠ kk.lf := role_ne B.rb B.rlf (by intro z; cases z)
      have nb2 : b ≠ kk.lb := role_ne B.rb B.rlb (by intro z; cases z)
      have nbf : kk.lb ≠ kk.lf := role_ne B.rlb B.rlf (by intro z; cases z)
      have o1 : upd H kk.lf (.lst (rv kk.fs ++ [.ref kk.f.a])) b = some (.ins Z.c_Book kk.dx (fs_Book (.ref kk.f.a) (.ref kk.lb) (.ref kk.lf))) := by rw [upd_ne nb1]; exact B.obj
      have p1 : upd H kk.lf (.lst (rv kk.fs ++ [.ref kk.f.a])) kk.lb = some (.lst (rv (x :: r))) := by rw [upd_ne nbf, ← ek]; exact B.lb
      obtain ⟨pa, pd⟩ := pop_at x r
      refine ⟨_, rfl, rd_Book_behind T B.obj ⟨.inl ⟨rfl, _, SqL.of B.lf⟩, _, rfl, rd_Book_mint T B.obj ⟨kk.lf, _, _, rfl, rfl, B.lf, (by rw [rv_len, lfs]; show _ < 2 ^ 24; omega), ?_⟩⟩⟩
      refine ⟨_, rfl, rd_Book_before T o1 ⟨.inl ⟨rfl, _, SqL.of p1⟩, kk.lb, _, _, rfl, rfl, p1, pa, ?_⟩⟩
      rw [pd]
      refine ⟨_, rfl, wr_Book_mint T (by rw [upd_ne nb2]; exact o1) ?_⟩
      refine ⟨_, rfl, rd_Book_before T B3.obj ⟨kk.lb, _, rfl, .inl (SqL.of B3.lb), ?_⟩⟩
      have lr : r.length = ms.length := by
        rw [ek, ed] at lps
        simpa using lps
      rw [rv_len]
      refine btells2 B3 F3 (Ext.refl _ _) ((Grow.upd.trans Grow.upd).trans Grow.upd) k (ans := [((ms.length : Nat) : Int)]) ?_ ?_ (by show 1 ≤ 25; decide)
      · unfold dres Km408.act
        simp only
        rw [ed]
        rfl
      · show [V.int ((r.length : Nat) : Int)] = [V.int ((ms.length : Nat) : Int)]
        rw [lr]
def sp_do_again (Z : Adr) : Sp := fun vs H Q _ => ∃ (ρ : Roles) (b : Addr) (k : Bk) (d : Desk), vs = [.ref b] ∧ BookAt Z ρ H b k d ∧ MG.GoodD d ∧ BookPost Z ρ H b (dres .again d) Q
theorem ok_do_again (T : Txt K mg Z) : FnOk P w K mg base CX0 1 Z.f_do_again Z.d_do_again ["book"] (sp_do_again Z) := by
  refine T.F_do_again.ok sc_do_again (fun vs H Q E h => ?_) (fun cdv A outer s0 H vs Q E hr h => ?_)
  · obtain ⟨ρ, b, k, d, rfl, _⟩ := h
    rfl
  · obtain ⟨ρ, b, kk, d, rfl, B, D, k⟩ := h
    refine ⟨_, (pss_cons (ps_if (pt_cmpR op_eq (pe_callB call_len_seq (by rfl) T.n_len PySem.boot_len (pa_cons (pe_fld (pv 0) rfl) pa_nil)) pe_int (nomark _)) (pss_one (ps_ret (pe_lst (pa_cons (pe_gint rfl T.k_NOT_THERE) pa_nil)))) pss_nil) (pss_cons (ps_expr (pe_bm PySem.F.plainAttrs_list PySem.F.slot_list_append PySem.F.type_list_append mt_append (pe_fld (pv 0) rfl) (pa_cons (pe_fld (pv 0) rfl) pa_nil))) (pss_cons (ps_fld (pv 0) (pe_bm0 PySem.F.plainAttrs_list PySem.F.slot_list_pop PySem.F.type_list_pop mt_pop (pe_fld (pv 0) rfl) ) rfl) (pss_one (ps_ret (pe_lst (pa_cons (pe_callB call_len_seq (by rfl) T.n_len PySem.boot_len (pa_cons (pe_fld (pv 0) rfl) pa_nil)) pa_nil))))))), ?_⟩
    have hl := D.len
    have lps := B.ps.1
    have lfs := B.fs.1
    refine ⟨_, rfl, rd_Book_behind T B.obj ⟨kk.lf, _, rfl, .inl (SqL.of B.lf), rfl, _, rfl, ite2 (fun h1 => ?_) (fun h1 => ?_)⟩⟩
    · refine btells B (Same.refl _) k (ans := [-2]) ?_ rfl (by decide)
      have h1 := (int_lit (n := 0) rfl).mp (of_decide_eq_true h1)
      rw [rv_len, lfs, len_zero] at h1
      unfold dres Km408.act
      simp only
      rw [h1]
      rfl
    · have h1 : ¬ d.future.length = 0 := fun e => h1 (decide_eq_true ((int_lit (n := 0) rfl).mpr (by rw [rv_len, lfs]; exact e)))
      obtain ⟨m, ms, ed⟩ : ∃ m ms, d.future = m :: ms := by
        cases e : d.future with
        | nil => exact (h1 (by rw [e]; rfl)).elim
        | cons m ms => exact ⟨m, ms, rfl⟩
      obtain ⟨x, r, ek⟩ : ∃ x r, kk.fs = x :: r := by
        cases e : kk.fs with
        | nil =>
          rw [e, ed] at lfs
          cases lfs
        | cons x r => exact ⟨x, r, rfl⟩
      obtain ⟨B3, F3⟩ := B.again ek ed
      have nb1 : b ≠ kk.lf := role_ne B.rb B.rlf (by intro z; cases z)
      have nb2 : b ≠ kk.lb := role_ne B.rb B.rlb (by intro z; cases z)
      have nbf : kk.lf ≠ kk.lb := role_ne B.rlf B.rlb (by intro z; cases z)
      have o1 : upd H kk.lb (.lst (rv kk.ps ++ [.ref kk.f.a])) b = some (.ins Z.c_Book kk.dx (fs_Book (.ref kk.f.a) (.ref kk.lb) (.ref kk.lf))) := by rw [upd_ne nb2]; exact B.obj
      have p1 : upd H kk.lb (.lst (rv kk.ps ++ [.ref kk.f.a])) kk.lf = some (.lst (rv (x :: r))) := by rw [upd_ne nbf, ← ek]; exact B.lf
      obtain ⟨pa, pd⟩ := pop_at x r
      refine ⟨_, rfl, rd_Book_before T B.obj ⟨.inl ⟨rfl, _, SqL.of B.lb⟩, _, rfl, rd_Book_mint T B.obj ⟨kk.lb, _, _, rfl, rfl, B.lb, (by rw [rv_len, lps]; show _ < 2 ^ 24; omega), ?_⟩⟩⟩
      refine ⟨_, rfl, rd_Book_behind T o1 ⟨.inl ⟨rfl, _, SqL.of p1⟩, kk.lf, _, _, rfl, rfl, p1, pa, ?_⟩⟩
      rw [pd]
      refine ⟨_, rfl, wr_Book_mint T (by rw [upd_ne nb1]; exact o1) ?_⟩
      refine ⟨_, rfl, rd_Book_behind T B3.obj ⟨kk.lf, _, rfl, .inl (SqL.of B3.lf), ?_⟩⟩
      have lr : r.length = ms.length := by
        rw [ek, ed] at lfs
        simpa using lfs
      rw [rv_len]
      refine btells2 B3 F3 (Ext.refl _ _) ((Grow.upd.trans Grow.upd).trans Grow.upd) k (ans := [((ms.length : Nat) : Int)]) ?_ ?_ (by show 1 ≤ 25; decide)
      · have et : (d.now :: d.past).take Km408.PAST = d.now :: d.past := by
          apply List.take_of_length_le
          show d.past.length + 1 ≤ 30
          rw [ed, List.length_cons] at hl
          omega
        unfold dres Km408.act
        simp only
        rw [ed]
        simp only
        rw [et]
        rfl
      · show [V.int ((r.length : Nat) : Int)] = [V.int ((ms.length : Nat) : Int)]
        rw [lr]
/-! ### mi_state -/
def sp_tell_state (Z : Adr) : Sp := fun vs H Q _ => ∃ (ρ : Roles) (b : Addr) (k : Bk) (d : Desk), vs = [.ref b] ∧ BookAt Z ρ H b k d ∧ MG.GoodD d ∧ BookPost Z ρ H b (dres .state d) Q
theorem ok_tell_state (T : Txt K mg Z) : FnOk P w K mg base CX0 3 Z.f_tell_state Z.d_tell_state ["book"] (sp_tell_state Z) := by
  refine T.F_tell_state.ok sc_tell_state (fun vs H Q E h => ?_) (fun cdv A outer s0 H vs Q E hr h => ?_)
  · obtain ⟨ρ, b, k, d, rfl, _⟩ := h
    rfl
  · obtain ⟨ρ, b, kk, d, rfl, B, D, k⟩ := h
    refine ⟨_, (pss_cons (ps_set (i := 1) (sc_tell_state).nd rfl (Or.inl rfl) (pe_fld (pv 0) rfl)) (pss_one (ps_ret (pe_lst (pa_cons (pe_callB call_len_seq (by rfl) T.n_len PySem.boot_len (pa_cons (pe_fld (pv 1) rfl) pa_nil)) (pa_cons (pe_callB call_len_seq (by rfl) T.n_len PySem.boot_len (pa_cons (pe_fld (pv 1) rfl) pa_nil)) (pa_cons (pe_fld (pv 1) rfl) (pa_cons (pe_meth0 (pv 1) T.cl_Mint T.m_Mint_count_lots (ok_Mint_count_lots T) (hr.mono (by decide)) (b_Mint_count_lots T) .nil pass0 ) (pa_cons (pe_callB call_len_seq (by rfl) T.n_len PySem.boot_len (pa_cons (pe_fld (pv 0) rfl) pa_nil)) (pa_cons (pe_callB call_len_seq (by rfl) T.n_len PySem.boot_len (pa_cons (pe_fld (pv 0) rfl) pa_nil)) pa_nil)))))))))), ?_⟩
    have M := B.now
    have G := D.now
    refine ⟨_, rfl, rd_Book_mint T B.obj ?_⟩
    refine ⟨_, rfl, rd_Mint_kinds T M.obj ⟨kk.f.lk, _, rfl, .inl (SqL.of M.lk), _, rfl, rd_Mint_dies T M.obj ⟨kk.f.ld, _, rfl, .inl (SqL.of M.ld), _, rfl, rd_Mint_keeps T M.obj ⟨_, rfl, me_Mint_count_lots M.obj ⟨ρ, kk.i, kk.f, d.now, rfl, M, G, fun H1 s1 => ?_⟩⟩⟩⟩⟩
    have B1 := B.grow s1 (Ext.refl _ _)
    refine ⟨_, rfl, rd_Book_before T B1.obj ⟨kk.lb, _, rfl, .inl (SqL.of B1.lb), _, rfl, rd_Book_behind T B1.obj ⟨kk.lf, _, rfl, .inl (SqL.of B1.lf), ?_⟩⟩⟩
    rw [List.length_map, List.length_map, M.kl, M.el, rv_len, rv_len, B.ps.1, B.fs.1]
    refine btells B s1 k (ans := [((d.now.kinds.length : Nat) : Int), ((d.now.dies.length : Nat) : Int), ((d.now.keeps : Nat) : Int), ((MT.count d.now : Nat) : Int), ((d.past.length : Nat) : Int), ((d.future.length : Nat) : Int)]) ?_ rfl (by show 6 ≤ 25; decide)
    rw [← MT.count_eq G.ll]
    rfl
end
end Mi


set_option Elab.async false
set_option linter.all false
set_option maxRecDepth 100000
set_option maxHeartbeats 4000000
namespace Mi
open PySem PySem.Spec PyProof.Rows L2
open Km408 (Metal Mint Desk ones)
open MP (picks avail mix lotAt)
open MD (CallAt)
section
variable {P : Program} {w : World} {K : PySem.W.Frag} {mg : Str → Option Value} {base : Heap} {Z : Adr}
/-- a call on a mint: its place, its numbers in the list g -/
def sp_ans (lo hi : Nat) (K : PySem.W.Frag) (Z : Adr) : Sp := fun vs H Q _ => ∃ (ρ : Roles) (i : Nat) (f : Fp) (s : Mint) (c : Nat) (xs : List Nat) (x : Km408.Call) (g : Addr), vs = [.ref f.a, .int c, .ref g] ∧ MintAt Z ρ i H f s ∧ MG.Good s ∧ CallAt c xs x ∧ lo ≤ c ∧ c ≤ hi ∧ SqL K H g (nv xs) ∧ CallPost Z ρ i H f (res x s) Q
def sp_answer_telling (Z : Adr) : Sp := fun vs H Q _ => ∃ (ρ : Roles) (i : Nat) (f : Fp) (s : Mint) (c : Nat) (xs : List Nat) (x : Km408.Call), vs = [.ref f.a, .int c] ∧ MintAt Z ρ i H f s ∧ MG.Good s ∧ CallAt c xs x ∧ 19 ≤ c ∧ c ≤ 23 ∧ CallPost Z ρ i H f (res x s) Q
theorem ok_answer_bringing (T : Txt K mg Z) : FnOk P w K mg base CX0 5 Z.f_answer_bringing Z.d_answer_bringing ["mint", "call", "given"] (sp_ans 1 4 K Z) := by
  refine T.F_answer_bringing.ok sc_answer_bringing (fun vs H Q E h => ?_) (fun cdv A outer s0 H vs Q E hr h => ?_)
  · obtain ⟨ρ, i, f, s, c, xs, x, g, rfl, _⟩ := h
    rfl
  · obtain ⟨ρ, i, f, s, c, xs, x, g, rfl, M, G, hc, h1, h2, hg, k⟩ := h
    refine ⟨_, (pss_cons (ps_if (pt_cmpR op_eq (pv 1) (pe_gint rfl T.k_MI_KIND) (nomark _)) (pss_one (ps_ret (pe_call (ok_make_kind T) (hr.mono (by decide)) rfl T.g_make_kind T.F_make_kind.kp (b_make_kind T) .nil pass0 ((pa_cons (pv 0) (pa_cons (pe_ix ix_list (pv 2) pe_int (fun _ _ => rfl)) (pa_cons (pe_ix ix_list (pv 2) pe_int (fun _ _ => rfl)) (pa_cons (pe_ix ix_list (pv 2) pe_int (fun _ _ => rfl)) pa_nil)))))))) pss_nil) (pss_cons (ps_if (pt_cmpR op_eq (pv 1) (pe_gint rfl T.k_MI_DIE) (nomark _)) (pss_one (ps_ret (pe_call (ok_make_die T) (hr.mono (by decide)) rfl T.g_make_die T.F_make_die.kp (b_make_die T) .nil pass0 ((pa_cons (pv 0) (pa_cons (pe_ix ix_list (pv 2) pe_int (fun _ _ => rfl)) (pa_cons (pe_ix ix_list (pv 2) pe_int (fun _ _ => rfl)) pa_nil))))))) pss_nil) (pss_cons (ps_if (pt_cmpR op_eq (pv 1) (pe_gint rfl T.k_MI_BRING) (nomark _)) (pss_one (ps_ret (pe_call (ok_bring T) (hr.mono (by decide)) rfl T.g_bring T.F_bring.kp (b_bring T) .nil pass0 ((pa_cons (pv 0) (pa_cons (pe_ix ix_list (pv 2) pe_int (fun _ _ => rfl)) (pa_cons (pe_ix ix_list (pv 2) pe_int (fun _ _ => rfl)) (pa_cons (pe_ix ix_list (pv 2) pe_int (fun _ _ => rfl)) pa_nil)))))))) pss_nil) (pss_one (ps_ret (pe_call (ok_bring_old_coin T) (hr.mono (by decide)) rfl T.g_bring_old_coin T.F_bring_old_coin.kp (b_bring_old_coin T) .nil pass0 ((pa_cons (pv 0) (pa_cons (pe_ix ix_list (pv 2) pe_int (fun _ _ => rfl)) (pa_cons (pe_ix ix_list (pv 2) pe_int (fun _ _ => rfl)) (pa_cons (pe_ix ix_list (pv 2) pe_int (fun _ _ => rfl)) pa_nil))))))))))), ?_⟩
    refine ⟨_, rfl, rfl, _, rfl, ite2 (fun h3 => ?_) (fun h3 => ?_)⟩
    · have h3 := (int_lit (n := 1) rfl).mp (of_decide_eq_true h3)
      subst h3
      obtain ⟨x0, x1, x2, rfl, rfl⟩ := hc.is
      exact ⟨_, rfl, _, rfl, g, _, _, _, rfl, rfl, hg, at_of (j := 0) rfl rfl, _, rfl, g, _, _, _, rfl, rfl, hg, at_of (j := 1) rfl rfl, _, rfl, g, _, _, _, rfl, rfl, hg, at_of (j := 2) rfl rfl, ρ, i, f, s, _, _, _, rfl, M, G, k⟩
    · have h3 : ¬ c = 1 := fun e => h3 (decide_eq_true ((int_lit (n := 1) rfl).mpr e))
      have q1 := h3
      refine ⟨_, rfl, rfl, _, rfl, ite2 (fun h3 => ?_) (fun h3 => ?_)⟩
      · have h3 := (int_lit (n := 2) rfl).mp (of_decide_eq_true h3)
        subst h3
        obtain ⟨x0, x1, rfl, rfl⟩ := hc.is
        exact ⟨_, rfl, _, rfl, g, _, _, _, rfl, rfl, hg, at_of (j := 0) rfl rfl, _, rfl, g, _, _, _, rfl, rfl, hg, at_of (j := 1) rfl rfl, ρ, i, f, s, _, _, rfl, M, G, k⟩
      · have h3 : ¬ c = 2 := fun e => h3 (decide_eq_true ((int_lit (n := 2) rfl).mpr e))
        have q2 := h3
        refine ⟨_, rfl, rfl, _, rfl, ite2 (fun h3 => ?_) (fun h3 => ?_)⟩
        · have h3 := (int_lit (n := 3) rfl).mp (of_decide_eq_true h3)
          subst h3
          obtain ⟨x0, x1, x2, rfl, rfl⟩ := hc.is
          exact ⟨_, rfl, _, rfl, g, _, _, _, rfl, rfl, hg, at_of (j := 0) rfl rfl, _, rfl, g, _, _, _, rfl, rfl, hg, at_of (j := 1) rfl rfl, _, rfl, g, _, _, _, rfl, rfl, hg, at_of (j := 2) rfl rfl, ρ, i, f, s, _, _, _, rfl, M, G, k⟩
        · have h3 : ¬ c = 3 := fun e => h3 (decide_eq_true ((int_lit (n := 3) rfl).mpr e))
          have q3 := h3
          have e : c = 4 := by omega
          subst e
          obtain ⟨x0, x1, x2, rfl, rfl⟩ := hc.is
          exact ⟨_, rfl, _, rfl, g, _, _, _, rfl, rfl, hg, at_of (j := 0) rfl rfl, _, rfl, g, _, _, _, rfl, rfl, hg, at_of (j := 1) rfl rfl, _, rfl, g, _, _, _, rfl, rfl, hg, at_of (j := 2) rfl rfl, ρ, i, f, s, _, _, _, rfl, M, G, k⟩
theorem ok_answer_melting (T : Txt K mg Z) : FnOk P w K mg base CX0 8 Z.f_answer_melting Z.d_answer_melting ["mint", "call", "given"] (sp_ans 5 9 K Z) := by
  refine T.F_answer_melting.ok sc_answer_melting (fun vs H Q E h => ?_) (fun cdv A outer s0 H vs Q E hr h => ?_)
  · obtain ⟨ρ, i, f, s, c, xs, x, g, rfl, _⟩ := h
    rfl
  · obtain ⟨ρ, i, f, s, c, xs, x, g, rfl, M, G, hc, h1, h2, hg, k⟩ := h
    refine ⟨_, (pss_cons (ps_if (pt_cmpR op_eq (pv 1) (pe_gint rfl T.k_MI_MELT) (nomark _)) (pss_one (ps_ret (pe_call (ok_melt T) (hr.mono (by decide)) rfl T.g_melt T.F_melt.kp (b_melt T) .nil pass0 ((pa_cons (pv 0) (pa_cons (pe_ix ix_list (pv 2) pe_int (fun _ _ => rfl)) pa_nil)))))) pss_nil) (pss_cons (ps_if (pt_cmpR op_eq (pv 1) (pe_gint rfl T.k_MI_ADD) (nomark _)) (pss_one (ps_ret (pe_call (ok_add_metal T) (hr.mono (by decide)) rfl T.g_add_metal T.F_add_metal.kp (b_add_metal T) .nil pass0 ((pa_cons (pv 0) (pa_cons (pe_ix ix_list (pv 2) pe_int (fun _ _ => rfl)) (pa_cons (pe_ix ix_list (pv 2) pe_int (fun _ _ => rfl)) pa_nil))))))) pss_nil) (pss_cons (ps_if (pt_cmpR op_eq (pv 1) (pe_gint rfl T.k_MI_FITS) (nomark _)) (pss_one (ps_ret (pe_call (ok_tell_fits T) (hr.mono (by decide)) rfl T.g_tell_fits T.F_tell_fits.kp (b_tell_fits T) .nil pass0 ((pa_cons (pv 0) (pa_cons (pe_ix ix_list (pv 2) pe_int (fun _ _ => rfl)) pa_nil)))))) pss_nil) (pss_cons (ps_if (pt_cmpR op_eq (pv 1) (pe_gint rfl T.k_MI_NEED) (nomark _)) (pss_one (ps_ret (pe_call (ok_tell_need T) (hr.mono (by decide)) rfl T.g_tell_need T.F_tell_need.kp (b_tell_need T) .nil pass0 ((pa_cons (pv 0) (pa_cons (pe_ix ix_list (pv 2) pe_int (fun _ _ => rfl)) pa_nil)))))) pss_nil) (pss_one (ps_ret (pe_call (ok_tell_plan T) (hr.mono (by decide)) rfl T.g_tell_plan T.F_tell_plan.kp (b_tell_plan T) .nil pass0 ((pa_cons (pv 0) (pa_cons (pe_ix ix_list (pv 2) pe_int (fun _ _ => rfl)) (pa_cons (pe_ix ix_list (pv 2) pe_int (fun _ _ => rfl)) pa_nil))))))))))), ?_⟩
    refine ⟨_, rfl, rfl, _, rfl, ite2 (fun h3 => ?_) (fun h3 => ?_)⟩
    · have h3 := (int_lit (n := 5) rfl).mp (of_decide_eq_true h3)
      subst h3
      obtain ⟨x0, rfl, rfl⟩ := hc.is
      exact ⟨_, rfl, _, rfl, g, _, _, _, rfl, rfl, hg, at_of (j := 0) rfl rfl, ρ, i, f, s, _, rfl, M, G, k⟩
    · have h3 : ¬ c = 5 := fun e => h3 (decide_eq_true ((int_lit (n := 5) rfl).mpr e))
      have q5 := h3
      refine ⟨_, rfl, rfl, _, rfl, ite2 (fun h3 => ?_) (fun h3 => ?_)⟩
      · have h3 := (int_lit (n := 6) rfl).mp (of_decide_eq_true h3)
        subst h3
        obtain ⟨x0, x1, rfl, rfl⟩ := hc.is
        exact ⟨_, rfl, _, rfl, g, _, _, _, rfl, rfl, hg, at_of (j := 0) rfl rfl, _, rfl, g, _, _, _, rfl, rfl, hg, at_of (j := 1) rfl rfl, ρ, i, f, s, _, _, rfl, M, G, k⟩
      · have h3 : ¬ c = 6 := fun e => h3 (decide_eq_true ((int_lit (n := 6) rfl).mpr e))
        have q6 := h3
        refine ⟨_, rfl, rfl, _, rfl, ite2 (fun h3 => ?_) (fun h3 => ?_)⟩
        · have h3 := (int_lit (n := 7) rfl).mp (of_decide_eq_true h3)
          subst h3
          obtain ⟨x0, rfl, rfl⟩ := hc.is
          exact ⟨_, rfl, _, rfl, g, _, _, _, rfl, rfl, hg, at_of (j := 0) rfl rfl, ρ, i, f, s, _, rfl, M, G, k⟩
        · have h3 : ¬ c = 7 := fun e => h3 (decide_eq_true ((int_lit (n := 7) rfl).mpr e))
          have q7 := h3
          refine ⟨_, rfl, rfl, _, rfl, ite2 (fun h3 => ?_) (fun h3 => ?_)⟩
          · have h3 := (int_lit (n := 8) rfl).mp (of_decide_eq_true h3)
            subst h3
            obtain ⟨x0, rfl, rfl⟩ := hc.is
            exact ⟨_, rfl, _, rfl, g, _, _, _, rfl, rfl, hg, at_of (j := 0) rfl rfl, ρ, i, f, s, _, rfl, M, G, k⟩
          · have h3 : ¬ c = 8 := fun e => h3 (decide_eq_true ((int_lit (n := 8) rfl).mpr e))
            have q8 := h3
            have e : c = 9 := by omega
            subst e
            obtain ⟨x0, x1, rfl, rfl⟩ := hc.is
            exact ⟨_, rfl, _, rfl, g, _, _, _, rfl, rfl, hg, at_of (j := 0) rfl rfl, _, rfl, g, _, _, _, rfl, rfl, hg, at_of (j := 1) rfl rfl, ρ, i, f, s, _, _, rfl, M, G, k⟩
theorem ok_answer_striking (T : Txt K mg Z) : FnOk P w K mg base CX0 6 Z.f_answer_striking Z.d_answer_striking ["mint", "call", "given"] (sp_ans 10 14 K Z) := by
  refine T.F_answer_striking.ok sc_answer_striking (fun vs H Q E h => ?_) (fun cdv A outer s0 H vs Q E hr h => ?_)
  · obtain ⟨ρ, i, f, s, c, xs, x, g, rfl, _⟩ := h
    rfl
  · obtain ⟨ρ, i, f, s, c, xs, x, g, rfl, M, G, hc, h1, h2, hg, k⟩ := h
    refine ⟨_, (pss_cons (ps_if (pt_cmpR op_eq (pv 1) (pe_gint rfl T.k_MI_STRIKE) (nomark _)) (pss_one (ps_ret (pe_call (ok_strike T) (hr.mono (by decide)) rfl T.g_strike T.F_strike.kp (b_strike T) .nil pass0 ((pa_cons (pv 0) (pa_cons (pe_ix ix_list (pv 2) pe_int (fun _ _ => rfl)) (pa_cons (pe_ix ix_list (pv 2) pe_int (fun _ _ => rfl)) (pa_cons (pe_ix ix_list (pv 2) pe_int (fun _ _ => rfl)) (pa_cons (pe_slice sl_list (pv 2) (po_some pe_int) po_none) pa_nil))))))))) pss_nil) (pss_cons (ps_if (pt_cmpR op_eq (pv 1) (pe_gint rfl T.k_MI_ENOUGH) (nomark _)) (pss_one (ps_ret (pe_call (ok_tell_enough T) (hr.mono (by decide)) rfl T.g_tell_enough T.F_tell_enough.kp (b_tell_enough T) .nil pass0 ((pa_cons (pv 0) (pa_cons (pe_ix ix_list (pv 2) pe_int (fun _ _ => rfl)) pa_nil)))))) pss_nil) (pss_cons (ps_if (pt_cmpR op_eq (pv 1) (pe_gint rfl T.k_MI_TRIAL) (nomark _)) (pss_one (ps_ret (pe_call (ok_try_box T) (hr.mono (by decide)) rfl T.g_try_box T.F_try_box.kp (b_try_box T) .nil pass0 ((pa_cons (pv 0) (pa_cons (pe_ix ix_list (pv 2) pe_int (fun _ _ => rfl)) pa_nil)))))) pss_nil) (pss_cons (ps_if (pt_cmpR op_eq (pv 1) (pe_gint rfl T.k_MI_OPEN) (nomark _)) (pss_one (ps_ret (pe_call (ok_put_box_in_stock T) (hr.mono (by decide)) rfl T.g_put_box_in_stock T.F_put_box_in_stock.kp (b_put_box_in_stock T) .nil pass0 ((pa_cons (pv 0) (pa_cons (pe_ix ix_list (pv 2) pe_int (fun _ _ => rfl)) pa_nil)))))) pss_nil) (pss_one (ps_ret (pe_call (ok_put_box_in_pot T) (hr.mono (by decide)) rfl T.g_put_box_in_pot T.F_put_box_in_pot.kp (b_put_box_in_pot T) .nil pass0 ((pa_cons (pv 0) (pa_cons (pe_ix ix_list (pv 2) pe_int (fun _ _ => rfl)) pa_nil)))))))))), ?_⟩
    refine ⟨_, rfl, rfl, _, rfl, ite2 (fun h3 => ?_) (fun h3 => ?_)⟩
    · have h3 := (int_lit (n := 10) rfl).mp (of_decide_eq_true h3)
      subst h3
      obtain ⟨kk, e, n, l, hl8, rfl, rfl⟩ := hc.is
      refine ⟨_, rfl, _, rfl, g, _, _, _, rfl, rfl, hg, at_of (j := 0) rfl rfl, _, rfl, g, _, _, _, rfl, rfl, hg, at_of (j := 1) rfl rfl, _, rfl, g, _, _, _, rfl, rfl, hg, at_of (j := 2) rfl rfl, _, rfl, _, rfl, g, _, rfl, hg, fun p hp => ?_⟩
      have ec : cutV (nv (kk :: e :: n :: 8 :: l)) (some 4) none = nv l := (drop_cut _ 4).trans rfl
      rw [ec]
      have sm : Same H (upd H p (.lst (nv l))) := Same.new hp
      exact ⟨ρ, i, f, s, _, _, _, p, l, rfl, M.same sm, G, SqL.of upd_same, k.same sm⟩
    · have h3 : ¬ c = 10 := fun e => h3 (decide_eq_true ((int_lit (n := 10) rfl).mpr e))
      have q10 := h3
      refine ⟨_, rfl, rfl, _, rfl, ite2 (fun h3 => ?_) (fun h3 => ?_)⟩
      · have h3 := (int_lit (n := 11) rfl).mp (of_decide_eq_true h3)
        subst h3
        obtain ⟨x0, rfl, rfl⟩ := hc.is
        exact ⟨_, rfl, _, rfl, g, _, _, _, rfl, rfl, hg, at_of (j := 0) rfl rfl, ρ, i, f, s, _, rfl, M, G, k⟩
      · have h3 : ¬ c = 11 := fun e => h3 (decide_eq_true ((int_lit (n := 11) rfl).mpr e))
        have q11 := h3
        refine ⟨_, rfl, rfl, _, rfl, ite2 (fun h3 => ?_) (fun h3 => ?_)⟩
        · have h3 := (int_lit (n := 12) rfl).mp (of_decide_eq_true h3)
          subst h3
          obtain ⟨x0, rfl, rfl⟩ := hc.is
          exact ⟨_, rfl, _, rfl, g, _, _, _, rfl, rfl, hg, at_of (j := 0) rfl rfl, ρ, i, f, s, _, rfl, M, G, k⟩
        · have h3 : ¬ c = 12 := fun e => h3 (decide_eq_true ((int_lit (n := 12) rfl).mpr e))
          have q12 := h3
          refine ⟨_, rfl, rfl, _, rfl, ite2 (fun h3 => ?_) (fun h3 => ?_)⟩
          · have h3 := (int_lit (n := 13) rfl).mp (of_decide_eq_true h3)
            subst h3
            obtain ⟨x0, rfl, rfl⟩ := hc.is
            exact ⟨_, rfl, _, rfl, g, _, _, _, rfl, rfl, hg, at_of (j := 0) rfl rfl, ρ, i, f, s, _, rfl, M, G, k⟩
          · have h3 : ¬ c = 13 := fun e => h3 (decide_eq_true ((int_lit (n := 13) rfl).mpr e))
            have q13 := h3
            have e : c = 14 := by omega
            subst e
            obtain ⟨x0, rfl, rfl⟩ := hc.is
            exact ⟨_, rfl, _, rfl, g, _, _, _, rfl, rfl, hg, at_of (j := 0) rfl rfl, ρ, i, f, s, _, rfl, M, G, k⟩
theorem ok_answer_paying (T : Txt K mg Z) : FnOk P w K mg base CX0 5 Z.f_answer_paying Z.d_answer_paying ["mint", "call", "given"] (sp_ans 15 18 K Z) := by
  refine T.F_answer_paying.ok sc_answer_paying (fun vs H Q E h => ?_) (fun cdv A outer s0 H vs Q E hr h => ?_)
  · obtain ⟨ρ, i, f, s, c, xs, x, g, rfl, _⟩ := h
    rfl
  · obtain ⟨ρ, i, f, s, c, xs, x, g, rfl, M, G, hc, h1, h2, hg, k⟩ := h
    refine ⟨_, (pss_cons (ps_if (pt_cmpR op_eq (pv 1) (pe_gint rfl T.k_MI_PAY) (nomark _)) (pss_one (ps_ret (pe_call (ok_pay T) (hr.mono (by decide)) rfl T.g_pay T.F_pay.kp (b_pay T) .nil pass0 ((pa_cons (pv 0) (pa_cons (pe_ix ix_list (pv 2) pe_int (fun _ _ => rfl)) (pa_cons (pe_ix ix_list (pv 2) pe_int (fun _ _ => rfl)) (pa_cons (pe_ix ix_list (pv 2) pe_int (fun _ _ => rfl)) pa_nil)))))))) pss_nil) (pss_cons (ps_if (pt_cmpR op_eq (pv 1) (pe_gint rfl T.k_MI_CREDIT) (nomark _)) (pss_one (ps_ret (pe_call (ok_tell_credit T) (hr.mono (by decide)) rfl T.g_tell_credit T.F_tell_credit.kp (b_tell_credit T) .nil pass0 ((pa_cons (pv 0) (pa_cons (pe_ix ix_list (pv 2) pe_int (fun _ _ => rfl)) pa_nil)))))) pss_nil) (pss_cons (ps_if (pt_cmpR op_eq (pv 1) (pe_gint rfl T.k_MI_STOCK) (nomark _)) (pss_one (ps_ret (pe_call (ok_tell_stock T) (hr.mono (by decide)) rfl T.g_tell_stock T.F_tell_stock.kp (b_tell_stock T) .nil pass0 ((pa_cons (pv 0) (pa_cons (pe_ix ix_list (pv 2) pe_int (fun _ _ => rfl)) pa_nil)))))) pss_nil) (pss_one (ps_ret (pe_call (ok_tell_off T) (hr.mono (by decide)) rfl T.g_tell_off T.F_tell_off.kp (b_tell_off T) .nil pass0 ((pa_cons (pv 0) (pa_cons (pe_ix ix_list (pv 2) pe_int (fun _ _ => rfl)) pa_nil))))))))), ?_⟩
    refine ⟨_, rfl, rfl, _, rfl, ite2 (fun h3 => ?_) (fun h3 => ?_)⟩
    · have h3 := (int_lit (n := 15) rfl).mp (of_decide_eq_true h3)
      subst h3
      obtain ⟨x0, x1, x2, rfl, rfl⟩ := hc.is
      exact ⟨_, rfl, _, rfl, g, _, _, _, rfl, rfl, hg, at_of (j := 0) rfl rfl, _, rfl, g, _, _, _, rfl, rfl, hg, at_of (j := 1) rfl rfl, _, rfl, g, _, _, _, rfl, rfl, hg, at_of (j := 2) rfl rfl, ρ, i, f, s, _, _, _, rfl, M, G, k⟩
    · have h3 : ¬ c = 15 := fun e => h3 (decide_eq_true ((int_lit (n := 15) rfl).mpr e))
      have q15 := h3
      refine ⟨_, rfl, rfl, _, rfl, ite2 (fun h3 => ?_) (fun h3 => ?_)⟩
      · have h3 := (int_lit (n := 16) rfl).mp (of_decide_eq_true h3)
        subst h3
        obtain ⟨x0, rfl, rfl⟩ := hc.is
        exact ⟨_, rfl, _, rfl, g, _, _, _, rfl, rfl, hg, at_of (j := 0) rfl rfl, ρ, i, f, s, _, rfl, M, G, k⟩
      · have h3 : ¬ c = 16 := fun e => h3 (decide_eq_true ((int_lit (n := 16) rfl).mpr e))
        have q16 := h3
        refine ⟨_, rfl, rfl, _, rfl, ite2 (fun h3 => ?_) (fun h3 => ?_)⟩
        · have h3 := (int_lit (n := 17) rfl).mp (of_decide_eq_true h3)
          subst h3
          obtain ⟨x0, rfl, rfl⟩ := hc.is
          exact ⟨_, rfl, _, rfl, g, _, _, _, rfl, rfl, hg, at_of (j := 0) rfl rfl, ρ, i, f, s, _, rfl, M, G, k⟩
        · have h3 : ¬ c = 17 := fun e => h3 (decide_eq_true ((int_lit (n := 17) rfl).mpr e))
          have q17 := h3
          have e : c = 18 := by omega
          subst e
          obtain ⟨x0, rfl, rfl⟩ := hc.is
          exact ⟨_, rfl, _, rfl, g, _, _, _, rfl, rfl, hg, at_of (j := 0) rfl rfl, ρ, i, f, s, _, rfl, M, G, k⟩
theorem ok_answer_telling (T : Txt K mg Z) : FnOk P w K mg base CX0 6 Z.f_answer_telling Z.d_answer_telling ["mint", "call"] (sp_answer_telling Z) := by
  refine T.F_answer_telling.ok sc_answer_telling (fun vs H Q E h => ?_) (fun cdv A outer s0 H vs Q E hr h => ?_)
  · obtain ⟨ρ, i, f, s, c, xs, x, rfl, _⟩ := h
    rfl
  · obtain ⟨ρ, i, f, s, c, xs, x, rfl, M, G, hc, h1, h2, k⟩ := h
    refine ⟨_, (pss_cons (ps_if (pt_cmpR op_eq (pv 1) (pe_gint rfl T.k_MI_POT) (nomark _)) (pss_one (ps_ret (pe_call (ok_tell_pot T) (hr.mono (by decide)) rfl T.g_tell_pot T.F_tell_pot.kp (b_tell_pot T) .nil pass0 ((pa_cons (pv 0) pa_nil))))) pss_nil) (pss_cons (ps_if (pt_cmpR op_eq (pv 1) (pe_gint rfl T.k_MI_LOTS) (nomark _)) (pss_one (ps_ret (pe_call (ok_tell_lots T) (hr.mono (by decide)) rfl T.g_tell_lots T.F_tell_lots.kp (b_tell_lots T) .nil pass0 ((pa_cons (pv 0) pa_nil))))) pss_nil) (pss_cons (ps_if (pt_cmpR op_eq (pv 1) (pe_gint rfl T.k_MI_WORN) (nomark _)) (pss_one (ps_ret (pe_call (ok_tell_worn T) (hr.mono (by decide)) rfl T.g_tell_worn T.F_tell_worn.kp (b_tell_worn T) .nil pass0 ((pa_cons (pv 0) pa_nil))))) pss_nil) (pss_cons (ps_if (pt_cmpR op_eq (pv 1) (pe_gint rfl T.k_MI_LEDGER) (nomark _)) (pss_one (ps_ret (pe_call (ok_tell_ledger T) (hr.mono (by decide)) rfl T.g_tell_ledger T.F_tell_ledger.kp (b_tell_ledger T) .nil pass0 ((pa_cons (pv 0) pa_nil))))) pss_nil) (pss_one (ps_ret (pe_call (ok_tell_claims T) (hr.mono (by decide)) rfl T.g_tell_claims T.F_tell_claims.kp (b_tell_claims T) .nil pass0 ((pa_cons (pv 0) pa_nil))))))))), ?_⟩
    refine ⟨_, rfl, rfl, _, rfl, ite2 (fun h3 => ?_) (fun h3 => ?_)⟩
    · have h3 := (int_lit (n := 19) rfl).mp (of_decide_eq_true h3)
      subst h3
      obtain ⟨rfl, rfl⟩ := hc.is
      exact ⟨_, rfl, ρ, i, f, s, rfl, M, G, k⟩
    · have h3 : ¬ c = 19 := fun e => h3 (decide_eq_true ((int_lit (n := 19) rfl).mpr e))
      have q19 := h3
      refine ⟨_, rfl, rfl, _, rfl, ite2 (fun h3 => ?_) (fun h3 => ?_)⟩
      · have h3 := (int_lit (n := 20) rfl).mp (of_decide_eq_true h3)
        subst h3
        obtain ⟨rfl, rfl⟩ := hc.is
        exact ⟨_, rfl, ρ, i, f, s, rfl, M, G, k⟩
      · have h3 : ¬ c = 20 := fun e => h3 (decide_eq_true ((int_lit (n := 20) rfl).mpr e))
        have q20 := h3
        refine ⟨_, rfl, rfl, _, rfl, ite2 (fun h3 => ?_) (fun h3 => ?_)⟩
        · have h3 := (int_lit (n := 21) rfl).mp (of_decide_eq_true h3)
          subst h3
          obtain ⟨rfl, rfl⟩ := hc.is
          exact ⟨_, rfl, ρ, i, f, s, rfl, M, G, k⟩
        · have h3 : ¬ c = 21 := fun e => h3 (decide_eq_true ((int_lit (n := 21) rfl).mpr e))
          have q21 := h3
          refine ⟨_, rfl, rfl, _, rfl, ite2 (fun h3 => ?_) (fun h3 => ?_)⟩
          · have h3 := (int_lit (n := 22) rfl).mp (of_decide_eq_true h3)
            subst h3
            obtain ⟨rfl, rfl⟩ := hc.is
            exact ⟨_, rfl, ρ, i, f, s, rfl, M, G, k⟩
          · have h3 : ¬ c = 22 := fun e => h3 (decide_eq_true ((int_lit (n := 22) rfl).mpr e))
            have q22 := h3
            have e : c = 23 := by omega
            subst e
            obtain ⟨rfl, rfl⟩ := hc.is
            exact ⟨_, rfl, ρ, i, f, s, rfl, M, G, k⟩
theorem ok_answer_of_mint (T : Txt K mg Z) : FnOk P w K mg base CX0 9 Z.f_answer_of_mint Z.d_answer_of_mint ["mint", "call", "given"] (sp_ans 1 23 K Z) := by
  refine T.F_answer_of_mint.ok sc_answer_of_mint (fun vs H Q E h => ?_) (fun cdv A outer s0 H vs Q E hr h => ?_)
  · obtain ⟨ρ, i, f, s, c, xs, x, g, rfl, _⟩ := h
    rfl
  · obtain ⟨ρ, i, f, s, c, xs, x, g, rfl, M, G, hc, h1, h2, hg, k⟩ := h
    refine ⟨_, (pss_cons (ps_if (pt_cmpR op_le (pv 1) (pe_gint rfl T.k_MI_OLD) (nomark _)) (pss_one (ps_ret (pe_call (ok_answer_bringing T) (hr.mono (by decide)) rfl T.g_answer_bringing T.F_answer_bringing.kp (b_answer_bringing T) .nil pass0 ((pa_cons (pv 0) (pa_cons (pv 1) (pa_cons (pv 2) pa_nil))))))) pss_nil) (pss_cons (ps_if (pt_cmpR op_le (pv 1) (pe_gint rfl T.k_MI_PLAN) (nomark _)) (pss_one (ps_ret (pe_call (ok_answer_melting T) (hr.mono (by decide)) rfl T.g_answer_melting T.F_answer_melting.kp (b_answer_melting T) .nil pass0 ((pa_cons (pv 0) (pa_cons (pv 1) (pa_cons (pv 2) pa_nil))))))) pss_nil) (pss_cons (ps_if (pt_cmpR op_le (pv 1) (pe_gint rfl T.k_MI_BREAK) (nomark _)) (pss_one (ps_ret (pe_call (ok_answer_striking T) (hr.mono (by decide)) rfl T.g_answer_striking T.F_answer_striking.kp (b_answer_striking T) .nil pass0 ((pa_cons (pv 0) (pa_cons (pv 1) (pa_cons (pv 2) pa_nil))))))) pss_nil) (pss_cons (ps_if (pt_cmpR op_le (pv 1) (pe_gint rfl T.k_MI_OFF) (nomark _)) (pss_one (ps_ret (pe_call (ok_answer_paying T) (hr.mono (by decide)) rfl T.g_answer_paying T.F_answer_paying.kp (b_answer_paying T) .nil pass0 ((pa_cons (pv 0) (pa_cons (pv 1) (pa_cons (pv 2) pa_nil))))))) pss_nil) (pss_one (ps_ret (pe_call (ok_answer_telling T) (hr.mono (by decide)) rfl T.g_answer_telling T.F_answer_telling.kp (b_answer_telling T) .nil pass0 ((pa_cons (pv 0) (pa_cons (pv 1) pa_nil)))))))))), ?_⟩
    refine ⟨_, rfl, _, _, rfl, rfl, _, rfl, ite2 (fun h3 => ?_) (fun h3 => ?_)⟩
    · have h3 := of_decide_eq_true h3
      exact ⟨_, rfl, _, rfl, _, rfl, ρ, i, f, s, c, xs, x, g, rfl, M, G, hc, h1, by omega, hg, k⟩
    · have h3 := not_dec h3
      refine ⟨_, rfl, _, _, rfl, rfl, _, rfl, ite2 (fun h4 => ?_) (fun h4 => ?_)⟩
      · have h4 := of_decide_eq_true h4
        exact ⟨_, rfl, _, rfl, _, rfl, ρ, i, f, s, c, xs, x, g, rfl, M, G, hc, by omega, by omega, hg, k⟩
      · have h4 := not_dec h4
        refine ⟨_, rfl, _, _, rfl, rfl, _, rfl, ite2 (fun h5 => ?_) (fun h5 => ?_)⟩
        · have h5 := of_decide_eq_true h5
          exact ⟨_, rfl, _, rfl, _, rfl, ρ, i, f, s, c, xs, x, g, rfl, M, G, hc, by omega, by omega, hg, k⟩
        · have h5 := not_dec h5
          refine ⟨_, rfl, _, _, rfl, rfl, _, rfl, ite2 (fun h6 => ?_) (fun h6 => ?_)⟩
          · have h6 := of_decide_eq_true h6
            exact ⟨_, rfl, _, rfl, _, rfl, ρ, i, f, s, c, xs, x, g, rfl, M, G, hc, by omega, by omega, hg, k⟩
          · have h6 := not_dec h6
            exact ⟨_, rfl, _, rfl, ρ, i, f, s, c, xs, x, rfl, M, G, hc, by omega, by omega, k⟩
/-! ### a change -/
theorem call_range {c : Nat} {xs : List Nat} {x : Km408.Call} (h : CallAt c xs x) (hm : MT.ofMint x = true) : 1 ≤ c ∧ c ≤ 23 := by
  cases h <;> first | exact ⟨by decide, by decide⟩ | cases hm
theorem change_of {x : Km408.Call} (h : MT.isChange x = true) : MT.ofMint x = true := by
  cases x <;> first | rfl | cases h
def sp_make_change (K : PySem.W.Frag) (Z : Adr) : Sp := fun vs H Q _ => ∃ (ρ : Roles) (b : Addr) (k : Bk) (d : Desk) (c : Nat) (xs : List Nat) (x : Km408.Call) (g : Addr), vs = [.ref b, .int c, .ref g] ∧ BookAt Z ρ H b k d ∧ MG.GoodD d ∧ CallAt c xs x ∧ MT.isChange x = true ∧ SqL K H g (nv xs) ∧ BookPost Z ρ H b (dres x d) Q
theorem ok_make_change (T : Txt K mg Z) : FnOk P w K mg base CX0 10 Z.f_make_change Z.d_make_change ["book", "call", "given"] (sp_make_change K Z) := by
  refine T.F_make_change.ok sc_make_change (fun vs H Q E h => ?_) (fun cdv A outer s0 H vs Q E hr h => ?_)
  · obtain ⟨ρ, b, k, d, c, xs, x, g, rfl, _⟩ := h
    rfl
  · obtain ⟨ρ, b, kk, d, c, xs, x, g, rfl, B, D, hc, hx, hg, k⟩ := h
    refine ⟨_, (pss_cons (ps_set (i := 3) (sc_make_change).nd rfl (Or.inl rfl) (pe_meth0 (pe_fld (pv 0) rfl) T.cl_Mint T.m_Mint_another_alike (ok_Mint_another_alike T) (hr.mono (by decide)) (b_Mint_another_alike T) .nil pass0 )) (pss_cons (ps_set (i := 4) (sc_make_change).nd rfl (Or.inl rfl) (pe_call (ok_answer_of_mint T) (hr.mono (by decide)) rfl T.g_answer_of_mint T.F_answer_of_mint.kp (b_answer_of_mint T) .nil pass0 ((pa_cons (pv 3) (pa_cons (pv 1) (pa_cons (pv 2) pa_nil)))))) (pss_cons (ps_if (pt_cmpR op_ge (pe_ix ix_list (pv 4) pe_int (fun _ _ => rfl)) pe_int (nomark _)) (pss_one (ps_expr (pe_meth (pv 0) T.cl_Book T.m_Book_turn_to (ok_Book_turn_to T) (hr.mono (by decide)) (b_Book_turn_to T) .nil pass0 ((pa_cons (pv 3) pa_nil))))) pss_nil) (pss_one (ps_ret (pv 4)))))), ?_⟩
    obtain ⟨n, hn⟩ := fresh_id (ids kk)
    have hn : ¬ n ∈ ids kk := fun z => absurd (hn n z) (Nat.lt_irrefl n)
    obtain ⟨c1, c2⟩ := call_range hc (change_of hx)
    obtain ⟨a1, a2, a3⟩ := MT.act_change (d := d) hx
    refine ⟨_, rfl, rd_Book_mint T B.obj (me_Mint_another_alike B.now.obj ⟨ρ, kk.i, kk.f, d.now, n, rfl, B.now, D.now, fun H1 ρ1 f1 s1 E1 M1 => ?_⟩)⟩
    have B1 := B.grow s1 E1
    refine ⟨_, rfl, _, rfl, _, rfl, ρ1, n, f1, d.now, c, xs, x, g, rfl, M1, D.now, hc, c1, c2, s1.seq hg, fun H2 ρ2 f2 l M2 F2 E2 ea nl hl => ?_⟩
    have B2 := B1.other F2 E2 hn
    have Fr2 : Free ρ H H2 := fun a o q z => F2.out a o (s1 _ _ q) (by rw [E1 a o q, z]; intro y; cases y)
    have E02 : Ext H ρ ρ2 := E1.thru (Grow.same s1) E2
    have hl0 : H2 l = some (.lst (V.int (Km408.act ⟨d.now, [], []⟩ x).2.value :: (Km408Neutral.nums (Km408.act ⟨d.now, [], []⟩ x).2.out).map V.int)) := hl
    have nlH : H l = none := s1.free nl
    rw [← ea]
    refine ⟨_, rfl, l, _, _, _, rfl, rfl, SqL.of hl0, at_of (j := 0) rfl rfl, _, _, rfl, rfl, _, rfl, ite2 (fun h1 => ?_) (fun h1 => ?_)⟩
    · have h1 := of_decide_eq_true h1
      refine ⟨_, rfl, me_Book_turn_to B2.obj ⟨_, rfl, ρ2, b, kk, d, n, f2, _, rfl, B2, D, M2, hn, fun H3 ρ3 k3 B3 C3 E3 => ?_⟩⟩
      have nlb : l ≠ b := ne_of hl B2.obj (by intro z; cases z)
      refine ⟨_, rfl, k H3 ρ3 k3 l ?_ (Fr2.trans E02 (Free.but C3 (by rw [B2.rb]; intro z; cases z))) ?_ nlH ?_⟩
      · show BookAt Z ρ3 H3 b k3 (Km408.act d x).1
        rw [a2 h1]
        exact B3
      · intro a o q
        obtain ⟨o1, q1⟩ := F2.some_ a o (s1 _ _ q)
        rw [E3 a o1 q1, E02 a o q]
      · show H3 l = some (.lst ((Km408Neutral.told (Km408.act d x).2).map V.int))
        rw [a1]
        exact C3 _ _ hl nlb
    · have h1 := not_dec h1
      refine ⟨_, rfl, k H2 ρ2 kk l ?_ Fr2 E02 nlH ?_⟩
      · show BookAt Z ρ2 H2 b kk (Km408.act d x).1
        rw [a3 (by omega)]
        exact B2
      · show H2 l = some (.lst ((Km408Neutral.told (Km408.act d x).2).map V.int))
        rw [a1]
        exact hl
/-! ### a call -/
theorem in_changes {c : Nat} {xs : List Nat} {x : Km408.Call} (h : CallAt c xs x) : inV (.int (c : Int)) (([1, 2, 3, 4, 5, 6, 10, 13, 14, 15] : List Int).map V.int) = MT.isChange x := by
  cases h <;> rfl
def sp_answer_call (K : PySem.W.Frag) (Z : Adr) : Sp := fun vs H Q _ => ∃ (ρ : Roles) (b : Addr) (k : Bk) (d : Desk) (c : Nat) (xs : List Nat) (x : Km408.Call) (g : Addr), vs = [.ref b, .int c, .ref g] ∧ BookAt Z ρ H b k d ∧ MG.GoodD d ∧ CallAt c xs x ∧ SqL K H g (nv xs) ∧ BookPost Z ρ H b (dres x d) Q
theorem ok_answer_call (T : Txt K mg Z) : FnOk P w K mg base CX0 11 Z.f_answer_call Z.d_answer_call ["book", "call", "given"] (sp_answer_call K Z) := by
  refine T.F_answer_call.ok sc_answer_call (fun vs H Q E h => ?_) (fun cdv A outer s0 H vs Q E hr h => ?_)
  · obtain ⟨ρ, b, k, d, c, xs, x, g, rfl, _⟩ := h
    rfl
  · obtain ⟨ρ, b, kk, d, c, xs, x, g, rfl, B, D, hc, hg, k⟩ := h
    refine ⟨_, (pss_cons (ps_if (pt_cmpR op_eq (pv 1) (pe_gint rfl T.k_MI_BEGIN) (nomark _)) (pss_one (ps_ret (pe_call (ok_begin T) (hr.mono (by decide)) rfl T.g_begin T.F_begin.kp (b_begin T) .nil pass0 ((pa_cons (pv 0) (pa_cons (pe_ix ix_list (pv 2) pe_int (fun _ _ => rfl)) pa_nil)))))) pss_nil) (pss_cons (ps_if (pt_cmpR op_eq (pv 1) (pe_gint rfl T.k_MI_BACK) (nomark _)) (pss_one (ps_ret (pe_call (ok_take_back T) (hr.mono (by decide)) rfl T.g_take_back T.F_take_back.kp (b_take_back T) .nil pass0 ((pa_cons (pv 0) pa_nil))))) pss_nil) (pss_cons (ps_if (pt_cmpR op_eq (pv 1) (pe_gint rfl T.k_MI_AGAIN) (nomark _)) (pss_one (ps_ret (pe_call (ok_do_again T) (hr.mono (by decide)) rfl T.g_do_again T.F_do_again.kp (b_do_again T) .nil pass0 ((pa_cons (pv 0) pa_nil))))) pss_nil) (pss_cons (ps_if (pt_cmpR op_eq (pv 1) (pe_gint rfl T.k_MI_STATE) (nomark _)) (pss_one (ps_ret (pe_call (ok_tell_state T) (hr.mono (by decide)) rfl T.g_tell_state T.F_tell_state.kp (b_tell_state T) .nil pass0 ((pa_cons (pv 0) pa_nil))))) pss_nil) (pss_cons (ps_if (pt_cmpR op_in_seq (pv 1) (pe_gtup rfl T.k_CHANGES) (by rfl)) (pss_one (ps_ret (pe_call (ok_make_change T) (hr.mono (by decide)) rfl T.g_make_change T.F_make_change.kp (b_make_change T) .nil pass0 ((pa_cons (pv 0) (pa_cons (pv 1) (pa_cons (pv 2) pa_nil))))))) pss_nil) (pss_one (ps_ret (pe_call (ok_answer_of_mint T) (hr.mono (by decide)) rfl T.g_answer_of_mint T.F_answer_of_mint.kp (b_answer_of_mint T) .nil pass0 ((pa_cons (pe_fld (pv 0) rfl) (pa_cons (pv 1) (pa_cons (pv 2) pa_nil)))))))))))), ?_⟩
    refine ⟨_, rfl, rfl, _, rfl, ite2 (fun h0 => ?_) (fun h0 => ?_)⟩
    · have h0 := (int_lit (n := 0) rfl).mp (of_decide_eq_true h0)
      subst h0
      obtain ⟨x0, rfl, rfl⟩ := hc.is
      exact ⟨_, rfl, _, rfl, g, _, _, _, rfl, rfl, hg, at_of (j := 0) rfl rfl, ρ, b, kk, d, _, rfl, B, k⟩
    have h0 : ¬ c = 0 := fun e => h0 (decide_eq_true ((int_lit (n := 0) rfl).mpr e))
    refine ⟨_, rfl, rfl, _, rfl, ite2 (fun h1 => ?_) (fun h1 => ?_)⟩
    · have h1 := (int_lit (n := 24) rfl).mp (of_decide_eq_true h1)
      subst h1
      obtain ⟨rfl, rfl⟩ := hc.is
      exact ⟨_, rfl, ρ, b, kk, d, rfl, B, D, k⟩
    have h1 : ¬ c = 24 := fun e => h1 (decide_eq_true ((int_lit (n := 24) rfl).mpr e))
    refine ⟨_, rfl, rfl, _, rfl, ite2 (fun h2 => ?_) (fun h2 => ?_)⟩
    · have h2 := (int_lit (n := 25) rfl).mp (of_decide_eq_true h2)
      subst h2
      obtain ⟨rfl, rfl⟩ := hc.is
      exact ⟨_, rfl, ρ, b, kk, d, rfl, B, D, k⟩
    have h2 : ¬ c = 25 := fun e => h2 (decide_eq_true ((int_lit (n := 25) rfl).mpr e))
    refine ⟨_, rfl, rfl, _, rfl, ite2 (fun h3 => ?_) (fun h3 => ?_)⟩
    · have h3 := (int_lit (n := 26) rfl).mp (of_decide_eq_true h3)
      subst h3
      obtain ⟨rfl, rfl⟩ := hc.is
      exact ⟨_, rfl, ρ, b, kk, d, rfl, B, D, k⟩
    have h3 : ¬ c = 26 := fun e => h3 (decide_eq_true ((int_lit (n := 26) rfl).mpr e))
    have hm : MT.ofMint x = true := by
      cases hc <;> first | rfl | exact (h0 rfl).elim | exact (h1 rfl).elim | exact (h2 rfl).elim | exact (h3 rfl).elim
    refine ⟨_, rfl, Z.t_CHANGES, _, rfl, .inr (T.v_CHANGES H), rfl, rfl, _, rfl, ?_⟩
    have ei : (if false = true then !inV (.int (c : Int)) (([1, 2, 3, 4, 5, 6, 10, 13, 14, 15] : List Int).map V.int) else inV (.int (c : Int)) (([1, 2, 3, 4, 5, 6, 10, 13, 14, 15] : List Int).map V.int)) = MT.isChange x := in_changes hc
    rw [ei]
    refine ite2 (fun h4 => ?_) (fun h4 => ?_)
    · exact ⟨_, rfl, _, rfl, _, rfl, ρ, b, kk, d, c, xs, x, g, rfl, B, D, hc, h4, hg, k⟩
    · obtain ⟨c1, c2⟩ := call_range hc hm
      obtain ⟨a1, a2⟩ := MT.act_tell (d := d) hm (Bool.eq_false_iff.mpr h4)
      refine ⟨_, rfl, rd_Book_mint T B.obj ⟨_, rfl, _, rfl, ρ, kk.i, kk.f, d.now, c, xs, x, g, rfl, B.now, D.now, hc, c1, c2, hg, fun H2 ρ2 f2 l M2 F2 E2 ea nl hl => ?_⟩⟩
      have M2 : MintAt Z ρ2 kk.i H2 f2 d.now := by
        have := M2
        unfold res at this
        rw [a2] at this
        exact this
      refine k H2 ρ2 { kk with f := f2 } l ?_ (fun a o q z => F2.out a o q (by rw [z]; intro y; cases y)) E2 nl ?_
      · show BookAt Z ρ2 H2 b _ (Km408.act d x).1
        rw [a1]
        exact B.tell F2 E2 M2 ea
      · show H2 l = some (.lst ((Km408Neutral.told (Km408.act d x).2).map V.int))
        rw [a1]
        exact hl
end
end Mi


set_option Elab.async false
set_option linter.all false
set_option maxRecDepth 100000
set_option maxHeartbeats 4000000
namespace Mi
open PySem PySem.Spec PyProof.Rows L2
open Km408 (Metal Mint Desk ones)
open MP (picks avail mix lotAt)
open MD (CallAt)
/-- the list that is handed in: known for good, or a list that nobody writes -/
def Arg (K : PySem.W.Frag) (ρ : Roles) (H : Hp) (a t : Addr) (xs : List V) : Prop := (ρ a = .free ∧ a ≠ t ∧ Rd H a (.lst xs)) ∨ ∀ H' : Hp, SqL K H' a xs
theorem Arg.sq {K : PySem.W.Frag} {ρ : Roles} {H : Hp} {a t : Addr} {xs : List V} (h : Arg K ρ H a t xs) : SqL K H a xs := by
  rcases h with ⟨_, _, h⟩ | h
  · exact .inl h
  · exact h H
theorem Arg.step {K : PySem.W.Frag} {ρ ρ' : Roles} {H H' : Hp} {a t : Addr} {xs : List V} (h : Arg K ρ H a t xs) (F : ∀ o, H a = some o → ρ a = .free → a ≠ t → H' a = some o ∧ ρ' a = ρ a) : Arg K ρ' H' a t xs := by
  rcases h with ⟨r, n, (h | ⟨o, h⟩)⟩ | h
  · obtain ⟨q1, q2⟩ := F _ h r n
    exact .inl ⟨q2.trans r, n, .inl q1⟩
  · obtain ⟨q1, q2⟩ := F _ h r n
    exact .inl ⟨q2.trans r, n, .inr ⟨o, q1⟩⟩
  · exact .inr h
theorem BookAt.free {Z : Adr} {ρ : Roles} {H : Hp} {b t : Addr} {k : Bk} {d : Desk} {xs : List V} {o : HO} (B : BookAt Z ρ H b k d) (r : ρ t = .free) (hu : H t = some (.lst xs)) : BookAt Z ρ (upd H t o) b k d := by
  have ot : owner (ρ t) = none := by rw [r]; rfl
  exact ⟨by rw [upd_ne (role_ne B.rb r (by intro z; cases z))]; exact B.obj, B.rb, by rw [upd_ne (role_ne B.rlb r (by intro z; cases z))]; exact B.lb, B.rlb, by rw [upd_ne (role_ne B.rlf r (by intro z; cases z))]; exact B.lf, B.rlf,
    B.now.but ot hu lst_imm But.upd (Ext.refl _ _), B.ps.but ot hu lst_imm But.upd (Ext.refl _ _), B.fs.but ot hu lst_imm But.upd (Ext.refl _ _), B.nd⟩
theorem numbers_at {c : Nat} {xs : List Nat} {x : Km408.Call} (h : CallAt c xs x) : atI (([1, 3, 2, 3, 3, 1, 2, 1, 1, 2, 12, 1, 1, 1, 1, 3, 1, 1, 1, 0, 0, 0, 0, 0, 0, 0, 0] : List Int).map V.int) (c : Int) = some (.int ((xs.length : Nat) : Int)) := by
  refine atI_nat ?_
  cases h with
  | c10 k e n l hl =>
    show some (V.int 12) = some (V.int (((l.length + 4 : Nat)) : Int))
    rw [hl]
    rfl
  | _ => rfl
theorem cut_at (pre : List Int) (p : Int) (xs : List Nat) (r : List Int) : cutV ((pre ++ p :: (MD.intsOf xs ++ r)).map V.int) (some ((pre.length : Int) + 1)) (some ((pre.length : Int) + 1 + (xs.length : Int))) = nv xs := by
  have e1 : (pre.length : Int) + 1 + (xs.length : Int) = ((pre.length + 1 + xs.length : Nat) : Int) := by omega
  have e2 : (pre.length : Int) + 1 = ((pre.length + 1 : Nat) : Int) := by omega
  have li : (MD.intsOf xs).length = xs.length := List.length_map _
  have hn : ((pre ++ p :: (MD.intsOf xs ++ r)).map V.int).length = pre.length + 1 + xs.length + r.length := by
    rw [List.length_map, List.length_append, List.length_cons, List.length_append, li]
    omega
  rw [e1, e2]
  unfold cutV
  rw [HT.sIx_nat, HT.sIx_nat, hn, Nat.min_eq_left (by omega), Nat.min_eq_left (by omega), Nat.add_sub_cancel_left]
  have e3 : pre ++ p :: (MD.intsOf xs ++ r) = (pre ++ [p]) ++ (MD.intsOf xs ++ r) := by rw [List.append_assoc]; rfl
  rw [e3, List.map_append, List.drop_left' (by rw [List.length_map, List.length_append]; rfl), List.map_append, List.take_left' (by rw [List.length_map, li])]
  exact (nv_ints xs).symm
theorem told_ints (l : List Nat) : nv l = (MD.intsOf l).map V.int := nv_ints l
section
variable {P : Program} {w : World} {K : PySem.W.Frag} {mg : Str → Option Value} {base : Heap} {Z : Adr}
def sp_answers (K : PySem.W.Frag) : Sp := fun vs H Q _ => ∃ (a : Addr) (ns : List Int), vs = [.ref a] ∧ SqL K H a (ns.map V.int) ∧ PyKm408.answers_asked ns = true ∧ ∀ (H' : Hp) (p : Addr), H' p = some (.lst ((PyKm408.answers ns).map V.int)) → Q (.ref p) H'
theorem ok_answers (T : Txt K mg Z) : FnOk P w K mg base CX0 12 Z.f_answers Z.d_answers ["calls"] (sp_answers K) := by
  refine T.F_answers.ok sc_answers (fun vs H Q E h => ?_) (fun cdv A outer s0 H vs Q E hr h => ?_)
  · obtain ⟨a, ns, rfl, _⟩ := h
    rfl
  · obtain ⟨a, ns, rfl, hS, hask, k⟩ := h
    obtain ⟨n0, hn0, hline, hlen⟩ := MD.line_of hask
    refine ⟨_, (pss_cons (ps_set (i := 1) (sc_answers).nd rfl (Or.inl rfl) (pe_make0 T.mk_Book (ok_Book_init T) (hr.mono (by decide)) rfl T.g_Book (b_Book_init T) .nil pass0 )) (pss_cons (ps_set (i := 2) (sc_answers).nd rfl (Or.inl rfl) (pe_lst pa_nil)) (pss_cons (ps_set (i := 3) (sc_answers).nd rfl (Or.inl rfl) pe_int) (pss_cons (ps_while PassesOwn.never (pt_cmpR op_lt (pv 3) (pe_callB call_len_seq (by rfl) T.n_len PySem.boot_len (pa_cons (pv 0) pa_nil)) (nomark _)) (pss_cons (ps_set (i := 4) (sc_answers).nd rfl (Or.inl rfl) (pe_ix ix_list (pv 0) (pv 3) (fun _ _ => rfl))) (pss_cons (ps_set (i := 5) (sc_answers).nd rfl (Or.inl rfl) (pe_op op_add (pe_op op_add (pv 3) pe_int) (pe_ix ix_tup (pe_gtup rfl T.k_NUMBERS_BEHIND) (pv 4) (fun _ _ => rfl)))) (pss_cons (ps_set (i := 6) (sc_answers).nd rfl (Or.inl rfl) (pe_call (ok_answer_call T) (hr.mono (by decide)) rfl T.g_answer_call T.F_answer_call.kp (b_answer_call T) .nil pass0 ((pa_cons (pv 1) (pa_cons (pv 4) (pa_cons (pe_slice sl_list (pv 0) (po_some (pe_op op_add (pv 3) pe_int)) (po_some (pv 5))) pa_nil)))))) (pss_cons (ps_expr (pe_bm PySem.F.plainAttrs_list PySem.F.slot_list_append PySem.F.type_list_append mt_append (pv 2) (pa_cons (pe_callB call_len_seq (by rfl) T.n_len PySem.boot_len (pa_cons (pv 6) pa_nil)) pa_nil))) (pss_cons (ps_expr (pe_bm PySem.F.plainAttrs_list PySem.F.slot_list_extend PySem.F.type_list_extend mt_extend (pv 2) (pa_cons (pv 6) pa_nil))) (pss_one (ps_set (i := 3) (sc_answers).nd rfl (Or.inl rfl) (pv 5))))))))) (pss_one (ps_ret (pv 2))))))), ?_⟩
    refine (fun b db nb ndb _ => ⟨fun x => if x = b then .book else .free, b, db, rfl, upd_same, if_pos rfl, fun H1 ρ1 k1 B1 C1 E1 => ⟨rfl, ?_⟩⟩)
    have s1 : Same H H1 := Same.made nb ndb C1
    refine ⟨Nat.zero_le _, fun t ht => ?_⟩
    have st : Same H1 (upd H1 t (.lst [])) := Same.new ht
    have hA : Arg K (setR ρ1 t .free) (upd H1 t (.lst [])) a t (ns.map V.int) := by
      have hold : ∀ {o}, H a = some o → (setR ρ1 t .free) a = .free ∧ a ≠ t ∧ upd H1 t (.lst []) a = some o := fun {o} q => by
        have na : a ≠ b := ne_of_none q nb
        have nt : a ≠ t := ne_of_none (s1 _ _ q) ht
        refine ⟨?_, nt, st _ _ (s1 _ _ q)⟩
        rw [setR_ne nt, E1 a o (by rw [upd_ne na, upd_ne (ne_of_none q ndb)]; exact q)]
        exact if_neg na
      rcases hS with (h | ⟨o, h⟩) | h
      · obtain ⟨q1, q2, q3⟩ := hold h
        exact .inl ⟨q1, q2, .inl q3⟩
      · obtain ⟨q1, q2, q3⟩ := hold h
        exact .inl ⟨q1, q2, .inr ⟨o, q3⟩⟩
      · exact .inr fun _ => .inr h
    refine while_by (fun σ H' => ∃ (ρ : Roles) (k : Bk) (s : Km408Neutral.S) (m : Nat) (rest due done pre : List Int) (v4 v5 v6 : Option V), σ = [some (.ref a), some (.ref b), some (.ref t), some (.int ((pre.length : Nat) : Int)), v4, v5, v6] ∧ BookAt Z ρ H' b k (MD.dOf s) ∧ MG.GoodD (MD.dOf s) ∧ ρ t = .free ∧ H' t = some (.lst (done.map V.int)) ∧ Arg K ρ H' a t (ns.map V.int) ∧ MD.Line m s rest due ∧ ns = pre ++ rest ∧ PyKm408.answers ns = done ++ due)
      (fun σ _ => match σ with | [_, _, _, some (.int n), _, _, _] => ((ns.length : Int) - n).toNat | _ => 0)
      ⟨setR ρ1 t .free, k1, none, n0, ns, PyKm408.answers ns, [], [], none, none, none, rfl, B1.grow st (Ext.setR ht), MG.good_fresh, setR_same, upd_same, hA, hline, rfl, rfl⟩ ?_ ?_
    · rintro σ H' ⟨ρ, kk, s, m, rest, due, done, pre, v4, v5, v6, rfl, B, D, rt, hT, hA, hL, en, ea⟩
      refine ⟨_, rfl, _, rfl, a, _, rfl, .inl hA.sq, _, _, rfl, rfl, _, rfl, ite2 (fun h1 => ?_) (fun h1 => ?_)⟩
      · have h1 := of_decide_eq_true h1
        rw [List.length_map] at h1
        cases hL with
        | nil =>
          rw [en, List.append_nil] at h1
          exact absurd h1 (Int.lt_irrefl _)
        | @cons n s p xs c r a' hc hb hs hL' =>
          have hat : (ns.map V.int)[pre.length]? = some (.int ((p : Nat) : Int)) := by
            rw [en, List.getElem?_map, List.getElem?_append_right (Nat.le_refl _), Nat.sub_self]
            rfl
          refine ⟨_, rfl, _, rfl, a, _, _, .int ((p : Nat) : Int), rfl, rfl, hA.sq, atI_nat hat, ?_⟩
          refine ⟨_, rfl, _, _, rfl, rfl, _, rfl, Z.t_NUMBERS_BEHIND, _, _, .int ((xs.length : Nat) : Int), rfl, rfl, T.v_NUMBERS_BEHIND H', numbers_at hc, _, _, rfl, rfl, ?_⟩
          refine ⟨_, rfl, _, rfl, _, rfl, _, rfl, _, _, rfl, rfl, _, rfl, _, rfl, _, rfl, a, _, rfl, hA.sq, fun g hg => ?_⟩
          have ec : cutV (ns.map V.int) (some ((pre.length : Int) + 1)) (some ((pre.length : Int) + 1 + (xs.length : Int))) = nv xs := by
            rw [en]
            exact cut_at pre p xs r
          rw [ec]
          have sg : Same H' (upd H' g (.lst (nv xs))) := Same.new hg
          refine ⟨ρ, b, kk, MD.dOf s, p, xs, c, g, rfl, B.grow sg (Ext.refl _ _), D, hc, SqL.of upd_same, fun H2 ρ2 k2 l B2 F2 E2 nl hl => ?_⟩
          have hT2 : H2 t = some (.lst (done.map V.int)) := F2 _ _ (sg _ _ hT) rt
          have rt2 : ρ2 t = .free := (E2 _ _ (sg _ _ hT)).trans rt
          have ntl : t ≠ l := ne_of_none (sg _ _ hT) nl
          have B2 : BookAt Z ρ2 H2 b k2 (MD.dOf (MD.next s c)) := by
            rw [MT.dOf_next hs]
            exact B2
          obtain ⟨ans, eans⟩ : ∃ ans, ans = Km408Neutral.told (Km408.act (MD.dOf s) c).2 := ⟨_, rfl⟩
          have hl : H2 l = some (.lst (ans.map V.int)) := by
            rw [eans]
            exact hl
          rw [← eans] at ea
          have hle : done.length + (ans.length + a'.length + 1) ≤ 10000000 := by
            rw [ea, List.length_append, List.length_cons, List.length_append] at hlen
            exact hlen
          refine ⟨_, rfl, .inl ⟨rfl, _, SqL.of hT2⟩, _, rfl, l, _, rfl, .inl (SqL.of hl), t, _, _, rfl, rfl, hT2, (by rw [List.length_map]; show _ < 2 ^ 24; omega), ?_⟩
          rw [List.length_map]
          refine ⟨_, rfl, .inl ⟨rfl, _, SqL.of upd_same⟩, _, rfl, t, l, _, _, rfl, rfl, upd_same, (by rw [upd_ne (Ne.symm ntl)]; exact hl), (by rw [List.length_append, List.length_map, List.length_map]; show done.length + 1 + ans.length ≤ 2 ^ 24; omega), ?_⟩
          rw [upd_upd]
          have el : (pre.length : Int) + 1 + (xs.length : Int) = (((pre ++ ((p : Nat) : Int) :: MD.intsOf xs).length : Nat) : Int) := by
            rw [List.length_append, List.length_cons]
            have : (MD.intsOf xs).length = xs.length := List.length_map _
            rw [this]
            omega
          have hlt : pre.length < ns.length := by omega
          refine ⟨_, rfl, ⟨ρ2, k2, MD.next s c, n, r, a', done ++ ((ans.length : Nat) : Int) :: ans, pre ++ ((p : Nat) : Int) :: MD.intsOf xs, some (.int ((p : Nat) : Int)), some (.int ((pre.length : Int) + 1 + (xs.length : Int))), some (.ref l), ?_, B2.free rt2 hT2, ?_, rt2, ?_, ?_, hL', ?_, ?_⟩, ?_⟩
          · rw [← el]
            rfl
          · rw [MT.dOf_next hs]
            exact MG.act_good D c
          · rw [upd_same, List.map_append, List.map_cons, List.append_assoc]
            rfl
          · refine hA.step fun o q1 q2 q3 => ⟨?_, E2 _ _ (sg _ _ q1)⟩
            rw [upd_ne q3]
            exact F2 _ _ (sg _ _ q1) q2
          · rw [en, List.append_assoc]
            rfl
          · rw [ea, List.append_assoc]
            rfl
          · show ((ns.length : Int) - ((pre.length : Int) + 1 + (xs.length : Int))).toNat < ((ns.length : Int) - (pre.length : Int)).toNat
            omega
      · have h1 := not_dec h1
        rw [List.length_map] at h1
        have er : rest = [] := by
          cases rest with
          | nil => rfl
          | cons z r =>
            rw [en, List.length_append, List.length_cons] at h1
            exact absurd h1 (by omega)
        subst er
        cases hL
        rw [List.append_nil] at ea
        refine ⟨_, rfl, k H' t ?_⟩
        rw [ea]
        exact hT
    · intro σ H2 Q1 Q2 hQ h
      obtain ⟨v, e1, v2, e2, p, ys, e3, e4, i, j, e5, e6, c, e7, h⟩ := h
      exact ⟨v, e1, v2, e2, p, ys, e3, e4, i, j, e5, e6, c, e7, hQ _ _ h⟩
end
end Mi


set_option Elab.async false
set_option linter.all false
set_option maxRecDepth 100000
set_option maxHeartbeats 4000000
namespace Mi
open PySem PySem.Spec PyProof.Rows L2
theorem b_answers' {K : PySem.W.Frag} {mg : Str → Option Value} {Z : Adr} (T : Txt K mg Z) : ∀ (s : Shared) (us : List Value), us.length = (["calls"] : List Str).length → BindsTo s Z.d_answers ⟨us, []⟩ ((["calls"] : List Str).zip us) := by
  obtain ⟨oc, od, kV, doc, pm, an, cdv, ct, osl, e, lk, hcd⟩ := T.F_answers.ex
  rw [e]
  exact fun s us hu => match us, hu with | [_], _ => .of_eq rfl
end Mi
/-! no twins of the top's heaps: names that are taken, so that the head lays none (each twin's equation is long, and the compiled text has a limit) -/
namespace PySem.W.Fast
theorem tw9625823907974324976 : True := ⟨⟩
theorem tw6107825173598237135 : True := ⟨⟩
theorem tw14413652569088559545 : True := ⟨⟩
theorem tw4085943434857666230 : True := ⟨⟩
theorem tw16978387962670872359 : True := ⟨⟩
theorem tw13471855253359166687 : True := ⟨⟩
theorem tw5941998212109566353 : True := ⟨⟩
theorem tw7046527997229135374 : True := ⟨⟩
theorem tw2809877864170607492 : True := ⟨⟩
theorem tw8277984739984931641 : True := ⟨⟩
theorem tw16418432716471334168 : True := ⟨⟩
theorem tw11652286105496132590 : True := ⟨⟩
theorem tw3883554440915023592 : True := ⟨⟩
theorem tw6220234952862403553 : True := ⟨⟩
theorem tw11205135643409107800 : True := ⟨⟩
theorem tw754077980997591050 : True := ⟨⟩
theorem tw16188489327196246761 : True := ⟨⟩
theorem tw4640856583412747261 : True := ⟨⟩
theorem tw12436424277268924993 : True := ⟨⟩
theorem tw12557521987358675798 : True := ⟨⟩
theorem tw16831795003304456508 : True := ⟨⟩
theorem tw6635046771011481356 : True := ⟨⟩
theorem tw10845598045226018467 : True := ⟨⟩
theorem tw4205703076416637224 : True := ⟨⟩
theorem tw1080859717416458499 : True := ⟨⟩
theorem tw2773055489302538190 : True := ⟨⟩
theorem tw1646755073673850403 : True := ⟨⟩
theorem tw8163755677355218723 : True := ⟨⟩
theorem tw9517259781144064912 : True := ⟨⟩
theorem tw2597350823807700701 : True := ⟨⟩
theorem tw12815045572472155801 : True := ⟨⟩
theorem tw12999543243256506382 : True := ⟨⟩
theorem tw12509029471282087935 : True := ⟨⟩
theorem tw11922782364036721579 : True := ⟨⟩
theorem tw5904228701657453729 : True := ⟨⟩
theorem tw18085836403025100389 : True := ⟨⟩
theorem tw9171173665849904338 : True := ⟨⟩
theorem tw11345034552821643857 : True := ⟨⟩
theorem tw13473100783192470852 : True := ⟨⟩
theorem tw2637253694509560270 : True := ⟨⟩
theorem tw17169738353779117480 : True := ⟨⟩
theorem tw5447282966593881361 : True := ⟨⟩
theorem tw5575104746658990164 : True := ⟨⟩
theorem tw10178933070721309907 : True := ⟨⟩
theorem tw15683079058932276544 : True := ⟨⟩
theorem tw13179727712110972138 : True := ⟨⟩
theorem tw6237736969281034792 : True := ⟨⟩
theorem tw9433956113404105407 : True := ⟨⟩
theorem tw5908389482633919042 : True := ⟨⟩
theorem tw3524896511242745436 : True := ⟨⟩
theorem tw16637812726588685090 : True := ⟨⟩
theorem tw607012862543773628 : True := ⟨⟩
theorem tw17105615404964762445 : True := ⟨⟩
theorem tw2263719483167248323 : True := ⟨⟩
theorem tw8100850886709613462 : True := ⟨⟩
theorem tw10084326248504382835 : True := ⟨⟩
theorem tw2750351532154655130 : True := ⟨⟩
theorem tw14552146197302709777 : True := ⟨⟩
theorem tw3500581828112795686 : True := ⟨⟩
theorem tw10063090542658699013 : True := ⟨⟩
theorem tw9959896214913680917 : True := ⟨⟩
theorem tw14024729402510770165 : True := ⟨⟩
theorem tw16899211633620650008 : True := ⟨⟩
theorem tw9820375511083855738 : True := ⟨⟩
theorem tw977595114167819506 : True := ⟨⟩
theorem tw14536641603893396657 : True := ⟨⟩
theorem tw9962794174104452340 : True := ⟨⟩
theorem tw2935860919152138064 : True := ⟨⟩
theorem tw8978781416878151409 : True := ⟨⟩
theorem tw7898715173055785174 : True := ⟨⟩
theorem tw5486708314196105023 : True := ⟨⟩
theorem tw16831586999810572870 : True := ⟨⟩
theorem tw1584822595721565148 : True := ⟨⟩
theorem tw4546680098267253267 : True := ⟨⟩
theorem tw12684601636405512302 : True := ⟨⟩
theorem tw900344079013521013 : True := ⟨⟩
theorem tw15607278659439463235 : True := ⟨⟩
theorem tw3464213717299043645 : True := ⟨⟩
theorem tw1066293797510430624 : True := ⟨⟩
theorem tw12125286974285429855 : True := ⟨⟩
theorem tw13089735478200625400 : True := ⟨⟩
theorem tw6254730162752505278 : True := ⟨⟩
theorem tw10343153971093317152 : True := ⟨⟩
theorem tw7899787908231178372 : True := ⟨⟩
theorem tw3967125403007509229 : True := ⟨⟩
theorem tw6757195608661954083 : True := ⟨⟩
theorem tw2975295338614507891 : True := ⟨⟩
theorem tw14798225310598634627 : True := ⟨⟩
theorem tw15724245960239006648 : True := ⟨⟩
theorem tw6443155838828918923 : True := ⟨⟩
theorem tw10352589650043983230 : True := ⟨⟩
theorem tw4324566848692076739 : True := ⟨⟩
theorem tw18062471876568396622 : True := ⟨⟩
theorem tw10249569804919794430 : True := ⟨⟩
theorem tw12461536340620464020 : True := ⟨⟩
theorem tw13249769737897873321 : True := ⟨⟩
theorem tw6784429613178104723 : True := ⟨⟩
theorem tw4832230990558509689 : True := ⟨⟩
theorem tw13507351585035201108 : True := ⟨⟩
theorem tw4710280643728361332 : True := ⟨⟩
theorem tw11221375573746085516 : True := ⟨⟩
theorem tw9561014281431046715 : True := ⟨⟩
theorem tw2391833021341205842 : True := ⟨⟩
theorem tw16161811205512220289 : True := ⟨⟩
theorem tw13277175142235730645 : True := ⟨⟩
theorem tw8511636797460384335 : True := ⟨⟩
theorem tw18242866963179485816 : True := ⟨⟩
theorem tw230796798308028644 : True := ⟨⟩
theorem tw8682740420750608183 : True := ⟨⟩
theorem tw3874544680501304682 : True := ⟨⟩
theorem tw13911561732504102538 : True := ⟨⟩
theorem tw3766877781896690519 : True := ⟨⟩
theorem tw9351901112154449479 : True := ⟨⟩
theorem tw4600878655258419671 : True := ⟨⟩
theorem tw3348292077628774498 : True := ⟨⟩
theorem tw10756496654706740663 : True := ⟨⟩
theorem tw7038632460380970676 : True := ⟨⟩
theorem tw14832931234689600346 : True := ⟨⟩
theorem tw13015932214209142477 : True := ⟨⟩
theorem tw5784924289577558016 : True := ⟨⟩
theorem tw1723901422295010462 : True := ⟨⟩
theorem tw2527930892380937703 : True := ⟨⟩
theorem tw6191695467156127802 : True := ⟨⟩
theorem tw5815846194081153274 : True := ⟨⟩
theorem tw16435279724000833635 : True := ⟨⟩
theorem tw4860824916198797612 : True := ⟨⟩
theorem tw15006402858522838842 : True := ⟨⟩
theorem tw14689037953952775215 : True := ⟨⟩
theorem tw15182433137575008151 : True := ⟨⟩
theorem tw1257293430667932018 : True := ⟨⟩
theorem tw541699867638628021 : True := ⟨⟩
theorem tw11742101735131933463 : True := ⟨⟩
theorem tw2499705038139014796 : True := ⟨⟩
theorem tw12914851362026183595 : True := ⟨⟩
theorem tw9685161227848231591 : True := ⟨⟩
theorem tw10238508582054288010 : True := ⟨⟩
theorem tw13007649123403664808 : True := ⟨⟩
theorem tw18442229096328453640 : True := ⟨⟩
theorem tw13721103221745219929 : True := ⟨⟩
theorem tw4111646752443386473 : True := ⟨⟩
theorem tw7684160910891904016 : True := ⟨⟩
theorem tw7919796188546623964 : True := ⟨⟩
theorem tw10937676301663505201 : True := ⟨⟩
theorem tw17313098954364514098 : True := ⟨⟩
theorem tw11373457915163284517 : True := ⟨⟩
theorem tw3993179887748202521 : True := ⟨⟩
theorem tw18216899603375182626 : True := ⟨⟩
theorem tw17750305919625618593 : True := ⟨⟩
theorem tw3336687109480082152 : True := ⟨⟩
theorem tw8185335838134153060 : True := ⟨⟩
theorem tw15595383145224563841 : True := ⟨⟩
theorem tw15975218556837020746 : True := ⟨⟩
theorem tw15314824077323592407 : True := ⟨⟩
theorem tw16814745074214630881 : True := ⟨⟩
theorem tw3113252590210868807 : True := ⟨⟩
theorem tw17702442999496654742 : True := ⟨⟩
theorem tw16991246654616958092 : True := ⟨⟩
theorem tw13826719039824378024 : True := ⟨⟩
theorem tw13098379827824268923 : True := ⟨⟩
theorem tw13851261420771133362 : True := ⟨⟩
theorem tw11136336886729056910 : True := ⟨⟩
theorem tw9671189444014919837 : True := ⟨⟩
theorem tw8642268967498698435 : True := ⟨⟩
theorem tw16221432313057465127 : True := ⟨⟩
theorem tw9455257417950161292 : True := ⟨⟩
theorem tw8200968717035433830 : True := ⟨⟩
theorem tw270400173834395518 : True := ⟨⟩
theorem tw10485887890559479991 : True := ⟨⟩
theorem tw4929297058099697254 : True := ⟨⟩
theorem tw4810304112837285449 : True := ⟨⟩
theorem tw11294240562050879854 : True := ⟨⟩
theorem tw18340251453476512529 : True := ⟨⟩
theorem tw14263103581993853562 : True := ⟨⟩
theorem tw18407537024304988893 : True := ⟨⟩
theorem tw3500690239312070479 : True := ⟨⟩
theorem tw4330584222705765463 : True := ⟨⟩
theorem tw1969359973494965966 : True := ⟨⟩
theorem tw10471845922169647697 : True := ⟨⟩
theorem tw1401682366353368989 : True := ⟨⟩
theorem tw2153079127113835769 : True := ⟨⟩
theorem tw17619603951178711038 : True := ⟨⟩
theorem tw16057826881251815493 : True := ⟨⟩
theorem tw11255724392963919794 : True := ⟨⟩
theorem tw1564943216203359708 : True := ⟨⟩
theorem tw3535857318191307128 : True := ⟨⟩
theorem tw4325803964253980727 : True := ⟨⟩
theorem tw11729912980178102243 : True := ⟨⟩
theorem tw17092177238000897289 : True := ⟨⟩
theorem tw7869897812138036146 : True := ⟨⟩
theorem tw15647832156027146861 : True := ⟨⟩
theorem tw2662586083173803778 : True := ⟨⟩
theorem tw7923879315552988301 : True := ⟨⟩
theorem tw15181313156633206052 : True := ⟨⟩
theorem tw7729342058101111215 : True := ⟨⟩
theorem tw17166638081177652072 : True := ⟨⟩
theorem tw5365860404806357308 : True := ⟨⟩
theorem tw18273702220382477852 : True := ⟨⟩
theorem tw12069280431595599805 : True := ⟨⟩
theorem tw16345231997090099037 : True := ⟨⟩
theorem tw3698577639347694422 : True := ⟨⟩
theorem tw7775649812300206467 : True := ⟨⟩
theorem tw18158153311303886924 : True := ⟨⟩
theorem tw12193186997585548412 : True := ⟨⟩
theorem tw17906400115842909057 : True := ⟨⟩
theorem tw9121833018355425252 : True := ⟨⟩
theorem tw6997012105141614103 : True := ⟨⟩
theorem tw5469800640567238972 : True := ⟨⟩
theorem tw4799672970251386762 : True := ⟨⟩
theorem tw7412859856174643230 : True := ⟨⟩
theorem tw11681276249585064588 : True := ⟨⟩
theorem tw8724873286952993440 : True := ⟨⟩
theorem tw11662703048363812349 : True := ⟨⟩
theorem tw14489163002482467906 : True := ⟨⟩
theorem tw3401141781868028277 : True := ⟨⟩
theorem tw18390778585910029114 : True := ⟨⟩
theorem tw6551606060301107521 : True := ⟨⟩
theorem tw9983830343088220473 : True := ⟨⟩
theorem tw11068986390025137954 : True := ⟨⟩
theorem tw8810183944930445511 : True := ⟨⟩
theorem tw12650600111350325923 : True := ⟨⟩
theorem tw6851955662126707163 : True := ⟨⟩
theorem tw11435701622315110053 : True := ⟨⟩
theorem tw16653610016998790178 : True := ⟨⟩
theorem tw1273795721986130898 : True := ⟨⟩
theorem tw6694891375590224599 : True := ⟨⟩
theorem tw12911262846714956155 : True := ⟨⟩
theorem tw12408471352378732646 : True := ⟨⟩
theorem tw7368132512972395375 : True := ⟨⟩
theorem tw17069690130366820967 : True := ⟨⟩
theorem tw14822369473875640647 : True := ⟨⟩
theorem tw10044018805799912855 : True := ⟨⟩
theorem tw17634080514598939501 : True := ⟨⟩
theorem tw5247933768114170470 : True := ⟨⟩
theorem tw1642709471272961234 : True := ⟨⟩
theorem tw4906287355417263980 : True := ⟨⟩
theorem tw5344150127775504638 : True := ⟨⟩
theorem tw2459524628795197600 : True := ⟨⟩
theorem tw10486293990450992343 : True := ⟨⟩
theorem tw2718201164984131662 : True := ⟨⟩
theorem tw9985931306488615113 : True := ⟨⟩
theorem tw11698307448647290385 : True := ⟨⟩
theorem tw8262321758337302469 : True := ⟨⟩
theorem tw11584343782178911335 : True := ⟨⟩
theorem tw9765300758975653775 : True := ⟨⟩
theorem tw17904268063339918520 : True := ⟨⟩
theorem tw18194741630170762789 : True := ⟨⟩
theorem tw12458117901730907117 : True := ⟨⟩
theorem tw7102970271872559810 : True := ⟨⟩
theorem tw10928090336550175679 : True := ⟨⟩
theorem tw2083462048288367798 : True := ⟨⟩
theorem tw11903948394790258832 : True := ⟨⟩
theorem tw18133773471049020585 : True := ⟨⟩
theorem tw794708869276785302 : True := ⟨⟩
theorem tw9121565408420358506 : True := ⟨⟩
theorem tw9260977718361344984 : True := ⟨⟩
theorem tw12132933527348287898 : True := ⟨⟩
theorem tw12741229532072101511 : True := ⟨⟩
theorem tw17866375353346338622 : True := ⟨⟩
theorem tw17331898977284048127 : True := ⟨⟩
theorem tw13058872289394460579 : True := ⟨⟩
theorem tw13024899409294637018 : True := ⟨⟩
theorem tw6930977207037510396 : True := ⟨⟩
theorem tw14988501671393890141 : True := ⟨⟩
theorem tw1672011821397899089 : True := ⟨⟩
theorem tw4125457954567475272 : True := ⟨⟩
theorem tw6298719344915707996 : True := ⟨⟩
theorem tw17816528257231025220 : True := ⟨⟩
theorem tw14644037879145582148 : True := ⟨⟩
theorem tw8815129373613884888 : True := ⟨⟩
theorem tw4359536965952448630 : True := ⟨⟩
theorem tw14991295306448307747 : True := ⟨⟩
theorem tw12683922854466301840 : True := ⟨⟩
theorem tw17254013397488753325 : True := ⟨⟩
theorem tw3924352918312793053 : True := ⟨⟩
theorem tw12060970045530024259 : True := ⟨⟩
theorem tw87519626573138988 : True := ⟨⟩
theorem tw3325646198812482418 : True := ⟨⟩
theorem tw5259208869847619842 : True := ⟨⟩
theorem tw10631334589054926468 : True := ⟨⟩
theorem tw6622074821884023795 : True := ⟨⟩
theorem tw12121579519614609469 : True := ⟨⟩
theorem tw14158406935899111947 : True := ⟨⟩
theorem tw6952695509658246094 : True := ⟨⟩
theorem tw505668541298652909 : True := ⟨⟩
theorem tw9640998363071892283 : True := ⟨⟩
theorem tw5947156457840366594 : True := ⟨⟩
theorem tw12539147089098416965 : True := ⟨⟩
theorem tw2365904461595082122 : True := ⟨⟩
theorem tw17883195296347979823 : True := ⟨⟩
theorem tw15803666448671758121 : True := ⟨⟩
theorem tw15303353732725405660 : True := ⟨⟩
theorem tw10316198620644414696 : True := ⟨⟩
theorem tw1201338067965081870 : True := ⟨⟩
theorem tw2920362072516458366 : True := ⟨⟩
theorem tw6159359179035522998 : True := ⟨⟩
theorem tw2179236811558203073 : True := ⟨⟩
theorem tw9977545581273302167 : True := ⟨⟩
theorem tw15459301706273547711 : True := ⟨⟩
theorem tw13991483325544298083 : True := ⟨⟩
theorem tw2928763278686242394 : True := ⟨⟩
theorem tw6367448024552894754 : True := ⟨⟩
theorem tw10301493314163936231 : True := ⟨⟩
theorem tw11423328548933039216 : True := ⟨⟩
theorem tw15442021534180419247 : True := ⟨⟩
theorem tw14963610905837069404 : True := ⟨⟩
theorem tw1862039614738235349 : True := ⟨⟩
theorem tw5984631056659922365 : True := ⟨⟩
theorem tw13746501889242391768 : True := ⟨⟩
theorem tw17273470068706437289 : True := ⟨⟩
theorem tw10465875503403392076 : True := ⟨⟩
theorem tw876055691382913278 : True := ⟨⟩
theorem tw15827102682721878430 : True := ⟨⟩
theorem tw8378143160469628924 : True := ⟨⟩
theorem tw18042135646214109072 : True := ⟨⟩
theorem tw5204653179367730600 : True := ⟨⟩
theorem tw3522142312328045556 : True := ⟨⟩
theorem tw10662700078105449576 : True := ⟨⟩
theorem tw541818648028815353 : True := ⟨⟩
theorem tw15766409196881076167 : True := ⟨⟩
theorem tw15409009779953942681 : True := ⟨⟩
theorem tw12994783718584143075 : True := ⟨⟩
theorem tw14536077423665260271 : True := ⟨⟩
theorem tw13460834178029866351 : True := ⟨⟩
theorem tw8278344471444799532 : True := ⟨⟩
theorem tw13577980064343083937 : True := ⟨⟩
theorem tw9911589307934078483 : True := ⟨⟩
theorem tw2328852144525518794 : True := ⟨⟩
theorem tw12105656154539271657 : True := ⟨⟩
theorem tw4339951049531253085 : True := ⟨⟩
theorem tw2117182026293237746 : True := ⟨⟩
theorem tw2573307476567526347 : True := ⟨⟩
theorem tw8586238981127380609 : True := ⟨⟩
theorem tw10713134901585716441 : True := ⟨⟩
theorem tw5218274113070213941 : True := ⟨⟩
theorem tw1913229146022843485 : True := ⟨⟩
theorem tw10688447151414376199 : True := ⟨⟩
theorem tw1465836800639262957 : True := ⟨⟩
theorem tw10368996046056851777 : True := ⟨⟩
theorem tw18130992815107259474 : True := ⟨⟩
theorem tw16322950282021061756 : True := ⟨⟩
theorem tw2979081108341177481 : True := ⟨⟩
theorem tw5082937684799635185 : True := ⟨⟩
theorem tw16774680555848439639 : True := ⟨⟩
theorem tw15705058347545554504 : True := ⟨⟩
theorem tw16100551018225331564 : True := ⟨⟩
theorem tw11206738258489818463 : True := ⟨⟩
theorem tw3294696973779874335 : True := ⟨⟩
theorem tw2251307487921714777 : True := ⟨⟩
theorem tw15577858414626754577 : True := ⟨⟩
theorem tw1386521855839589842 : True := ⟨⟩
theorem tw9748348147016147643 : True := ⟨⟩
theorem tw17004725947077805829 : True := ⟨⟩
theorem tw2066105725050177200 : True := ⟨⟩
theorem tw17479824141933842171 : True := ⟨⟩
theorem tw13493884214862752157 : True := ⟨⟩
theorem tw17218178927203578104 : True := ⟨⟩
theorem tw13656378012864085507 : True := ⟨⟩
theorem tw10832389985844768136 : True := ⟨⟩
theorem tw16740702812380434242 : True := ⟨⟩
theorem tw6283985965122283833 : True := ⟨⟩
theorem tw18444661164685393769 : True := ⟨⟩
theorem tw5290690464955384743 : True := ⟨⟩
theorem tw1085038765160964352 : True := ⟨⟩
theorem tw14026970542279193401 : True := ⟨⟩
theorem tw7581504468083910700 : True := ⟨⟩
theorem tw7441275106486519976 : True := ⟨⟩
theorem tw3336587880848406042 : True := ⟨⟩
theorem tw13254218163931638208 : True := ⟨⟩
theorem tw263453475994881672 : True := ⟨⟩
theorem tw1473306042634343820 : True := ⟨⟩
theorem tw2602200627977457608 : True := ⟨⟩
theorem tw15271832257148792829 : True := ⟨⟩
theorem tw9241946437839907456 : True := ⟨⟩
theorem tw1615627256368334095 : True := ⟨⟩
theorem tw2488114420545604912 : True := ⟨⟩
theorem tw1015016391305438040 : True := ⟨⟩
theorem tw16617892110230826333 : True := ⟨⟩
theorem tw13492800592834443094 : True := ⟨⟩
theorem tw5171965657777221174 : True := ⟨⟩
theorem tw385854045941639665 : True := ⟨⟩
theorem tw5203429086090242577 : True := ⟨⟩
theorem tw5448661263565639416 : True := ⟨⟩
theorem tw446923533976144453 : True := ⟨⟩
theorem tw5420035385055156049 : True := ⟨⟩
theorem tw10444693316359858517 : True := ⟨⟩
theorem tw14132022722982331963 : True := ⟨⟩
theorem tw17280204226122582359 : True := ⟨⟩
theorem tw15787508393132195486 : True := ⟨⟩
theorem tw14356110229727534185 : True := ⟨⟩
theorem tw6522003663378807916 : True := ⟨⟩
theorem tw13691525876775085441 : True := ⟨⟩
theorem tw10330133591964206334 : True := ⟨⟩
theorem tw10290672453891462218 : True := ⟨⟩
theorem tw3817010846243470703 : True := ⟨⟩
theorem tw12057920873842556635 : True := ⟨⟩
theorem tw9977685265246042833 : True := ⟨⟩
theorem tw741069724728631706 : True := ⟨⟩
theorem tw7753385149333686820 : True := ⟨⟩
theorem tw790110276464148091 : True := ⟨⟩
theorem tw15482535554754826050 : True := ⟨⟩
theorem tw12571730578835060748 : True := ⟨⟩
theorem tw7497865366068653446 : True := ⟨⟩
theorem tw316101991299331726 : True := ⟨⟩
theorem tw10434280083450874095 : True := ⟨⟩
theorem tw11722464982993846184 : True := ⟨⟩
theorem tw15197938961149533695 : True := ⟨⟩
theorem tw12275188720323336661 : True := ⟨⟩
theorem tw13295122254693585335 : True := ⟨⟩
theorem tw5913700927383117675 : True := ⟨⟩
theorem tw16486032072504122582 : True := ⟨⟩
theorem tw6258764184609525416 : True := ⟨⟩
theorem tw5151992256831313564 : True := ⟨⟩
theorem tw10272775976274287515 : True := ⟨⟩
theorem tw6693954451689035669 : True := ⟨⟩
theorem tw9325199806567259505 : True := ⟨⟩
theorem tw16286486882656196704 : True := ⟨⟩
theorem tw13752457485271510650 : True := ⟨⟩
theorem tw5840930898610670286 : True := ⟨⟩
theorem tw4890343290268575686 : True := ⟨⟩
theorem tw13816693421525213125 : True := ⟨⟩
theorem tw7497088082773539299 : True := ⟨⟩
theorem tw17127566117414020764 : True := ⟨⟩
theorem tw13324066965129369144 : True := ⟨⟩
theorem tw8737006300975743521 : True := ⟨⟩
theorem tw6862957968060644533 : True := ⟨⟩
theorem tw13955683555105029012 : True := ⟨⟩
theorem tw7596134459146949731 : True := ⟨⟩
theorem tw7549082289093959449 : True := ⟨⟩
theorem tw14728098158445314984 : True := ⟨⟩
theorem tw15324195821451660785 : True := ⟨⟩
theorem tw6714191975887110976 : True := ⟨⟩
theorem tw559536592839409344 : True := ⟨⟩
theorem tw9551932753143042287 : True := ⟨⟩
theorem tw12721522380402861362 : True := ⟨⟩
theorem tw11699470302549890545 : True := ⟨⟩
theorem tw12593324815879541417 : True := ⟨⟩
theorem tw4683437339776557401 : True := ⟨⟩
theorem tw1441201620853945454 : True := ⟨⟩
theorem tw1517435263803865058 : True := ⟨⟩
theorem tw3451114361040122004 : True := ⟨⟩
theorem tw14679656548366752557 : True := ⟨⟩
theorem tw8438804383106439405 : True := ⟨⟩
theorem tw9190959601973461531 : True := ⟨⟩
theorem tw2947351649795559737 : True := ⟨⟩
theorem tw8893828387639806736 : True := ⟨⟩
theorem tw3958699789364819670 : True := ⟨⟩
theorem tw1177072075273106140 : True := ⟨⟩
theorem tw824957593838384704 : True := ⟨⟩
theorem tw6876050418199954686 : True := ⟨⟩
theorem tw769655698830892153 : True := ⟨⟩
theorem tw5049597614435072795 : True := ⟨⟩
theorem tw2623002742320697530 : True := ⟨⟩
theorem tw11226910102466053262 : True := ⟨⟩
theorem tw8773595121925391763 : True := ⟨⟩
theorem tw9148801132787438991 : True := ⟨⟩
theorem tw17612880763453520588 : True := ⟨⟩
theorem tw15612152832064195793 : True := ⟨⟩
theorem tw6483690077657796796 : True := ⟨⟩
theorem tw2754691738222759979 : True := ⟨⟩
theorem tw3802370076913124642 : True := ⟨⟩
theorem tw18309759294757091755 : True := ⟨⟩
theorem tw11572653839361065744 : True := ⟨⟩
theorem tw12239172879950910786 : True := ⟨⟩
theorem tw3573450160175410803 : True := ⟨⟩
theorem tw10210434540180466826 : True := ⟨⟩
theorem tw13413152491315485553 : True := ⟨⟩
theorem tw1372163376323150988 : True := ⟨⟩
theorem tw14093788634887051900 : True := ⟨⟩
theorem tw4734631089069907413 : True := ⟨⟩
theorem tw9903761616845151276 : True := ⟨⟩
theorem tw763607441577756489 : True := ⟨⟩
theorem tw16614299816451522474 : True := ⟨⟩
theorem tw13779602746725087216 : True := ⟨⟩
theorem tw2831809501170456396 : True := ⟨⟩
theorem tw16402705907389218901 : True := ⟨⟩
theorem tw8594714002836304678 : True := ⟨⟩
theorem tw88325727279608555 : True := ⟨⟩
theorem tw7647467821018266008 : True := ⟨⟩
theorem tw9007806067361665942 : True := ⟨⟩
theorem tw4231271041656277127 : True := ⟨⟩
theorem tw7970374020540810008 : True := ⟨⟩
theorem tw12254823579305976667 : True := ⟨⟩
theorem tw5531634752260020612 : True := ⟨⟩
theorem tw4495219322767195245 : True := ⟨⟩
theorem tw12254438038985311842 : True := ⟨⟩
theorem tw10339974688993453383 : True := ⟨⟩
theorem tw13135840530881003551 : True := ⟨⟩
theorem tw10378052646651256217 : True := ⟨⟩
theorem tw8308462809705899467 : True := ⟨⟩
theorem tw11875934230348182492 : True := ⟨⟩
theorem tw10548408186990495137 : True := ⟨⟩
theorem tw61292222925359316 : True := ⟨⟩
theorem tw14475833218093403872 : True := ⟨⟩
theorem tw15240324538266408746 : True := ⟨⟩
theorem tw14469941099599973513 : True := ⟨⟩
theorem tw4521247511588687437 : True := ⟨⟩
theorem tw2007428069853002714 : True := ⟨⟩
theorem tw2038355482734276143 : True := ⟨⟩
theorem tw8680371181435863589 : True := ⟨⟩
theorem tw17627838536330403652 : True := ⟨⟩
theorem tw4140451884187539936 : True := ⟨⟩
theorem tw6251671721104175629 : True := ⟨⟩
theorem tw8257872295744574928 : True := ⟨⟩
theorem tw7234966785452908277 : True := ⟨⟩
theorem tw14948389956989633161 : True := ⟨⟩
theorem tw8769267739695242977 : True := ⟨⟩
theorem tw8327048751495694067 : True := ⟨⟩
theorem tw10609307266000910706 : True := ⟨⟩
theorem tw16332097861651158633 : True := ⟨⟩
theorem tw7176823633658952261 : True := ⟨⟩
theorem tw4898491514383179918 : True := ⟨⟩
theorem tw10770294772491520369 : True := ⟨⟩
theorem tw12502330181309267080 : True := ⟨⟩
theorem tw13326475451373751111 : True := ⟨⟩
theorem tw10052051160232990665 : True := ⟨⟩
theorem tw10536230809084105349 : True := ⟨⟩
theorem tw14710543329873611253 : True := ⟨⟩
theorem tw15917462606887437236 : True := ⟨⟩
theorem tw4313104320135802078 : True := ⟨⟩
theorem tw6783867771981511372 : True := ⟨⟩
theorem tw10391550271377903583 : True := ⟨⟩
theorem tw7510060387968234843 : True := ⟨⟩
theorem tw509258922139530656 : True := ⟨⟩
theorem tw5667204511155167830 : True := ⟨⟩
theorem tw18403129664680460175 : True := ⟨⟩
theorem tw17816687663793924055 : True := ⟨⟩
theorem tw11174724685743225246 : True := ⟨⟩
theorem tw7537322159901548926 : True := ⟨⟩
theorem tw9936152757711907613 : True := ⟨⟩
theorem tw7114522241087214952 : True := ⟨⟩
theorem tw17899507126032457573 : True := ⟨⟩
theorem tw15741036744998144228 : True := ⟨⟩
theorem tw143593426237821870 : True := ⟨⟩
theorem tw8919616514873602492 : True := ⟨⟩
theorem tw11944061228284391239 : True := ⟨⟩
theorem tw10481621897538325276 : True := ⟨⟩
theorem tw5570094398205704364 : True := ⟨⟩
theorem tw129469718248886391 : True := ⟨⟩
theorem tw7178629865472607450 : True := ⟨⟩
theorem tw12848629310033101769 : True := ⟨⟩
theorem tw9180793202690342690 : True := ⟨⟩
theorem tw14149973046858143129 : True := ⟨⟩
theorem tw7794386076687610469 : True := ⟨⟩
theorem tw488027981041811747 : True := ⟨⟩
theorem tw9945719221186522707 : True := ⟨⟩
theorem tw18024639296342130415 : True := ⟨⟩
theorem tw16108388218523101908 : True := ⟨⟩
theorem tw3403848745781241946 : True := ⟨⟩
theorem tw17375895111836251598 : True := ⟨⟩
theorem tw7432121034770381387 : True := ⟨⟩
theorem tw17192079953134724445 : True := ⟨⟩
theorem tw4892401732337037250 : True := ⟨⟩
theorem tw1324401026487866344 : True := ⟨⟩
theorem tw16726644789134507741 : True := ⟨⟩
theorem tw1760734507198256105 : True := ⟨⟩
theorem tw4253431320615155090 : True := ⟨⟩
theorem tw14423539167083298080 : True := ⟨⟩
theorem tw1932965079832902074 : True := ⟨⟩
theorem tw15512569590171224841 : True := ⟨⟩
theorem tw12244152114000762385 : True := ⟨⟩
theorem tw12106187252699403900 : True := ⟨⟩
theorem tw1547850670555641895 : True := ⟨⟩
theorem tw18208589790852334986 : True := ⟨⟩
theorem tw18336099042303944816 : True := ⟨⟩
theorem tw2523405513179916537 : True := ⟨⟩
theorem tw15524196897686136558 : True := ⟨⟩
theorem tw2606800976241947091 : True := ⟨⟩
theorem tw5168426995610719308 : True := ⟨⟩
theorem tw17008255453875055971 : True := ⟨⟩
theorem tw6451385585673164908 : True := ⟨⟩
theorem tw4382314604720575767 : True := ⟨⟩
theorem tw6402202399356054346 : True := ⟨⟩
theorem tw18151712308824874162 : True := ⟨⟩
theorem tw919637610902710351 : True := ⟨⟩
theorem tw15356824842993752238 : True := ⟨⟩
theorem tw158259105509181598 : True := ⟨⟩
theorem tw183583778397084318 : True := ⟨⟩
theorem tw4019686296366707476 : True := ⟨⟩
theorem tw8510971922583416730 : True := ⟨⟩
theorem tw2415674175564137267 : True := ⟨⟩
theorem tw8073275821997949749 : True := ⟨⟩
theorem tw1176889671745148189 : True := ⟨⟩
theorem tw5361618842091172492 : True := ⟨⟩
theorem tw13673667237245307912 : True := ⟨⟩
theorem tw15551980677049646078 : True := ⟨⟩
theorem tw10084607748888254562 : True := ⟨⟩
theorem tw18023479475117547340 : True := ⟨⟩
theorem tw8966220056736584340 : True := ⟨⟩
theorem tw2186788064627491671 : True := ⟨⟩
theorem tw16826887410058964380 : True := ⟨⟩
theorem tw18186878847970685883 : True := ⟨⟩
theorem tw16179372660715206226 : True := ⟨⟩
theorem tw329048918089042942 : True := ⟨⟩
theorem tw4884640471910953513 : True := ⟨⟩
theorem tw6164903481991536420 : True := ⟨⟩
theorem tw5436052295696865496 : True := ⟨⟩
theorem tw3090212862017020113 : True := ⟨⟩
theorem tw5555478774386186518 : True := ⟨⟩
end PySem.W.Fast
open PySem PySem.W PyProof.Rows
set_option maxRecDepth 100000 in
set_option maxHeartbeats 0 in
theorem PySem.Challenge.cw_wholemint_s01_answers_holds : PySem.Challenge.rw_wholemint_s01_answers.Holds := by
  w_on; k_headS; (case hw => exact ⟨[.list [.int 0, .int 5]], by decide +kernel, by decide +kernel⟩)
  k_fillS
  refine L2.walk_specK (r := PySem.Challenge.rw_wholemint_s01_answers) (k := 12) (CX := L2.CX0) (ps := ["calls"]) (sp := Mi.sp_answers) (by decide +kernel) rfl rfl ⟨rfl, by decide, by decide⟩ (fun w h Y => PySem.W.kIn_of Y) ?F ?S (fun _ _ _ _ z => z)
  case F =>
    intro w mg fa h Y KX G hmg
    have T : ∃ Z : Mi.Adr, Mi.Txt (L2.KOf KX) mg Z := by
      dsimp only [L2.KOf]
      refine' Mi.txt_mk KX G ?_ ?_ ?_ ?_ ?_ ?_ ?_ ?_ ?_ ?_ ?_ ?_ ?_ ?_ ?_ ?_ ?_ ?_ ?_ ?_ ?_ ?_ ?_ ?_ ?_ ?_ ?_ ?_ ?_ ?_ ?_ ?_ ?_ ?_ ?_ ?_ ?_ ?_ ?_ ?_ ?_ ?_ ?_ ?_ ?_ ?_ ?_ ?_ ?_ ?_ ?_ ?_ ?_ ?_ ?_ ?_ ?_ ?_ ?_ ?_ ?_ ?_ ?_ ?_ ?_ ?_ ?_ ?_ ?_ ?_ ?_ ?_ ?_ ?_ ?_ ?_ ?_ ?_ ?_ ?_ ?_ ?_ ?_ ?_ ?_ ?_ ?_ ?_ ?_ ?_ ?_ ?_ ?_ ?_ ?_ ?_ ?_ ?_ ?_ ?_ ?_ ?_ ?_ ?_ ?_ ?_ ?_ ?_ ?_ ?_ ?_ ?_ ?_ ?_ ?_ ?_ ?_ ?_ ?_ ?_ ?_ ?_ ?_ ?_ ?_ ?_ ?_ ?_ ?_ ?_ ?_ ?_ ?_ ?_ ?_ ?_ ?_ ?_ ?_ ?_ ?_ ?_ ?_ ?_ ?_ ?_ ?_ ?_ ?_ ?_ ?_ ?_ ?_ ?_ ?_ ?_ ?_ ?_ ?_ ?_ ?_ ?_ ?_ ?_ ?_ ?_ ?_ ?_ ?_ ?_ ?_ ?_ ?_ ?_ ?_ ?_ ?_ ?_ ?_ ?_ ?_ ?_ ?_ ?_ ?_ ?_ ?_ ?_ ?_ ?_ ?_ ?_ ?_ ?_ ?_ ?_ ?_ ?_ ?_ ?_ ?_ ?_ ?_ ?_ ?_ ?_ ?_ ?_ ?_ ?_ ?_ ?_ ?_ ?_ ?_ ?_ ?_ ?_ ?_ ?_ ?_ ?_ ?_ ?_ ?_ ?_ ?_ ?_ ?_ ?_ ?_ ?_ ?_ ?_ ?_ ?_ ?_ ?_ ?_ ?_ ?_ ?_ ?_ ?_ ?_ ?_ ?_ ?_ ?_ ?_ ?_ ?_ ?_ ?_ ?_ ?_ ?_ ?_ ?_ ?_ ?_ ?_ ?_ ?_ ?_ ?_ ?_ ?_ ?_ ?_ ?_ ?_ ?_ ?_ ?_ ?_ ?_ ?_ ?_ ?_ ?_ ?_ ?_ ?_ ?_ ?_ ?_ ?_ ?_ ?_ ?_ ?_ ?_ ?_ ?_ ?_ ?_ ?_ ?_ ?_ ?_ ?_ ?_ ?_ ?_ ?_ ?_ ?_ ?_ ?_ ?_ ?_ ?_ ?_ ?_ ?_ ?_ ?_ ?_ ?_ ?_ ?_ ?_ ?_ ?_ ?_ ?_ ?_ ?_ ?_ ?_ ?_ ?_ ?_ ?_ ?_ ?_ ?_ ?_ ?_ ?_ ?_ ?_ ?_ ?_ ?_ ?_ ?_ ?_ ?_ ?_ ?_ ?_ ?_ ?_ ?_ ?_ ?_ ?_ ?_ ?_ ?_ ?_ ?_ ?_ ?_ ?_ ?_ ?_ ?_ ?_ ?_ ?_ ?_ ?_ ?_ ?_ ?_ ?_ ?_ ?_ ?_ ?_ ?_ ?_ ?_ ?_ ?_ ?_ ?_ ?_ ?_ ?_ ?_ ?_ ?_ ?_ ?_ ?_ ?_ ?_ ?_ ?_ ?_ ?_ ?_ ?_ ?_ ?_ ?_ ?_ ?_ ?_ ?_ ?_ ?_ ?_ ?_ ?_ ?_ ?_ ?_ ?_ ?_ ?_ ?_ ?_ ?_ ?_ ?_ ?_ ?_ ?_ ?_ ?_ ?_ ?_ ?_ ?_ ?_ ?_ ?_ ?_ ?_ ?_ ?_ ?_ ?_ ?_ ?_ ?_ ?_ ?_ ?_ ?_ ?_ ?_ ?_ ?_ ?_ ?_ ?_ ?_ ?_ ?_ ?_ ?_ ?_ ?_ ?_ ?_ ?_ ?_ ?_ ?_ ?_ ?_ ?_ ?_
      rotate_left 820
      iterate 466 k_is
      (· decide)
      (· exact .cons ⟨_, rfl⟩ (.cons ⟨_, rfl⟩ (.cons ⟨_, rfl⟩ (.cons ⟨_, rfl⟩ (.cons ⟨_, rfl⟩ (.cons ⟨_, rfl⟩ (.cons ⟨_, rfl⟩ (.cons ⟨_, rfl⟩ (.cons ⟨_, rfl⟩ (.cons ⟨_, rfl⟩ (.cons ⟨_, rfl⟩ (.cons ⟨_, rfl⟩ (.cons ⟨_, rfl⟩ (.cons ⟨_, rfl⟩ (.cons ⟨_, rfl⟩ (.cons ⟨_, rfl⟩ (.cons ⟨_, rfl⟩ (.cons ⟨_, rfl⟩ (.cons ⟨_, rfl⟩ (.cons ⟨_, rfl⟩ (.cons ⟨_, rfl⟩ (.cons ⟨_, rfl⟩ (.cons ⟨_, rfl⟩ (.cons ⟨_, rfl⟩ (.cons ⟨_, rfl⟩ (.cons ⟨_, rfl⟩ (.cons ⟨_, rfl⟩ (.nil))))))))))))))))))))))))))))
      iterate 2 k_is
      (· decide)
      (· exact .cons ⟨_, rfl⟩ (.cons ⟨_, rfl⟩ (.cons ⟨_, rfl⟩ (.cons ⟨_, rfl⟩ (.cons ⟨_, rfl⟩ (.cons ⟨_, rfl⟩ (.cons ⟨_, rfl⟩ (.cons ⟨_, rfl⟩ (.cons ⟨_, rfl⟩ (.cons ⟨_, rfl⟩ (.nil)))))))))))
      iterate 7 k_is
    obtain ⟨Z, T⟩ := T
    have e0 := hmg.symm.trans T.g_answers
    cases e0
    exact ⟨Z.d_answers, Mi.b_answers' T, fun base kb nb => Mi.ok_answers T⟩
  case S =>
    intro K H xs a hO hwi hask hx
    cases hx with
    | cons h1 h2 =>
      cases h2
      cases h1 with
      | lst hs ha =>
        have e := L2.ints_dw a.1 _ ha
        subst e
        exact ⟨_, a.1, rfl, hs, hask, fun H' p hp => .lst (L2.SqL.of hp) (L2.dw_ints _)⟩


